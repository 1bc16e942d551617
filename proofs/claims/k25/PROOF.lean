import PyProof.Rows.All
import Wide.All
import OpenK.AllK
import Wide.FinOn
import HandS.ForMost
import HandS.Property
import HandS.Defaults
import HandS.IsInst
import HandS.Wide
import HandS.WideBits
import HandS.ClsMeth
import HandS.MakeKw
import HandS.MakeKwOnly
import HandS.FStr
import HandS.RaiseMore
import HandS.Gcd
import KE.KFmtOwn
import PyProof.ReprNest
import PyProof.ReprRoads
import HandS.Zip
import HandS.List
import PyProof.StrOps2
import HandS.Dict
import HandS.Walk
import HandS.Conv
import HandS.TupLen
import HandS.TupSets
import HandS.DictComp
import KE.KDictPairs
import HandS.DictTup
import HandS.OwnEq
import HandS.DictEq
import KE.GoesZip
import HandS.Text
import HandS.Codes
import HandS.StrMore
import KE.KMathGC
import KE.GoesEnum
import PyProof.CollectStr
import PyProof.ListStr
import HandS.More
import HandS.TupAny
import HandS.Ends
import KE.IntBitsLaws
import PySem.Challenge.RW_onecrest_k25_any_value_as_misfit
import KE.SortKeyHeap
import HandS.SortKw
import PyProof.TupleOfSeq
import HandS.Deep
import KE.KDictDisplayH
import KE.GoesMore
import PyProof.ReprLen
import HandS.SortInts
import KE.KDictCopyH
import KE.KDictOf
import HandS.TupMul
import HandS.SetFor
import HandS.Strs
set_option Elab.async false
set_option linter.all false
set_option maxRecDepth 100000
set_option maxHeartbeats 2000000
/-! DL: a layer of data over the heap: what an expression, a statement, a def does, told of data alone (immutable data, lists owned by one name, pots) -/
namespace DL
open PySem L2

/-! ### data -/
inductive D where
  | non | bl (b : Bool) | int (i : Int) | str (s : Str) | ty (n : String) | cls (a : Addr)
  | tup (l : List D) | lst (l : List D) | frl (l : List Int)
  | obj (C : Addr) (fs : List (Str × D))
  | dct
  | dcT (kvs : List (List Key × D)) | dcK (kvs : List (Key × D))

mutual
/-- v is the datum d, in the heap I of what never changes -/
inductive Dn (K : PySem.W.Frag) (I : Hp) : D → V → Prop
  | non : Dn K I .non .non
  | bl (b) : Dn K I (.bl b) (.bl b)
  | int (i) : Dn K I (.int i) (.int i)
  | str (s) : Dn K I (.str s) (.str s)
  | ty (n) : Dn K I (.ty n) (.ty n)
  | cls (a) : Dn K I (.cls a) (.ref a)
  | tup {l a xs} : I a = some (.tup xs) → Dns K I l xs → Dn K I (.tup l) (.ref a)
  | lst {l a xs} : I a = some (.lst xs) → Dns K I l xs → Dn K I (.lst l) (.ref a)
  | frl {l : List Int} {a} : SqL K I a (l.map V.int) → Dn K I (.frl l) (.ref a)
  | obj {C fs a dx vs} : I a = some (.ins C dx vs) → Dnf K I fs vs → Dn K I (.obj C fs) (.ref a)
  | dct {a kvs} : I a = some (.dK kvs) → Dn K I .dct (.ref a)
  | dcT {kvs a o ws} : I a = some (.frz o (.dT ws)) → Dnt K I kvs ws → Dn K I (.dcT kvs) (.ref a)
  | dcK {kvs a ws} : I a = some (.dK ws) → Dnk K I kvs ws → Dn K I (.dcK kvs) (.ref a)
inductive Dns (K : PySem.W.Frag) (I : Hp) : List D → List V → Prop
  | nil : Dns K I [] []
  | cons {d v l xs} : Dn K I d v → Dns K I l xs → Dns K I (d :: l) (v :: xs)
inductive Dnf (K : PySem.W.Frag) (I : Hp) : List (Str × D) → List (Str × V) → Prop
  | nil : Dnf K I [] []
  | cons {f d v l xs} : Dn K I d v → Dnf K I l xs → Dnf K I ((f, d) :: l) ((f, v) :: xs)
inductive Dnt (K : PySem.W.Frag) (I : Hp) : List (List Key × D) → List (List Key × V) → Prop
  | nil : Dnt K I [] []
  | cons {f d v l xs} : Dn K I d v → Dnt K I l xs → Dnt K I ((f, d) :: l) ((f, v) :: xs)
inductive Dnk (K : PySem.W.Frag) (I : Hp) : List (Key × D) → List (Key × V) → Prop
  | nil : Dnk K I [] []
  | cons {f d v l xs} : Dn K I d v → Dnk K I l xs → Dnk K I ((f, d) :: l) ((f, v) :: xs)
end
def Ex (H H' : Hp) : Prop := ∀ a o, H a = some o → H' a = some o
theorem Ex.refl (H : Hp) : Ex H H := fun _ _ h => h
theorem Ex.trans {H H1 H2 : Hp} (a : Ex H H1) (b : Ex H1 H2) : Ex H H2 := fun x o h => b x o (a x o h)
theorem Ex.new {H : Hp} {p : Addr} {o : HO} (h : H p = none) : Ex H (upd H p o) := fun a u e => by
  rw [upd_ne (ne_of_none e h)]
  exact e
theorem Ex.free {H H' : Hp} (e : Ex H H') {p : Addr} (h : H' p = none) : H p = none := by
  cases h1 : H p with
  | none => rfl
  | some o =>
    rw [e p o h1] at h
    cases h
theorem Ex.l {K : PySem.W.Frag} {H H' : Hp} {a : Addr} {xs : List V} (e : Ex H H') (h : SqL K H a xs) : SqL K H' a xs := by
  rcases h with (h | ⟨o, h⟩) | h
  · exact .inl (.inl (e _ _ h))
  · exact .inl (.inr ⟨o, e _ _ h⟩)
  · exact .inr h
section
variable {K : PySem.W.Frag} {I I' : Hp}
mutual
theorem Dn.mono (e : Ex I I') : ∀ {d : D} {v : V}, Dn K I d v → Dn K I' d v
  | _, _, .non => .non
  | _, _, .bl b => .bl b
  | _, _, .int i => .int i
  | _, _, .str s => .str s
  | _, _, .ty n => .ty n
  | _, _, .cls a => .cls a
  | _, _, .tup h r => .tup (e _ _ h) (Dns.mono e r)
  | _, _, .lst h r => .lst (e _ _ h) (Dns.mono e r)
  | _, _, .frl h => .frl (e.l h)
  | _, _, .obj h r => .obj (e _ _ h) (Dnf.mono e r)
  | _, _, .dct h => .dct (e _ _ h)
  | _, _, .dcT h r => .dcT (e _ _ h) (Dnt.mono e r)
  | _, _, .dcK h r => .dcK (e _ _ h) (Dnk.mono e r)
theorem Dns.mono (e : Ex I I') : ∀ {l : List D} {xs : List V}, Dns K I l xs → Dns K I' l xs
  | _, _, .nil => .nil
  | _, _, .cons h r => .cons (Dn.mono e h) (Dns.mono e r)
theorem Dnf.mono (e : Ex I I') : ∀ {l : List (Str × D)} {xs : List (Str × V)}, Dnf K I l xs → Dnf K I' l xs
  | _, _, .nil => .nil
  | _, _, .cons h r => .cons (Dn.mono e h) (Dnf.mono e r)
theorem Dnt.mono (e : Ex I I') : ∀ {l : List (List Key × D)} {xs : List (List Key × V)}, Dnt K I l xs → Dnt K I' l xs
  | _, _, .nil => .nil
  | _, _, .cons h r => .cons (Dn.mono e h) (Dnt.mono e r)
theorem Dnk.mono (e : Ex I I') : ∀ {l : List (Key × D)} {xs : List (Key × V)}, Dnk K I l xs → Dnk K I' l xs
  | _, _, .nil => .nil
  | _, _, .cons h r => .cons (Dn.mono e h) (Dnk.mono e r)
end
theorem Dns.length : ∀ {l : List D} {xs : List V}, Dns K I l xs → l.length = xs.length
  | _, _, .nil => rfl
  | _, _, .cons _ r => congrArg (· + 1) (Dns.length r)
theorem Dns.append : ∀ {l m : List D} {xs ys : List V}, Dns K I l xs → Dns K I m ys → Dns K I (l ++ m) (xs ++ ys)
  | _, _, _, _, .nil, s => s
  | _, _, _, _, .cons h r, s => .cons h (Dns.append r s)
theorem Dns.get : ∀ {l : List D} {xs : List V} {i : Nat} {v : V}, Dns K I l xs → xs[i]? = some v → ∃ d, l[i]? = some d ∧ Dn K I d v
  | _, _, _, _, .nil, e => by simp at e
  | _, _, 0, _, .cons h _, e => by
    simp at e
    subst e
    exact ⟨_, rfl, h⟩
  | _, _, i + 1, _, .cons _ r, e => by
    obtain ⟨d, h1, h2⟩ := Dns.get (i := i) r (by simpa using e)
    exact ⟨d, by simpa using h1, h2⟩
theorem Dns.get' : ∀ {l : List D} {xs : List V} {i : Nat} {d : D}, Dns K I l xs → l[i]? = some d → ∃ v, xs[i]? = some v ∧ Dn K I d v
  | _, _, _, _, .nil, e => by simp at e
  | _, _, 0, _, .cons h _, e => by
    simp at e
    subst e
    exact ⟨_, rfl, h⟩
  | _, _, i + 1, _, .cons _ r, e => by
    obtain ⟨d, h1, h2⟩ := Dns.get' (i := i) r (by simpa using e)
    exact ⟨d, by simpa using h1, h2⟩
theorem Dns.set {d : D} {v : V} (h : Dn K I d v) : ∀ {l : List D} {xs : List V} (i : Nat), Dns K I l xs → Dns K I (l.set i d) (xs.set i v)
  | _, _, _, .nil => .nil
  | _, _, 0, .cons _ r => .cons h r
  | _, _, i + 1, .cons q r => .cons q (Dns.set h i r)
theorem Dns.rep {l : List D} {xs : List V} (h : Dns K I l xs) : ∀ n : Nat, Dns K I (List.replicate n l).flatten (List.replicate n xs).flatten
  | 0 => .nil
  | n + 1 => by
    rw [List.replicate_succ, List.replicate_succ, List.flatten_cons, List.flatten_cons]
    exact h.append (Dns.rep h n)
theorem Dnf.look : ∀ {fs : List (Str × D)} {vs : List (Str × V)} {f : Str} {d : D}, Dnf K I fs vs → fs.lookup f = some d → ∃ v, vs.lookup f = some v ∧ Dn K I d v
  | _, _, _, _, .nil, e => by simp at e
  | _, _, f, d, .cons (f := g) h r, e => by
    by_cases q : f = g
    · subst q
      simp only [List.lookup_cons, beq_self_eq_true] at e ⊢
      cases e
      exact ⟨_, rfl, h⟩
    · have z : (f == g) = false := beq_eq_false_iff_ne.mpr q
      simp only [List.lookup_cons, z] at e ⊢
      exact Dnf.look r e
theorem Dnf.nolook : ∀ {fs : List (Str × D)} {vs : List (Str × V)} {f : Str}, Dnf K I fs vs → fs.lookup f = none → vs.lookup f = none
  | _, _, _, .nil, _ => rfl
  | _, _, f, .cons (f := g) h r, e => by
    by_cases q : f = g
    · subst q
      simp only [List.lookup_cons, beq_self_eq_true] at e
      cases e
    · have z : (f == g) = false := beq_eq_false_iff_ne.mpr q
      simp only [List.lookup_cons, z] at e ⊢
      exact Dnf.nolook r e
end

/-! ### worlds -/
/-- what never changes; which addresses are pots -/
structure Wd where
  I : Hp
  P : Addr → Prop
def PotAt (H : Hp) (a : Addr) : Prop := ∃ x y : Int, H a = some (.lst [.int x, .int y]) ∧ 0 ≤ y ∧ y < 2 ^ 31
def InG (g : List Code) (b : Addr) : Prop := ∃ id rest kw, Code.builtin id ⟨.ref b :: rest, kw⟩ ∈ g
theorem clear_of {g : List Code} {b : Addr} (h : ¬ InG g b) : Clear g b := fun id v rest kw hm e => h ⟨id, rest, kw, e ▸ hm⟩
/-- the guards that stand around: what is being written as a text -/
def gOf (X : Cx) : List Code := X.A.guards.getD []
structure Ok (g : List Code) (W : Wd) (H : Hp) : Prop where
  gd : ∀ b, InG g b → W.I b = none ∧ H b ≠ none ∧ ∀ ks : List Key, H b ≠ some (.tup (ks.map kV))
  ex : Ex W.I H
  pot : ∀ a, W.P a → W.I a = none ∧ PotAt H a
structure Stp (W : Wd) (H : Hp) (W' : Wd) (H' : Hp) : Prop where
  I : Ex W.I W'.I
  P : ∀ a, W.P a → W'.P a
  keep : ∀ b o, H b = some o → ¬ W.P b → H' b = some o
  old : ∀ b o, H b = some o → (∀ xs, o ≠ .tup xs) → W.I b = none → W'.I b = none
  oldP : ∀ b o, H b = some o → W'.P b → W.P b
section
variable {g : List Code} {W W1 W2 : Wd} {H H1 H2 : Hp}
theorem Stp.refl : Stp W H W H := ⟨Ex.refl _, fun _ h => h, fun _ _ h _ => h, fun _ _ _ _ h => h, fun _ _ _ h => h⟩
theorem Stp.some (a : Stp W H W1 H1) (ok : Ok g W1 H1) {b : Addr} {o : HO} (h : H b = .some o) : ∃ o', H1 b = .some o' := by
  by_cases q : W.P b
  · obtain ⟨x, y, e, _⟩ := (ok.pot b (a.P b q)).2
    exact ⟨_, e⟩
  · exact ⟨o, a.keep b o h q⟩
theorem Stp.trans (a : Stp W H W1 H1) (ok : Ok g W1 H1) (b : Stp W1 H1 W2 H2) : Stp W H W2 H2 where
  I := a.I.trans b.I
  P := fun x h => b.P x (a.P x h)
  keep := fun x o h n => b.keep x o (a.keep x o h n) fun z => n (a.oldP x o h z)
  old := fun x o h t n => by
    by_cases q : W.P x
    · obtain ⟨y1, y2, e, _⟩ := (ok.pot x (a.P x q)).2
      exact b.old x _ e (fun _ z => by cases z) (a.old x o h t n)
    · exact b.old x o (a.keep x o h q) t (a.old x o h t n)
  oldP := fun x o h p => by
    obtain ⟨o', h'⟩ := a.some ok h
    exact a.oldP x o h (b.oldP x o' h' p)
theorem Stp.free (a : Stp W H W1 H1) (ok : Ok g W1 H1) {p : Addr} (h : H1 p = none) : H p = none := by
  cases e : H p with
  | none => rfl
  | some o =>
    obtain ⟨o', e'⟩ := a.some ok e
    rw [h] at e'
    cases e'
theorem Ok.free (ok : Ok g W H) {p : Addr} (h : H p = none) : W.I p = none := ok.ex.free h
theorem Ok.notP (ok : Ok g W H) {p : Addr} (h : H p = none) : ¬ W.P p := fun z => by
  obtain ⟨x, y, e, _⟩ := (ok.pot p z).2
  rw [h] at e
  cases e
/-- something new that never changes -/
abbrev Wd.new (W : Wd) (p : Addr) (o : HO) : Wd := ⟨upd W.I p o, W.P⟩
theorem Ok.new {p : Addr} {o : HO} (ok : Ok g W H) (h : H p = none) : Ok g (W.new p o) (upd H p o) where
  gd := fun b hb => by
    obtain ⟨n, m, m2⟩ := ok.gd b hb
    have ne : b ≠ p := fun z => m (z ▸ h)
    refine ⟨?_, by rw [upd_ne ne]; exact m, by rw [upd_ne ne]; exact m2⟩
    show upd W.I p o b = none
    rw [upd_ne ne]
    exact n
  ex := fun a u e => by
    have e' : upd W.I p o a = some u := e
    by_cases q : a = p
    · subst q
      rw [upd_same] at e' ⊢
      exact e'
    · rw [upd_ne q] at e' ⊢
      exact ok.ex a u e'
  pot := fun a pa => by
    have q : a ≠ p := fun z => ok.notP h (z ▸ pa)
    obtain ⟨n, x, y, e⟩ := ok.pot a pa
    refine ⟨?_, x, y, ?_⟩
    · show upd W.I p o a = none
      rw [upd_ne q]
      exact n
    · rw [upd_ne q]
      exact e
theorem Stp.new {p : Addr} {o : HO} (ok : Ok g W H) (h : H p = none) : Stp W H (W.new p o) (upd H p o) where
  I := Ex.new (ok.free h)
  P := fun _ z => z
  keep := fun b u e _ => Ex.new h b u e
  old := fun b u e _ n => by
    show upd W.I p o b = none
    rw [upd_ne (ne_of_none e h)]
    exact n
  oldP := fun _ _ _ z => z
/-- a new object that is not (yet) part of what never changes -/
theorem Ok.own {p : Addr} {o : HO} (ok : Ok g W H) (h : H p = none) : Ok g W (upd H p o) where
  gd := fun b hb => by
    obtain ⟨n, m, m2⟩ := ok.gd b hb
    have ne : b ≠ p := fun z => m (z ▸ h)
    exact ⟨n, by rw [upd_ne ne]; exact m, by rw [upd_ne ne]; exact m2⟩
  ex := ok.ex.trans (Ex.new h)
  pot := fun a pa => by
    obtain ⟨n, x, y, e⟩ := ok.pot a pa
    exact ⟨n, x, y, Ex.new h _ _ e.1, e.2⟩
theorem Stp.own {p : Addr} {o : HO} (h : H p = none) : Stp W H W (upd H p o) :=
  ⟨Ex.refl _, fun _ z => z, fun b u e _ => Ex.new h b u e, fun _ _ _ _ n => n, fun _ _ _ z => z⟩
end

/-! ### slots -/
inductive Sl where
  | val (d : D) | own (l : List D) | pot | inst (C p dx : Addr) (fs : List (Str × D))
  | ownT (kvs : List (List Key × D))
abbrev En := List (Option Sl)
/-- dicts owned by unlike names are unlike -/
def DistT (S : En) (σ : L2.St) : Prop := ∀ (i j : Nat) (l m : List (List Key × D)) (p : Addr), i ≠ j → S[i]? = some (some (Sl.ownT l)) → S[j]? = some (some (Sl.ownT m)) → σ[i]? = some (some (.ref p)) → σ[j]? ≠ some (some (.ref p))
theorem DistT.set {S : En} {σ : L2.St} (h : DistT S σ) (i : Nat) {x : Option Sl} {y : Option V} (hx : ∀ l, x ≠ some (Sl.ownT l)) : DistT (S.set i x) (σ.set i y) := fun a b l m p ne e1 e2 e3 => by
  have key : ∀ c l, (S.set i x)[c]? = some (some (Sl.ownT l)) → i ≠ c := fun c l e z => by
    subst z
    by_cases q : i < S.length
    · rw [List.getElem?_set_self q] at e
      exact hx l (Option.some.inj e)
    · rw [List.getElem?_eq_none (by simpa using q)] at e
      cases e
  have qa := key a l e1
  have qb := key b m e2
  rw [List.getElem?_set_ne qa] at e1 e3
  rw [List.getElem?_set_ne qb] at e2 ⊢
  exact h a b l m p ne e1 e2 e3
theorem DistT.setS {S : En} {σ : L2.St} (h : DistT S σ) (i : Nat) {x : Option Sl} (hx : ∀ l, x = some (Sl.ownT l) → ∃ m, S[i]? = some (some (Sl.ownT m))) : DistT (S.set i x) σ := fun a b l m p ne e1 e2 e3 => by
  have key : ∀ c l, (S.set i x)[c]? = some (some (Sl.ownT l)) → ∃ m, S[c]? = some (some (Sl.ownT m)) := fun c l e => by
    by_cases z : i = c
    · subst z
      by_cases q : i < S.length
      · rw [List.getElem?_set_self q] at e
        exact hx l (Option.some.inj e)
      · rw [List.getElem?_eq_none (by simpa using q)] at e
        cases e
    · rw [List.getElem?_set_ne z] at e
      exact ⟨l, e⟩
  obtain ⟨l', f1⟩ := key a l e1
  obtain ⟨m', f2⟩ := key b m e2
  exact h a b l' m' p ne f1 f2 e3
section
variable (K : PySem.W.Frag)
def SlOk (B : Hp) (W : Wd) (H : Hp) : Sl → V → Prop
  | .val d, v => Dn K W.I d v
  | .own l, v => ∃ p xs, v = .ref p ∧ B p = none ∧ ¬ W.P p ∧ W.I p = none ∧ H p = some (.lst xs) ∧ Dns K W.I l xs
  | .pot, v => ∃ p, v = .ref p ∧ W.P p
  | .ownT kvs, v => ∃ p ws, v = .ref p ∧ B p = none ∧ ¬ W.P p ∧ W.I p = none ∧ H p = some (.dT ws) ∧ Dnt K W.I kvs ws
  | .inst C p dx fs, v => ∃ vs, v = .ref p ∧ B p = none ∧ B dx = none ∧ dx ≠ p ∧ ¬ W.P p ∧ ¬ W.P dx ∧ W.I p = none ∧ W.I dx = none ∧ H p = some (.ins C dx vs) ∧ H dx = some (.own p) ∧ Dnf K W.I fs vs
structure Rep (g : List Code) (B : Hp) (S : En) (σ : L2.St) (W : Wd) (H : Hp) : Prop where
  ok : Ok g W H
  gb : ∀ b, InG g b → B b ≠ none
  len : S.length = σ.length
  sl : ∀ (i : Nat) (s : Sl), S[i]? = some (some s) → ∃ v, σ[i]? = some (some v) ∧ SlOk K B W H s v
  dist : ∀ (i j : Nat) (l m : List D) (p : Addr), i ≠ j → S[i]? = some (some (.own l)) → S[j]? = some (some (.own m)) → σ[i]? = some (some (.ref p)) → σ[j]? ≠ some (some (.ref p))
  distT : DistT S σ
end
section
variable {K : PySem.W.Frag} {g : List Code} {B : Hp} {S : En} {σ : L2.St} {W W1 : Wd} {H H1 : Hp}
theorem SlOk.step {s : Sl} {v : V} (h : SlOk K B W H s v) (a : Stp W H W1 H1) : SlOk K B W1 H1 s v := by
  cases s with
  | val d => exact Dn.mono a.I h
  | own l =>
    obtain ⟨p, xs, e, b, n, i, hp, r⟩ := h
    exact ⟨p, xs, e, b, fun z => n (a.oldP p _ hp z), a.old p _ hp (fun _ z => by cases z) i, a.keep p _ hp n, r.mono a.I⟩
  | ownT l =>
    obtain ⟨p, xs, e, b, n, i, hp, r⟩ := h
    exact ⟨p, xs, e, b, fun z => n (a.oldP p _ hp z), a.old p _ hp (fun _ z => by cases z) i, a.keep p _ hp n, r.mono a.I⟩
  | pot =>
    obtain ⟨p, e, z⟩ := h
    exact ⟨p, e, a.P p z⟩
  | inst C p dx fs =>
    obtain ⟨vs, e, b, b2, ne, n, n2, i, i2, hp, hd, r⟩ := h
    exact ⟨vs, e, b, b2, ne, fun z => n (a.oldP p _ hp z), fun z => n2 (a.oldP dx _ hd z), a.old p _ hp (fun _ z => by cases z) i, a.old dx _ hd (fun _ z => by cases z) i2, a.keep p _ hp n, a.keep dx _ hd n2, r.mono a.I⟩
theorem Rep.step (r : Rep K g B S σ W H) (a : Stp W H W1 H1) (ok : Ok g W1 H1) : Rep K g B S σ W1 H1 :=
  ⟨ok, r.gb, r.len, fun i s e => let ⟨v, h1, h2⟩ := r.sl i s e; ⟨v, h1, h2.step a⟩, r.dist, r.distT⟩
theorem Rep.set {i : Nat} {d : D} {v : V} (r : Rep K g B S σ W H) (h : Dn K W.I d v) : Rep K g B (S.set i (some (.val d))) (σ.set i (some v)) W H where
  ok := r.ok
  gb := r.gb
  len := by simpa using r.len
  sl := fun j s e => by
    by_cases q : i = j
    · subst q
      by_cases z : i < S.length
      · rw [List.getElem?_set_self z] at e
        cases e
        exact ⟨v, List.getElem?_set_self (r.len ▸ z), h⟩
      · rw [List.getElem?_eq_none (by simpa using z)] at e
        cases e
    · rw [List.getElem?_set_ne q] at e ⊢
      exact r.sl j s e
  dist := fun a b l m p n e1 e2 e3 => by
    have qa : i ≠ a := fun z => by
      subst z
      by_cases y : i < S.length
      · rw [List.getElem?_set_self y] at e1; cases e1
      · rw [List.getElem?_eq_none (by simpa using y)] at e1; cases e1
    have qb : i ≠ b := fun z => by
      subst z
      by_cases y : i < S.length
      · rw [List.getElem?_set_self y] at e2; cases e2
      · rw [List.getElem?_eq_none (by simpa using y)] at e2; cases e2
    rw [List.getElem?_set_ne qa] at e1 e3
    rw [List.getElem?_set_ne qb] at e2 ⊢
    exact r.dist a b l m p n e1 e2 e3
  distT := r.distT.set i fun l z => by cases z
end

/-! ### the weakest readings -/
section
variable (X : Cx)
def WE (e : Expr) : TE := fun σ H Q => ∀ pins s, Inv X pins σ H s → wpAny (model X.prog X.w) X.A (eval e X.env) (EP X pins σ Q) X.xe s
def WT (e : Expr) : TT := fun σ H Q => ∀ pins s, Inv X pins σ H s → wpAny (model X.prog X.w) X.A (isTrue e X.env (eval e X.env)) (TP X pins σ Q) X.xe s
def WW (e : Expr) : TT := fun σ H Q => ∀ whole pins s, Inv X pins σ H s → wpAny (model X.prog X.w) X.A (isTrue e X.env whole) (TP X pins σ Q) X.xe s
def WA (es : List Expr) : TA := fun σ H Q => ∀ pos pins s, Inv X pins σ H s → wpAny (model X.prog X.w) X.A (spliced (backTo pos (starEach es X.env))) (AP X pins σ Q) X.xe s
def WS (st : Stmt) : TS := fun Dd σ H => ∀ pins s, Inv X pins σ H s → wpAny (model X.prog X.w) X.A (exec st X.env) (SP X pins Dd) X.xe s
def WSs (sts : List Stmt) : TS := fun Dd σ H => ∀ pins s, Inv X pins σ H s → wpAny (model X.prog X.w) X.A (execs sts X.env) (SP X pins Dd) X.xe s
def WO (f : Value → Value → Sem Value) : R2 := fun x y H Q => ∀ pins s σ v u, Inv X pins σ H s → RelV x v → RelV y u → wpAny (model X.prog X.w) X.A (f v u) (EP X pins σ Q) X.xe s
end
section
variable {X : Cx} {e : Expr} {es : List Expr} {st : Stmt} {sts : List Stmt}
theorem we_pe : PE X e (WE X e) := ⟨fun pins s _ _ _ I h => h pins s I⟩
theorem wt_pt : PT X e (WT X e) := ⟨fun pins s _ _ _ I h => h pins s I⟩
theorem ww_pw : PW X e (WW X e) := ⟨fun wh pins s _ _ _ I h => h wh pins s I⟩
theorem wa_pa : PA X es (WA X es) := ⟨fun pos pins s _ _ _ I h => h pos pins s I⟩
theorem ws_ps : PS X st (WS X st) := ⟨fun pins s _ _ _ I h => h pins s I⟩
theorem wss_pss : PSs X sts (WSs X sts) := ⟨fun pins s _ _ _ I h => h pins s I⟩
theorem wo_op {f : Value → Value → Sem Value} : OpR X f (WO X f) := fun pins s σ _ _ _ v u _ I r1 r2 h => h pins s σ v u I r1 r2
theorem PE.w {t : TE} (h : PE X e t) {σ : L2.St} {H : Hp} {Q : VK} (q : t σ H Q) : WE X e σ H Q := fun pins s I => h.run pins s σ H Q I q
theorem PT.w {t : TT} (h : PT X e t) {σ : L2.St} {H : Hp} {Q : Bool → Hp → Prop} (q : t σ H Q) : WT X e σ H Q := fun pins s I => h.run pins s σ H Q I q
theorem PW.w {t : TT} (h : PW X e t) {σ : L2.St} {H : Hp} {Q : Bool → Hp → Prop} (q : t σ H Q) : WW X e σ H Q := fun wh pins s I => h.run wh pins s σ H Q I q
theorem PA.w {t : TA} (h : PA X es t) {σ : L2.St} {H : Hp} {Q : List V → Hp → Prop} (q : t σ H Q) : WA X es σ H Q := fun pos pins s I => h.run pos pins s σ H Q I q
theorem PS.w {t : TS} (h : PS X st t) {σ : L2.St} {H : Hp} {Dd : Ends} (q : t Dd σ H) : WS X st Dd σ H := fun pins s I => h.run pins s σ H Dd I q
theorem PSs.w {t : TS} (h : PSs X sts t) {σ : L2.St} {H : Hp} {Dd : Ends} (q : t Dd σ H) : WSs X sts Dd σ H := fun pins s I => h.run pins s σ H Dd I q
theorem OpR.w {f : Value → Value → Sem Value} {r : R2} (h : OpR X f r) {x y : V} {H : Hp} {Q : VK} (q : r x y H Q) : WO X f x y H Q := fun pins s σ v u I r1 r2 => h pins s σ H x y v u Q I r1 r2 q
end

/-! ### judgements on data -/
/-- what follows: from any later world, a value that is a datum wanted -/
def Cont (K : PySem.W.Frag) (g : List Code) (W : Wd) (H : Hp) (Q : D → Prop) (R : VK) : Prop := ∀ d v W' H', Stp W H W' H' → Ok g W' H' → Dn K W'.I d v → Q d → R v H'
def ContB (g : List Code) (W : Wd) (H : Hp) (Q : Bool → Prop) (R : Bool → Hp → Prop) : Prop := ∀ b W' H', Stp W H W' H' → Ok g W' H' → Q b → R b H'
/-- arguments: data, or pots -/
def Arg (K : PySem.W.Frag) (W : Wd) : Sl → V → Prop
  | .val d, v => Dn K W.I d v
  | .pot, v => ∃ p, v = .ref p ∧ W.P p
  | .own _, _ => False
  | .ownT _, _ => False
  | .inst _ _ _ _, _ => False
abbrev Args (K : PySem.W.Frag) (W : Wd) (as : List Sl) (vs : List V) : Prop := Paired (Arg K W) as vs
def ContA (K : PySem.W.Frag) (g : List Code) (W : Wd) (H : Hp) (Q : List Sl → Prop) (R : List V → Hp → Prop) : Prop := ∀ as vs W' H', Stp W H W' H' → Ok g W' H' → Args K W' as vs → Q as → R vs H'
section
variable (X : Cx) (B : Hp) (S : En)
def ED (e : Expr) (Q : D → Prop) : Prop := ∀ σ W H, Rep X.K (gOf X) B S σ W H → ∀ R, Cont X.K (gOf X) W H Q R → WE X e σ H R
def TD (e : Expr) (Q : Bool → Prop) : Prop := ∀ σ W H, Rep X.K (gOf X) B S σ W H → ∀ R, ContB (gOf X) W H Q R → WT X e σ H R
def TW (e : Expr) (Q : Bool → Prop) : Prop := ∀ σ W H, Rep X.K (gOf X) B S σ W H → ∀ R, ContB (gOf X) W H Q R → WW X e σ H R
def AD (es : List Expr) (Q : List Sl → Prop) : Prop := ∀ σ W H, Rep X.K (gOf X) B S σ W H → ∀ R, ContA X.K (gOf X) W H Q R → WA X es σ H R
def OD (f : Value → Value → Sem Value) (x y : D) (Q : D → Prop) : Prop := ∀ v u W H, Ok (gOf X) W H → Dn X.K W.I x v → Dn X.K W.I y u → ∀ R, Cont X.K (gOf X) W H Q R → WO X f v u H R
end
section
variable {K : PySem.W.Frag} {g : List Code} {W W1 : Wd} {H H1 : Hp}
theorem Cont.step {Q : D → Prop} {R : VK} (c : Cont K g W H Q R) (a : Stp W H W1 H1) (ok : Ok g W1 H1) : Cont K g W1 H1 Q R := fun d v W' H' b ok' h q => c d v W' H' (a.trans ok b) ok' h q
theorem Cont.now {Q : D → Prop} {R : VK} (c : Cont K g W H Q R) (ok : Ok g W H) {d : D} {v : V} (h : Dn K W.I d v) (q : Q d) : R v H := c d v W H Stp.refl ok h q
theorem ContB.step {Q : Bool → Prop} {R : Bool → Hp → Prop} (c : ContB g W H Q R) (a : Stp W H W1 H1) (ok : Ok g W1 H1) : ContB g W1 H1 Q R := fun b W' H' s ok' q => c b W' H' (a.trans ok s) ok' q
theorem ContB.now {Q : Bool → Prop} {R : Bool → Hp → Prop} (c : ContB g W H Q R) (ok : Ok g W H) {b : Bool} (q : Q b) : R b H := c b W H Stp.refl ok q
theorem Args.step {as : List Sl} {vs : List V} (h : Args K W as vs) (a : Stp W H W1 H1) : Args K W1 as vs := by
  refine Paired.mapP h fun x v h1 => ?_
  · cases x with
    | val d => exact Dn.mono a.I h1
    | own l => exact h1
    | pot => obtain ⟨p, e, q⟩ := h1; exact ⟨p, e, a.P p q⟩
    | inst _ _ _ _ => exact h1
    | ownT _ => exact h1
end

/-! ### expressions -/
section
variable {X : Cx} {B : Hp} {S : En} {pos : Pos} {Q : D → Prop} {a b : Expr}
theorem ed_name {x : Str} {d : D} (i : Nat) (hN : X.N[i]? = some x) (h : S[i]? = some (some (.val d))) (q : Q d) (hv : Vis X.env.scope x := by first | exact Or.inl rfl | exact Or.inr (Or.inl rfl) | exact Or.inr (Or.inr rfl))
    (hd : (x == ("__debug__" : Str)) = false := by decide) (hcd : (x == ("__classdict__" : Str)) = false := by decide) : ED X B S (.Name x pos) Q := fun σ W H r R c => by
  obtain ⟨v, e, z⟩ := r.sl i _ h
  exact PE.w (pe_var hN hv hd hcd) ⟨v, e, c.now r.ok z q⟩
theorem ed_int {i j} (q : Q (.int i)) : ED X B S (.Constant (.int i) j pos) Q := fun σ W H r R c => PE.w pe_int (c.now r.ok (.int i) q)
theorem ed_bl {b j} (q : Q (.bl b)) : ED X B S (.Constant (.bool b) j pos) Q := fun σ W H r R c => PE.w pe_bl (c.now r.ok (.bl b) q)
theorem ed_non {j} (q : Q .non) : ED X B S (.Constant .none j pos) Q := fun σ W H r R c => PE.w pe_non (c.now r.ok .non q)
theorem ed_str {x j} (q : Q (.str x)) : ED X B S (.Constant (.str x) j pos) Q := fun σ W H r R c => PE.w pe_str (c.now r.ok (.str x) q)
theorem ed_two {f : Value → Value → Sem Value} (h : ED X B S a fun x => ED X B S b fun y => OD X f x y Q) {σ : L2.St} {W : Wd} {H : Hp} (r : Rep X.K (gOf X) B S σ W H) {R : VK} (c : Cont X.K (gOf X) W H Q R) :
    WE X a σ H fun x H1 => WE X b σ H1 fun y H2 => WO X f x y H2 R := by
  refine h σ W H r _ fun d v W1 H1 s1 ok1 n1 q1 => ?_
  refine q1 σ W1 H1 (r.step s1 ok1) _ fun d2 u W2 H2 s2 ok2 n2 q2 => ?_
  exact q2 v u W2 H2 ok2 (n1.mono s2.I) n2 R ((c.step s1 ok1).step s2 ok2)
theorem ed_bin {op : Operator} (h : ED X B S a fun x => ED X B S b fun y => OD X (binaryOp op) x y Q) : ED X B S (.BinOp a op b pos) Q := fun σ W H r R c =>
  PE.w (pe_op wo_op we_pe we_pe) (ed_two h r c)
theorem ed_cmp {op : CmpOp} (h : ED X B S a fun x => ED X B S b fun y => OD X (compareOp op) x y Q) (hm : behindInMarks op b = false := by first | exact nomark _ | rfl) : ED X B S (.Compare a [op] [b] pos) Q := fun σ W H r R c =>
  PE.w (pe_cmpR wo_op we_pe we_pe hm) (ed_two h r c)
theorem od_of {f : Value → Value → Sem Value} {r : R2} (ho : OpR X f r) {x y : D} (h : ∀ v u W H, Ok (gOf X) W H → Dn X.K W.I x v → Dn X.K W.I y u → ∀ R, Cont X.K (gOf X) W H Q R → r v u H R) : OD X f x y Q :=
  fun v u W H ok h1 h2 R c => OpR.w ho (h v u W H ok h1 h2 R c)
/-- operators on ints -/
theorem od_I0 {f : Value → Value → Sem Value} {g : Int → Int → V} {i j : Int} {d : D} (ho : OpR X f (rI0 g)) (hg : ∀ K I, Dn K I d (g i j)) (q : Q d) : OD X f (.int i) (.int j) Q := by
  refine od_of ho fun v u W H ok h1 h2 R c => ?_
  cases h1; cases h2
  exact ⟨i, j, rfl, rfl, c.now ok (hg _ _) q⟩
theorem od_I {f : Value → Value → Sem Value} {C : Int → Int → Prop} {g : Int → Int → V} {i j : Int} {d : D} (ho : OpR X f (rI C g)) (hc : C i j) (hg : ∀ K I, Dn K I d (g i j)) (q : Q d) : OD X f (.int i) (.int j) Q := by
  refine od_of ho fun v u W H ok h1 h2 R c => ?_
  cases h1; cases h2
  exact ⟨i, j, rfl, rfl, hc, c.now ok (hg _ _) q⟩
theorem od_add {i j : Int} (q : Q (.int (i + j))) : OD X (binaryOp .Add) (.int i) (.int j) Q := od_I0 op_add (fun _ _ => .int _) q
theorem od_sub {i j : Int} (q : Q (.int (i - j))) : OD X (binaryOp .Sub) (.int i) (.int j) Q := od_I0 op_sub (fun _ _ => .int _) q
theorem od_lt {i j : Int} (q : Q (.bl (decide (i < j)))) : OD X (compareOp .Lt) (.int i) (.int j) Q := od_I0 op_lt (fun _ _ => .bl _) q
theorem od_le {i j : Int} (q : Q (.bl (decide (i ≤ j)))) : OD X (compareOp .LtE) (.int i) (.int j) Q := od_I0 op_le (fun _ _ => .bl _) q
theorem od_gt {i j : Int} (q : Q (.bl (decide (j < i)))) : OD X (compareOp .Gt) (.int i) (.int j) Q := od_I0 op_gt (fun _ _ => .bl _) q
theorem od_ge {i j : Int} (q : Q (.bl (decide (j ≤ i)))) : OD X (compareOp .GtE) (.int i) (.int j) Q := od_I0 op_ge (fun _ _ => .bl _) q
end
end DL

set_option Elab.async false
set_option linter.all false
set_option maxRecDepth 100000
set_option maxHeartbeats 2000000
/-! what a def promises where it is known what is being written as a text around it (the guards) -/
namespace DL
open PySem PySem.Spec PyProof.Rows L2
abbrev SpG := List Code → List V → Hp → VK → Prop
structure GnOk (P : Program) (w : World) (K : PySem.W.Frag) (mg : Str → Option Value) (base : Heap) (k : Nat) (f : Addr) (fd : FuncData) (ps : List Str) (sp : SpG) : Prop where
  len : ∀ g vs H Q, sp g vs H Q → vs.length = ps.length
  run : ∀ (A : Around) (g : List Code) (outer : List Env) (s : Shared) (H : Hp) (args : PySem.Args) (us : List Value) (vs : List V) (Q : VK), Room k A → A.guards = some g → Env0 P w K mg base A outer s H → BindsTo s fd args (ps.zip us) → Vals vs us → sp g vs H Q →
    codeAny (model P w) A (.call (.ref f) args) (CR CX0 outer P w H s Q E0) s
/-- a def of the text, its defaults whatever they are -/
structure FunS (K : PySem.W.Frag) (x qual : Str) (st : Stmt) (f : Addr) (fd : FuncData) : Prop where
  ex : ∃ (oc : Value) (od : Option Addr) (dV kV doc pm : Value) (an : Option Addr) (cdv ct : Value) (osl : Array (Option Value)),
    fd = PySem.W.fnOf x qual (defArgs st) (defBody st) (defScope st) dV kV doc pm an cdv ct ∧ K.lookup f = some ⟨oc, od, .func fd, osl⟩ ∧ PySem.W.codeIn K cdv qual = true
  kp : PySem.W.keepIn K (.ref f) = true
theorem fun_s {K : PySem.W.Frag} {x qual : Str} {st : Stmt} {f : Addr} {fd : FuncData} (F : Fun K x qual st f fd) : FunS K x qual st f fd :=
  ⟨let ⟨oc, od, kV, doc, pm, an, cdv, ct, osl, a, b, c⟩ := F.ex; ⟨oc, od, .none, kV, doc, pm, an, cdv, ct, osl, a, b, c⟩, F.kp⟩
theorem fund_s {K : PySem.W.Frag} {x qual : Str} {st : Stmt} {dvs : List V} {kws : List (Str × V)} {f : Addr} {fd : FuncData} (F : FunD K x qual (defArgs st) (defBody st) (defScope st) dvs kws f fd) : FunS K x qual st f fd :=
  ⟨let ⟨oc, od, dV, kV, doc, pm, an, cdv, ct, osl, a, b, c, _⟩ := F.ex; ⟨oc, od, dV, kV, doc, pm, an, cdv, ct, osl, a, b, c⟩, F.kp⟩
section
variable {P : Program} {w : World} {K : PySem.W.Frag} {mg : Str → Option Value} {base : Heap} {j k : Nat} {f : Addr} {fd : FuncData} {ps : List Str} {sp sp' : SpG}
abbrev Bx (P : Program) (w : World) (K : PySem.W.Frag) (mg : Str → Option Value) (base : Heap) (N : List Str) (qual : Str) (st : Stmt) (f : Addr) (cdv : Value) (A : Around) (outer : List Env) (s : Shared) (H : Hp) : Cx := (cxOf CX0 P w K mg base N qual (defScope st) f cdv A outer s H E0).nox
/-- a def by its body, the guards known -/
theorem gn_of {x qual : Str} {st : Stmt} {N : List Str} (F : FunS K x qual st f fd) (S : FnScope N ps (defScope st)) (len : ∀ g vs H Q, sp g vs H Q → vs.length = ps.length)
    (body : ∀ cdv A outer s H g vs Q, Room k (A.deeper (PyProof.Rows.envOfC qual (defScope st) s.heap.objs.size f cdv)) → A.guards = some g → sp g vs H Q →
      ∃ t, PSs (Bx P w K mg base N qual st f cdv A outer s H) (defBody st) t ∧ t { nx := fun _ H' => Q .non H', rt := Q } (L2.start N vs) H) : GnOk P w K mg base (k + 1) f fd ps sp := by
  obtain ⟨oc, od, dV, kV, doc, pm, an, cdv, ct, osl, rfl, lk, hcd⟩ := F.ex
  refine ⟨len, fun A g outer s H args us vs Q hr hg e0 hb r hsp => ?_⟩
  have old := fun b o (e : base.get? b = some o) => (e0.bs b o e).1
  have KX : K.In s.heap := e0.mod.kin.keeps old
  have par : ∀ y ∈ ps.zip us, (defScope st).names.lookup y.1 = some .local ∨ ((defScope st).names.lookup y.1 = some .cell ∧ ((cellsFrom (s.heap.objs.size + 1) (defScope st).names []).lookup y.1).isSome = true) := fun y hy =>
    (S.par y.1 (List.of_mem_zip (show (y.1, y.2) ∈ _ from hy)).1).imp id fun q => ⟨q, PySem.W.cellsFrom_some _ _ _ (.inl q)⟩
  refine codeAny_call_function hr.depth (KX _ _ lk) rfl S.co S.gen rfl (PySem.W.codeRec_of KX hcd) (hb _ _ _ _ ?_)
  refine wpAny_newFunctionEnv_cells S.kind par fun env he s1 x => ?_
  subst he
  refine ⟨(e0.mod.nolimit.keeps old).keeps x.toInCall.keep, codeAny_func ?_⟩
  obtain ⟨t, ht, hq⟩ := body cdv A outer s H g vs Q (hr.deeper _) hg hsp
  have I := inv_start (CX := CX0) (E := E0) S hr.hd e0 (len _ _ _ _ hsp) r x
  refine wpAny_mono (ht.nox.run [] s1 (L2.start N vs) H _ I hq) (fun fl s' hs => ?_) fun e s' hs => hs
  match fl, hs with
  | .ret u, ⟨v, σ', H', J, rv, q⟩ => exact ⟨v, H', J.os, J.bare, J.base, J.hok, rv, q⟩
  | .next, ⟨σ', H', J, q⟩ => exact ⟨V.non, H', J.os, J.bare, J.base, J.hok, rfl, q⟩
  | .brk, ⟨_, _, _, q⟩ => exact q.elim
  | .cont, ⟨_, _, _, q⟩ => exact q.elim
theorem deeper_guards {A : Around} {qual : Str} {sc : Scope} {n : Nat} {f : Addr} {cdv : Value} {g : List Code} (h : A.guards = some g) : (A.deeper (PyProof.Rows.envOfC qual sc n f cdv)).guards = some g := by
  first | exact h | (simpa [Around.deeper] using h)
end
section
variable {X : Cx} {k : Nat} {f C g0 : Addr} {fd : FuncData} {ps : List Str} {sp : SpG} {dvs : List V} {ds : List Value} {x m : Str} {p pos apos : Pos} {e o : Expr} {es : List Expr} {g : List Code}
theorem run_cr {pins : List (Addr × Obj)} {σ : L2.St} {H : Hp} {s : Shared} {Q : VK} {c : Code} {A : Around} (I : Inv X pins σ H s) (h : codeAny (model X.prog X.w) A c (CR CX0 X.stack X.prog X.w H s Q E0) s) :
    codeAny (model X.prog X.w) A c (fun r s' => match r with | .ok (.ret v) => EP X pins σ Q v s' | .ok _ => False | .error e => False) s := by
  refine codeAny_mono h fun r s' hq => ?_
  match r, hq with
  | .error e, hq => exact hq
  | .ok (.ret u), hq => exact I.after hq
/-- the callee runs -/
theorem run_gn {A : Around} {pins : List (Addr × Obj)} {σ : L2.St} {H : Hp} {s : Shared} {Q : VK} {us : List Value} {vs : List V} {R : PySem.Result → Shared → Prop} (F : GnOk X.prog X.w X.K X.mg X.base k f fd ps sp) (hr : Room k A) (hG : A.guards = some g) (e0 : Env0 X.prog X.w X.K X.mg X.base A X.stack s H)
    (hb : Binds X.K fd ps ds) (hd : Vals dvs ds) (I : Inv X pins σ H s) (r : Vals vs us) (h : sp g (vs ++ dvs) H Q) (k : ∀ v s', EP X pins σ Q v s' → R (.ok (.ret v)) s') : codeAny (model X.prog X.w) A (.call (.ref f) ⟨us, []⟩) R s := by
  have r2 : Vals (vs ++ dvs) (us ++ ds) := r.append hd
  have hl : (us ++ ds).length = ps.length := r2.length.symm.trans (F.len _ _ _ _ h)
  refine codeAny_mono (run_cr I (F.run A g X.stack s H ⟨us, []⟩ (us ++ ds) (vs ++ dvs) Q hr hG e0 (hb s us I.kIn hl) r2 h)) fun r s' hq => ?_
  match r, hq with
  | .error e, hq => exact hq.elim
  | .ok (.ret u), hq => exact k u s' hq
/-- .. its arguments bound in any way -/
theorem run_gb {A : Around} {pins : List (Addr × Obj)} {σ : L2.St} {H : Hp} {s : Shared} {Q : VK} {args : PySem.Args} {us : List Value} {vs : List V} {R : PySem.Result → Shared → Prop} (F : GnOk X.prog X.w X.K X.mg X.base k f fd ps sp) (hr : Room k A) (hG : A.guards = some g) (e0 : Env0 X.prog X.w X.K X.mg X.base A X.stack s H)
    (hb : BindsTo s fd args (ps.zip us)) (I : Inv X pins σ H s) (r : Vals vs us) (h : sp g vs H Q) (k : ∀ v s', EP X pins σ Q v s' → R (.ok (.ret v)) s') : codeAny (model X.prog X.w) A (.call (.ref f) args) R s := by
  refine codeAny_mono (run_cr I (F.run A g X.stack s H args us vs Q hr hG e0 hb r h)) fun r s' hq => ?_
  match r, hq with
  | .error e, hq => exact hq.elim
  | .ok (.ret u), hq => exact k u s' hq
theorem call_gn {pins : List (Addr × Obj)} {σ : L2.St} {H : Hp} {s : Shared} {Q : VK} {us : List Value} {vs : List V} {E : Value → Shared → Prop} (F : GnOk X.prog X.w X.K X.mg X.base k f fd ps sp) (hr : Room k X.A) (hG : X.A.guards = some g)
    (hb : Binds X.K fd ps ds) (hd : Vals dvs ds) (I : Inv X pins σ H s) (r : Vals vs us) (h : sp g (vs ++ dvs) H Q) : wpAny (model X.prog X.w) X.A (call (.ref f) us) (EP X pins σ Q) E s :=
  wpAny_call (run_gn F hr hG I.env0 hb hd I r h fun _ _ q => q)
/-- f(e, ..) -/
theorem we_call {σ : L2.St} {H : Hp} {Q : VK} (F : GnOk X.prog X.w X.K X.mg X.base k f fd ps sp) (hr : Room k X.A) (hG : X.A.guards = some g) (hg : Gl X x) (hm : X.mg x = some (.ref f)) (hk : PySem.W.keepIn X.K (.ref f) = true) (hb : Binds X.K fd ps ds) (hd : Vals dvs ds)
    (h : WA X (e :: es) σ H fun vs H1 => sp g (vs ++ dvs) H1 Q) (hdb : (x == ("__debug__" : Str)) = false) (he : starEach (e :: es) X.env = (false, eval e X.env) :: starEach es X.env) (hpl : (backTo pos (starEach es X.env)).any (·.1) = false) : WE X (.Call (.Name x p) (e :: es) [] pos) σ H Q := fun pins s I =>
  wpAny_Call_Name_kw (ld_glob I hg hm (PySem.W.callWith_K (h₀ := X.base) I.ok.mod.kin hk (thn (h pos pins s I) fun us s1 ⟨vs, H1, I1, r, q⟩ => ⟨I1.kIn, call_gn F hr hG hb hd I1 r q⟩) he hpl) hdb)
/-- o.m(e, ..) -/
theorem we_meth {σ : L2.St} {H : Hp} {Q : VK} {pl : Sem Bool} (c : Cls X.K C) (hm : Meth X.K C m f) (F : GnOk X.prog X.w X.K X.mg X.base k f fd ps sp) (hr : Room k X.A) (hG : X.A.guards = some g) (hb : Binds X.K fd ps ds) (hd : Vals dvs ds)
    (h : WE X o σ H fun x H1 => ∃ a dx fs, x = .ref a ∧ H1 a = some (.ins C dx fs) ∧ fs.lookup m = none ∧ WA X (e :: es) σ H1 fun vs H2 => sp g (x :: (vs ++ dvs)) H2 Q)
    (hst : starEach (e :: es) X.env = (false, eval e X.env) :: starEach es X.env) (hpl : (backTo pos (starEach es X.env)).any (·.1) = false)
    (ht : eval (.Call (.Attribute o m apos) (e :: es) [] pos) X.env = (do
      let ov ← eval o X.env
      standAt apos.atName
      let (f, first) ← holding [ov] (getMethod ov m pl)
      callWith pos f first (backTo pos (starEach (e :: es) X.env)) (backToKw pos (keywordEach [] X.env)))) : WE X (.Call (.Attribute o m apos) (e :: es) [] pos) σ H Q := fun pins s I => by
  refine PySem.W.methodCall_KW (pl := pl) (thn (h pins s I) fun u s1 ⟨x, H1, I1, rx, a, dx, fs, ex, ea, l, q⟩ => ?_) ht
  subst ex
  cases (show u = Value.ref a from rx)
  exact getmeth_ok I1 ea c hm l (PySem.W.callWith_K (first := [.ref a]) (h₀ := X.base) I.ok.mod.kin hm.kp (thn (q pos pins s1 I1) fun us s2 ⟨vs, H2, I2, r, q2⟩ => ⟨I2.kIn, call_gn (us := .ref a :: us) (vs := .ref a :: vs) F hr hG hb hd I2 (.cons rfl r) q2⟩) hst hpl)
theorem we_meth0 {σ : L2.St} {H : Hp} {Q : VK} {pl : Sem Bool} (c : Cls X.K C) (hm : Meth X.K C m f) (F : GnOk X.prog X.w X.K X.mg X.base k f fd ps sp) (hr : Room k X.A) (hG : X.A.guards = some g) (hb : Binds X.K fd ps ds) (hd : Vals dvs ds)
    (h : WE X o σ H fun x H1 => ∃ a dx fs, x = .ref a ∧ H1 a = some (.ins C dx fs) ∧ fs.lookup m = none ∧ sp g (x :: dvs) H1 Q)
    (ht : eval (.Call (.Attribute o m apos) [] [] pos) X.env = (do
      let ov ← eval o X.env
      standAt apos.atName
      let (f, first) ← holding [ov] (getMethod ov m pl)
      callWith pos f first (backTo pos (starEach [] X.env)) (backToKw pos (keywordEach [] X.env)))) : WE X (.Call (.Attribute o m apos) [] [] pos) σ H Q := fun pins s I => by
  refine PySem.W.methodCall_KW (pl := pl) (thn (h pins s I) fun u s1 ⟨x, H1, I1, rx, a, dx, fs, ex, ea, l, q⟩ => ?_) ht
  subst ex
  cases (show u = Value.ref a from rx)
  exact getmeth_ok I1 ea c hm l (PySem.W.callWith_K0 (first := [.ref a]) I1.kIn hm.kp (call_gn (us := [.ref a]) (vs := [.ref a]) F hr hG hb hd I1 (.cons rfl .nil) q))
/-- e.f, a property -/
theorem we_prop {σ : L2.St} {H : Hp} {Q : VK} {f : Str} {pp : Addr} (c : Cls X.K C) (hp : PropOf X.K C f pp g0) (F : GnOk X.prog X.w X.K X.mg X.base k g0 fd ps sp) (hr : Room (k + 1) X.A) (hG : X.A.guards = some g) (hb : Binds X.K fd ps ds) (hd : Vals dvs ds)
    (h : WE X o σ H fun x H1 => ∃ a dx fs, x = .ref a ∧ H1 a = some (.ins C dx fs) ∧ sp g (x :: dvs) H1 Q) (hab : attributeBase o f X.env (eval o X.env) = eval o X.env) : WE X (.Attribute o f pos) σ H Q := fun pins s I => by
  refine attr_of hab (thn (h pins s I) fun u s1 ⟨x, H1, I1, rx, a, dx, fs, ex, ea, q⟩ => ?_)
  subst ex
  cases (show u = Value.ref a from rx)
  obtain ⟨mA, O, _⟩ := ins_get I1.hok ea
  obtain ⟨od, J, _⟩ := O.look
  obtain ⟨rest, hrec⟩ := hp.rec_
  have I2 := I1.tok (s1.toks + 1)
  have hc : (PySem.W.clsIn X.K C).isSome = true := by
    obtain ⟨cd, hc, _⟩ := PySem.W.any_some c.hd
    rw [hc]
    rfl
  refine PySem.W.get_bind I1.kIn J (PySem.W.plainGet_of (c.get f)).1 (PySem.W.findObj_data hc hp.at_ hp.get hp.tak) (PySem.W.plainGet_of (c.get f)).2 (wpAny_call (PySem.W.prop_get (s := { s1 with toks := s1.toks + 1 }) I1.kIn hrec ?_))
  refine codeAny_mono (run_gn (A := X.A.in1) (us := [.ref a]) (vs := [.ref a]) (R := fun r s' => match r with | .ok (.ret v) => EP X pins σ Q v s' | _ => False) F hr.in1 hG I2.env0.in1 hb hd I2 (.cons rfl .nil) q fun _ _ q => q) fun r s' hq => ?_
  match r, hq with
  | .ok (.ret u), hq =>
    obtain ⟨v, H', I3, rv, q3⟩ := id hq
    exact wpAny_of_eq (PySem.W.handedOut_of (handed_of rv)) hq
/-- C(e, ..) -/
theorem make_guards {A : Around} {us : List Value} (h : A.guards = some g) : (A.under (.builtin "type.__call__" ⟨.ref C :: us, []⟩)).guards = some g := by
  have e : (Code.builtin "type.__call__" ⟨.ref C :: us, []⟩).guards = [] := by
    unfold Code.guards Code.isGuard
    have h0 : guardIds.contains "type.__call__" = false := by decide +kernel
    rw [if_neg (by show ¬ (guardIds.contains "type.__call__" = true); rw [h0]; exact Bool.false_ne_true)]
  show pushGuards (Code.builtin "type.__call__" ⟨.ref C :: us, []⟩).guards A.guards = some g
  rw [e]
  exact h
theorem run_gmake {pins : List (Addr × Obj)} {σ : L2.St} {H : Hp} {s : Shared} {Q : VK} {us : List Value} {vs : List V} {E : Value → Shared → Prop} (M : Mk X.K C f) (F : GnOk X.prog X.w X.K X.mg X.base k f fd ps sp) (hr : Room (k + 1) X.A) (hG : X.A.guards = some g) (hb : Binds X.K fd ps ds) (hd : Vals dvs ds)
    (I : Inv X pins σ H s) (r : Vals vs us) (h : ∀ x dx, H x = none → H dx = none → dx ≠ x → sp g (.ref x :: (vs ++ dvs)) (upd (upd H dx (.own x)) x (.ins C dx [])) (fun v H2 => v = .non ∧ Q (.ref x) H2)) : wpAny (model X.prog X.w) X.A (call (.ref C) us) (EP X pins σ Q) E s := by
  have hq := h (s.heap.objs.size + 1) s.heap.objs.size (I.hok.fresh (Nat.le_succ _)) (I.hok.fresh (Nat.le_refl _)) (Nat.ne_of_lt (Nat.lt_succ_self _))
  have I2 := Inv.made (C := C) I
  refine wpAny_call (make_map (f := f) I.kIn M.makes M.init (beq_iff_eq.mp M.fn) ?_)
  refine run_gn (us := Value.ref (s.heap.objs.size + 1) :: us) (vs := V.ref (s.heap.objs.size + 1) :: vs) F (hr.make C us []) (make_guards hG) (I2.env0.make C us []) hb hd I2 (.cons rfl r) hq fun v s' hv => ?_
  obtain ⟨z, H', I3, rv, ez, q3⟩ := hv
  subst ez
  exact ⟨rv, ⟨V.ref (s.heap.objs.size + 1), H', I3, rfl, q3⟩⟩
theorem we_make {σ : L2.St} {H : Hp} {Q : VK} (M : Mk X.K C f) (F : GnOk X.prog X.w X.K X.mg X.base k f fd ps sp) (hr : Room (k + 1) X.A) (hG : X.A.guards = some g) (hg : Gl X x) (hm : X.mg x = some (.ref C)) (hb : Binds X.K fd ps ds) (hd : Vals dvs ds)
    (h : WA X (e :: es) σ H fun vs H1 => ∀ y dy, H1 y = none → H1 dy = none → dy ≠ y → sp g (.ref y :: (vs ++ dvs)) (upd (upd H1 dy (.own y)) y (.ins C dy [])) (fun v H2 => v = .non ∧ Q (.ref y) H2))
    (hdb : (x == ("__debug__" : Str)) = false) (he : starEach (e :: es) X.env = (false, eval e X.env) :: starEach es X.env) (hpl : (backTo pos (starEach es X.env)).any (·.1) = false) : WE X (.Call (.Name x p) (e :: es) [] pos) σ H Q := fun pins s I =>
  wpAny_Call_Name_kw (ld_glob I hg hm (PySem.W.callWith_K (h₀ := X.base) I.ok.mod.kin M.kp (thn (h pos pins s I) fun us s1 ⟨vs, H1, I1, r, q⟩ => ⟨I1.kIn, run_gmake M F hr hG hb hd I1 r q⟩) he hpl) hdb)
end
end DL

set_option Elab.async false
set_option linter.all false
set_option maxRecDepth 100000
set_option maxHeartbeats 2000000
namespace DL
open PySem L2

/-! ### more expressions -/
section
variable {X : Cx} {B : Hp} {S : En} {pos : Pos} {Q : D → Prop} {QB : Bool → Prop} {a b c e : Expr} {es : List Expr}

theorem ed_chain {op op' : CmpOp} (h : ED X B S a fun x => ED X B S b fun y => OD X (compareOp op) x y fun z => ∃ k, z = .bl k ∧ if k = true then ED X B S c fun w => OD X (compareOp op') y w Q else Q (.bl false))
    (hm : lastMarks [op, op'] [b, c] = false := by rfl) : ED X B S (.Compare a [op, op'] [b, c] pos) Q := fun σ W H r R k => by
  refine PE.w (pe_chain wo_op wo_op we_pe we_pe we_pe hm) ?_
  refine h σ W H r _ fun d v W1 H1 s1 ok1 n1 q1 => ?_
  refine q1 σ W1 H1 (r.step s1 ok1) _ fun d2 u W2 H2 s2 ok2 n2 q2 => ?_
  refine q2 v u W2 H2 ok2 (n1.mono s2.I) n2 _ fun d3 z W3 H3 s3 ok3 n3 q3 => ?_
  obtain ⟨t, e, q3⟩ := q3
  subst e
  cases n3
  have k3 := ((k.step s1 ok1).step s2 ok2).step s3 ok3
  refine ⟨t, rfl, ?_⟩
  cases t with
  | false => exact iteF (k3.now ok3 (.bl false) (by simpa using q3))
  | true =>
    have q3 : ED X B S c fun w => OD X (compareOp op') d2 w Q := by simpa using q3
    refine iteT (q3 σ W3 H3 (((r.step s1 ok1).step s2 ok2).step s3 ok3) _ fun d4 w' W4 H4 s4 ok4 n4 q4 => ?_)
    exact q4 u w' W4 H4 ok4 ((n2.mono s3.I).mono s4.I) n4 R (k3.step s4 ok4)
theorem ed_one {op} (h : ED X B S a Q) : ED X B S (.BoolOp op [a] pos) Q := fun σ W H r R k => PE.w (pe_one we_pe) (h σ W H r R k)
theorem ed_and {rest : List Expr} (h : ED X B S a fun x => ∃ k, x = .bl k ∧ if k = true then ED X B S (.BoolOp .And (b :: rest) pos) Q else Q (.bl false)) : ED X B S (.BoolOp .And (a :: b :: rest) pos) Q := fun σ W H r R k => by
  refine PE.w (pe_and we_pe we_pe) ?_
  refine h σ W H r _ fun d v W1 H1 s1 ok1 n1 q1 => ?_
  obtain ⟨t, e, q1⟩ := q1
  subst e
  cases n1
  refine ⟨t, rfl, ?_⟩
  cases t with
  | false => exact iteF ((k.step s1 ok1).now ok1 (.bl false) (by simpa using q1))
  | true => exact iteT ((show ED X B S (.BoolOp .And (b :: rest) pos) Q by simpa using q1) σ W1 H1 (r.step s1 ok1) R (k.step s1 ok1))
theorem ed_or {rest : List Expr} (h : ED X B S a fun x => ∃ k, x = .bl k ∧ if k = true then Q (.bl true) else ED X B S (.BoolOp .Or (b :: rest) pos) Q) : ED X B S (.BoolOp .Or (a :: b :: rest) pos) Q := fun σ W H r R k => by
  refine PE.w (pe_or we_pe we_pe) ?_
  refine h σ W H r _ fun d v W1 H1 s1 ok1 n1 q1 => ?_
  obtain ⟨t, e, q1⟩ := q1
  subst e
  cases n1
  refine ⟨t, rfl, ?_⟩
  cases t with
  | true => exact iteT ((k.step s1 ok1).now ok1 (.bl true) (by simpa using q1))
  | false => exact iteF ((show ED X B S (.BoolOp .Or (b :: rest) pos) Q by simpa using q1) σ W1 H1 (r.step s1 ok1) R (k.step s1 ok1))
theorem ed_not (h : ED X B S a fun x => ∃ k, x = .bl k ∧ Q (.bl (!k))) : ED X B S (.UnaryOp .Not a pos) Q := fun σ W H r R k => by
  refine PE.w (pe_not we_pe) ?_
  refine h σ W H r _ fun d v W1 H1 s1 ok1 n1 q1 => ?_
  obtain ⟨t, e, q1⟩ := q1
  subst e
  cases n1
  exact ⟨t, rfl, (k.step s1 ok1).now ok1 (.bl _) q1⟩
theorem ed_ifx (h : TD X B S c fun k => if k = true then ED X B S a Q else ED X B S b Q) : ED X B S (.IfExp c a b pos) Q := fun σ W H r R k => by
  refine PE.w (pe_ifExp wt_pt we_pe we_pe) ?_
  refine h σ W H r _ fun t W1 H1 s1 ok1 q1 => ?_
  cases t with
  | true => exact iteT ((show ED X B S a Q by simpa using q1) σ W1 H1 (r.step s1 ok1) R (k.step s1 ok1))
  | false => exact iteF ((show ED X B S b Q by simpa using q1) σ W1 H1 (r.step s1 ok1) R (k.step s1 ok1))
theorem ed_neg (h : ED X B S a fun x => ∃ i, x = .int i ∧ Q (.int (-i))) : ED X B S (.UnaryOp .USub a pos) Q := fun σ W H r R k => by
  refine PE.w (pe_un un_neg we_pe) ?_
  refine h σ W H r _ fun d v W1 H1 s1 ok1 n1 q1 => ?_
  obtain ⟨i, e, q1⟩ := q1
  subst e
  cases n1
  exact ⟨i, rfl, (k.step s1 ok1).now ok1 (.int _) q1⟩

/-! ### tests -/
theorem td_val (h : ED X B S e fun x => ∃ k, x = .bl k ∧ QB k) (he : ∀ whole, isTrue e X.env whole = (do let v ← whole; standAt e.pos; holding [v] (truthy v)) := by intro _; rfl) : TD X B S e QB := fun σ W H r R k => by
  refine PT.w (pt_val we_pe he) ?_
  refine h σ W H r _ fun d v W1 H1 s1 ok1 n1 q1 => ?_
  obtain ⟨t, e, q1⟩ := q1
  subst e
  cases n1
  exact ⟨t, rfl, (k.step s1 ok1).now ok1 q1⟩
theorem td_cmp {op : CmpOp} (h : ED X B S a fun x => ED X B S b fun y => OD X (compareOp op) x y fun z => ∃ k, z = .bl k ∧ QB k) (hm : behindInMarks op b = false := by first | exact nomark _ | rfl) : TD X B S (.Compare a [op] [b] pos) QB := fun σ W H r R k => by
  refine PT.w (pt_cmpR wo_op we_pe we_pe hm) ?_
  refine h σ W H r _ fun d v W1 H1 s1 ok1 n1 q1 => ?_
  refine q1 σ W1 H1 (r.step s1 ok1) _ fun d2 u W2 H2 s2 ok2 n2 q2 => ?_
  refine q2 v u W2 H2 ok2 (n1.mono s2.I) n2 _ fun d3 z W3 H3 s3 ok3 n3 q3 => ?_
  obtain ⟨t, e, q3⟩ := q3
  subst e
  cases n3
  exact ⟨t, rfl, (((k.step s1 ok1).step s2 ok2).step s3 ok3).now ok3 q3⟩
theorem td_of (h : TW X B S e QB) : TD X B S e QB := fun σ W H r R k => PT.w (PW.pt ww_pw) (h σ W H r R k)
theorem tw_and1 (h : TD X B S a QB) : TW X B S (.BoolOp .And [a] pos) QB := fun σ W H r R k => PW.w (pw_and1 wt_pt) (h σ W H r R k)
theorem tw_or1 (h : TD X B S a QB) : TW X B S (.BoolOp .Or [a] pos) QB := fun σ W H r R k => PW.w (pw_or1 wt_pt) (h σ W H r R k)
theorem tw_and {rest : List Expr} (h : TD X B S a fun k => if k = true then TW X B S (.BoolOp .And (b :: rest) pos) QB else QB false) : TW X B S (.BoolOp .And (a :: b :: rest) pos) QB := fun σ W H r R k => by
  refine PW.w (pw_and wt_pt ww_pw) ?_
  refine h σ W H r _ fun t W1 H1 s1 ok1 q1 => ?_
  cases t with
  | false => exact iteF ((k.step s1 ok1).now ok1 (by simpa using q1))
  | true => exact iteT ((show TW X B S (.BoolOp .And (b :: rest) pos) QB by simpa using q1) σ W1 H1 (r.step s1 ok1) R (k.step s1 ok1))
theorem tw_or {rest : List Expr} (h : TD X B S a fun k => if k = true then QB true else TW X B S (.BoolOp .Or (b :: rest) pos) QB) : TW X B S (.BoolOp .Or (a :: b :: rest) pos) QB := fun σ W H r R k => by
  refine PW.w (pw_or wt_pt ww_pw) ?_
  refine h σ W H r _ fun t W1 H1 s1 ok1 q1 => ?_
  cases t with
  | true => exact iteT ((k.step s1 ok1).now ok1 (by simpa using q1))
  | false => exact iteF ((show TW X B S (.BoolOp .Or (b :: rest) pos) QB by simpa using q1) σ W1 H1 (r.step s1 ok1) R (k.step s1 ok1))
theorem td_not (h : TD X B S a fun k => QB (!k)) : TD X B S (.UnaryOp .Not a pos) QB := fun σ W H r R k => by
  refine PT.w (pt_not wt_pt) ?_
  exact h σ W H r _ fun t W1 H1 s1 ok1 q1 => (k.step s1 ok1).now ok1 q1
/-- the truth of a datum -/
def Tru : D → Bool → Prop
  | .non, k => k = false
  | .bl b, k => k = b
  | .int i, k => k = (i != 0)
  | .str y, k => y.length ≤ sizeLine ∧ k = ((y.length : Int) != 0)
  | .lst l, k => k = !l.isEmpty
  | .tup l, k => k = !l.isEmpty
  | _, _ => False
/-! ### arguments -/
theorem ad_nil {Q : List Sl → Prop} (q : Q []) : AD X B S [] Q := fun σ W H r R k => PA.w pa_nil (k [] [] W H Stp.refl r.ok .nil q)
theorem ad_cons {Q : List Sl → Prop} (h : ED X B S e fun d => AD X B S es fun as => Q (.val d :: as)) (hs : starEach (e :: es) X.env = (false, eval e X.env) :: starEach es X.env := by rfl) : AD X B S (e :: es) Q := fun σ W H r R k => by
  refine PA.w (pa_cons we_pe wa_pa hs) ?_
  refine h σ W H r _ fun d v W1 H1 s1 ok1 n1 q1 => ?_
  refine q1 σ W1 H1 (r.step s1 ok1) _ fun as vs W2 H2 s2 ok2 n2 q2 => ?_
  exact k _ _ W2 H2 (s1.trans ok1 s2) ok2 (.cons (show Arg X.K W2 (.val d) v from n1.mono s2.I) n2) q2
theorem ad_pot {Q : List Sl → Prop} {x : Str} (i : Nat) (hN : X.N[i]? = some x) (h : S[i]? = some (some .pot)) (q : AD X B S es fun as => Q (.pot :: as)) (hv : Vis X.env.scope x := by first | exact Or.inl rfl | exact Or.inr (Or.inl rfl) | exact Or.inr (Or.inr rfl))
    (hd : (x == ("__debug__" : Str)) = false := by decide) (hcd : (x == ("__classdict__" : Str)) = false := by decide) (hs : starEach (.Name x pos :: es) X.env = (false, eval (.Name x pos) X.env) :: starEach es X.env := by rfl) : AD X B S (.Name x pos :: es) Q := fun σ W H r R k => by
  refine PA.w (pa_cons (pe_var hN hv hd hcd) wa_pa hs) ?_
  obtain ⟨v, e, p, ev, hp⟩ := r.sl i _ h
  refine ⟨v, e, ?_⟩
  refine q σ W H r _ fun as vs W2 H2 s2 ok2 n2 q2 => ?_
  exact k _ _ W2 H2 s2 ok2 (.cons (show Arg X.K W2 .pot v from ⟨p, ev, s2.P p hp⟩) n2) q2

/-! ### displays, items -/
theorem Args.vals {K : PySem.W.Frag} {W : Wd} : ∀ {ds : List D} {vs : List V}, Args K W (ds.map Sl.val) vs → Dns K W.I ds vs
  | [], _, .nil => .nil
  | _ :: _, _, .cons h r => .cons h (Args.vals r)
theorem ed_tup {k0} (h : AD X B S es fun as => ∃ ds, as = ds.map Sl.val ∧ ds.length ≤ 100000 ∧ Q (.tup ds)) : ED X B S (.Tuple es k0 pos) Q := fun σ W H r R k => by
  refine PE.w (pe_tup wa_pa) ?_
  refine h σ W H r _ fun as vs W1 H1 s1 ok1 n1 q1 => ?_
  obtain ⟨ds, rfl, hl, q1⟩ := q1
  have n := n1.vals
  refine ⟨Nat.le_trans (n.length ▸ hl) (by decide), fun p hp => ?_⟩
  have st := Stp.new (o := .tup vs) ok1 hp
  exact k (.tup ds) (.ref p) _ _ (s1.trans ok1 st) (ok1.new hp) (.tup (show upd W1.I p _ p = _ from upd_same) (n.mono st.I)) q1
theorem ed_lst (h : AD X B S es fun as => ∃ ds, as = ds.map Sl.val ∧ ds.length ≤ 100000 ∧ Q (.lst ds)) : ED X B S (.List es pos) Q := fun σ W H r R k => by
  refine PE.w (pe_lst wa_pa) ?_
  refine h σ W H r _ fun as vs W1 H1 s1 ok1 n1 q1 => ?_
  obtain ⟨ds, rfl, hl, q1⟩ := q1
  have n := n1.vals
  refine ⟨Nat.le_trans (n.length ▸ hl) (by decide), fun p hp => ?_⟩
  have st := Stp.new (o := .lst vs) ok1 hp
  exact k (.lst ds) (.ref p) _ _ (s1.trans ok1 st) (ok1.new hp) (.lst (show upd W1.I p _ p = _ from upd_same) (n.mono st.I)) q1
theorem Dns.at {K : PySem.W.Frag} {I : Hp} {l : List D} {xs : List V} {i : Int} {d : D} (h : Dns K I l xs) (e : atI l i = some d) : ∃ v, atI xs i = some v ∧ Dn K I d v := by
  unfold atI at e ⊢
  rw [← h.length]
  cases q : ixN l.length i with
  | none => rw [q] at e; cases e
  | some j =>
    rw [q, Option.bind_some] at e
    obtain ⟨v, h1, h2⟩ := h.get' e
    exact ⟨v, h1, h2⟩
theorem od_ixL {l : List D} {i : Int} {d : D} {σ : L2.St} {W : Wd} {H : Hp} {R : VK} {v u : V} (ok : Ok (gOf X) W H) (h1 : Dn X.K W.I (.lst l) v) (h2 : Dn X.K W.I (.int i) u) (e : atI l i = some d) (q : Q d) (k : Cont X.K (gOf X) W H Q R) : rIxL X.K v u H R := by
  cases h1 with
  | lst h z =>
    cases h2
    obtain ⟨v, e1, n⟩ := z.at e
    exact ⟨_, _, i, v, rfl, rfl, SqL.of (ok.ex _ _ h), e1, k.now ok n q⟩
/-- x[i] of a list, of a tuple -/
theorem ed_ix (h : ED X B S a fun x => ED X B S b fun y => ∃ l i d, (x = .lst l ∨ x = .tup l) ∧ y = .int i ∧ atI l i = some d ∧ Q d) (hs : PlainIx b := by exact fun _ _ => rfl) : ED X B S (.Subscript a b pos) Q := fun σ W H r R k => by
  refine PE.w (pe_ix ix_seq we_pe we_pe hs) ?_
  refine h σ W H r _ fun d v W1 H1 s1 ok1 n1 q1 => ?_
  refine q1 σ W1 H1 (r.step s1 ok1) _ fun d2 u W2 H2 s2 ok2 n2 q2 => ?_
  obtain ⟨l, i, d3, hx, rfl, e, q⟩ := q2
  have k2 := (k.step s1 ok1).step s2 ok2
  have n1' := n1.mono s2.I
  rcases hx with rfl | rfl
  · exact .inl (od_ixL (σ := σ) ok2 n1' n2 e q k2)
  · cases n1' with
    | tup h z =>
      cases n2
      obtain ⟨v, e1, n⟩ := z.at e
      exact .inr (.inl ⟨_, _, i, v, rfl, rfl, SqT.of (ok2.ex _ _ h), e1, k2.now ok2 n q⟩)
/-- p[0], p[1] of a pot: some int -/
theorem ed_potix {x : Str} {px : Pos} {j : Nat} {j2 pos2} (i : Nat) (hN : X.N[i]? = some x) (h : S[i]? = some (some .pot)) (hj : j < 2) (q : ∀ z : Int, (j = 1 → 0 ≤ z ∧ z < 2 ^ 31) → Q (.int z)) (hv : Vis X.env.scope x := by first | exact Or.inl rfl | exact Or.inr (Or.inl rfl) | exact Or.inr (Or.inr rfl))
    (hd : (x == ("__debug__" : Str)) = false := by decide) (hcd : (x == ("__classdict__" : Str)) = false := by decide) : ED X B S (.Subscript (.Name x px) (.Constant (.int (j : Int)) j2 pos2) pos) Q := fun σ W H r R k => by
  refine PE.w (pe_ix ix_list (pe_var hN hv hd hcd) pe_int (fun _ _ => rfl)) ?_
  obtain ⟨v, e, p, ev, hp⟩ := r.sl i _ h
  subst ev
  obtain ⟨n, y, z, hH, hb⟩ := r.ok.pot p hp
  refine ⟨_, e, p, _, (j : Int), if j = 0 then .int y else .int z, rfl, rfl, SqL.of hH, ?_, ?_⟩
  · match j, hj with
    | 0, _ => exact atI_nat (j := 0) rfl
    | 1, _ => exact atI_nat (j := 1) rfl
  · match j, hj with
    | 0, _ => exact k.now r.ok (.int y) (q y fun z => absurd z (by decide))
    | 1, _ => exact k.now r.ok (.int z) (q z fun _ => hb)
end

/-! ### what a def promises, on data -/
abbrev SpD := List Sl → (D → Prop) → Prop
def lift (K : PySem.W.Frag) (sp : SpD) : SpG := fun g vs H R => ∃ as W Q, Ok g W H ∧ Args K W as vs ∧ sp as Q ∧ Cont K g W H Q R
/-- the def that the module calls x: its level, its parameters, its promise -/
structure Df (P : Program) (w : World) (K : PySem.W.Frag) (mg : Str → Option Value) (base : Heap) (x : Str) (k : Nat) (n : Nat) (sp : SpD) : Prop where
  ex : ∃ f fd ps, GnOk P w K mg base k f fd ps (lift K sp) ∧ mg x = some (.ref f) ∧ PySem.W.keepIn K (.ref f) = true ∧ Binds K fd ps [] ∧ ps.length = n
section
variable {X : Cx} {B : Hp} {S : En} {pos p : Pos} {Q : D → Prop} {e : Expr} {es : List Expr} {x : Str} {k n : Nat} {sp : SpD}
theorem ed_call (F : Df X.prog X.w X.K X.mg X.base x k n sp) (hr : Room k X.A) (hG : X.A.guards = some (gOf X)) (h : AD X B S (e :: es) fun as => sp as Q) (hg : Gl X x := by rfl) (hdb : (x == ("__debug__" : Str)) = false := by decide)
    (he : starEach (e :: es) X.env = (false, eval e X.env) :: starEach es X.env := by rfl) (hpl : (backTo pos (starEach es X.env)).any (·.1) = false := by rfl) : ED X B S (.Call (.Name x p) (e :: es) [] pos) Q := fun σ W H r R c => by
  obtain ⟨f, fd, ps, F, hm, hk, hb, _⟩ := F.ex
  refine we_call F hr hG hg hm hk hb .nil ?_ hdb he hpl
  refine h σ W H r _ fun as vs W1 H1 s1 ok1 n1 q1 => ?_
  rw [List.append_nil]
  exact ⟨as, W1, Q, ok1, n1, q1, c.step s1 ok1⟩
/-- a call of a value on data -/
def CD (X : Cx) (f : Value) (as : List Sl) (Q : D → Prop) : Prop := ∀ vs W H, Ok (gOf X) W H → Args X.K W as vs → ∀ R, Cont X.K (gOf X) W H Q R → ∀ pins s σ us, Inv X pins σ H s → Vals vs us → wpAny (model X.prog X.w) X.A (call f us) (EP X pins σ R) X.xe s
def WC (X : Cx) (f : Value) : List V → Hp → VK → Prop := fun vs H R => ∀ pins s σ us, Inv X pins σ H s → Vals vs us → wpAny (model X.prog X.w) X.A (call f us) (EP X pins σ R) X.xe s
theorem wc_call {f : Value} : CallR X f (WC X f) := fun pins s σ _ _ us _ I r h => h pins s σ us I r
theorem cd_of {f : Value} {r : List V → Hp → VK → Prop} {as : List Sl} (hc : CallR X f r) (h : ∀ vs W H, Ok (gOf X) W H → Args X.K W as vs → ∀ R, Cont X.K (gOf X) W H Q R → r vs H R) : CD X f as Q := fun vs W H ok ha R c pins s σ us I rv =>
  hc pins s σ H vs us R I rv (h vs W H ok ha R c)
theorem ed_callB {id : String} (hm : X.mg x = none) (h : AD X B S (e :: es) fun as => CD X (.builtin id) as Q) (hv : bootBuiltins x = some (.builtin id) := by first | rfl | decide +kernel) (hg : Gl X x := by rfl) (hn : x ≠ "__name__" := by decide) (hdb : (x == ("__debug__" : Str)) = false := by decide)
    (he : starEach (e :: es) X.env = (false, eval e X.env) :: starEach es X.env := by rfl) (hpl : (backTo pos (starEach es X.env)).any (·.1) = false := by rfl) : ED X B S (.Call (.Name x p) (e :: es) [] pos) Q := fun σ W H r R c => by
  refine PE.w (pe_callB wc_call hg hm hv wa_pa hn hdb he hpl) ?_
  refine h σ W H r _ fun as vs W1 H1 s1 ok1 n1 q1 => ?_
  exact q1 vs W1 H1 ok1 n1 R (c.step s1 ok1)
theorem ed_callTy {T : String} (hm : X.mg x = none) (h : AD X B S (e :: es) fun as => CD X (.type T) as Q) (hv : bootBuiltins x = some (.type T) := by first | rfl | decide +kernel) (hg : Gl X x := by rfl) (hn : x ≠ "__name__" := by decide) (hdb : (x == ("__debug__" : Str)) = false := by decide)
    (he : starEach (e :: es) X.env = (false, eval e X.env) :: starEach es X.env := by rfl) (hpl : (backTo pos (starEach es X.env)).any (·.1) = false := by rfl) : ED X B S (.Call (.Name x p) (e :: es) [] pos) Q := fun σ W H r R c => by
  refine PE.w (pe_callTy wc_call hg hm hv wa_pa hn hdb he hpl) ?_
  refine h σ W H r _ fun as vs W1 H1 s1 ok1 n1 q1 => ?_
  exact q1 vs W1 H1 ok1 n1 R (c.step s1 ok1)
/-- a built-in function that the module imported -/
theorem one_arg {K : PySem.W.Frag} {W : Wd} {d : D} {vs : List V} (h : Args K W [.val d] vs) : ∃ v, vs = [v] ∧ Dn K W.I d v := by
  cases h with
  | cons h r => cases r; exact ⟨_, rfl, h⟩
theorem two_args {K : PySem.W.Frag} {W : Wd} {d d' : D} {vs : List V} (h : Args K W [.val d, .val d'] vs) : ∃ v u, vs = [v, u] ∧ Dn K W.I d v ∧ Dn K W.I d' u := by
  cases h with
  | cons h r => cases r with
    | cons h' r' => cases r'; exact ⟨_, _, rfl, h, h'⟩
theorem cd_abs {i : Int} (q : Q (.int (if i < 0 then -i else i))) : CD X (.builtin "abs") [.val (.int i)] Q := cd_of call_abs fun vs W H ok ha R c => by
  obtain ⟨v, rfl, h⟩ := one_arg ha
  cases h
  exact ⟨i, rfl, c.now ok (.int _) q⟩
theorem cd_int {i : Int} (q : Q (.int i)) : CD X (.type "int") [.val (.int i)] Q := cd_of call_int1 fun vs W H ok ha R c => by
  obtain ⟨v, rfl, h⟩ := one_arg ha
  cases h
  exact .inl ⟨i, rfl, c.now ok (.int _) q⟩
theorem cd_max {i j : Int} (hc : X.calm = true) (q : Q (.int (if j > i then j else i))) : CD X (.builtin "max") [.val (.int i), .val (.int j)] Q := cd_of (call_max2 hc) fun vs W H ok ha R c => by
  obtain ⟨v, u, rfl, h, h'⟩ := two_args ha
  cases h; cases h'
  exact ⟨i, j, rfl, c.now ok (.int _) q⟩
theorem cd_divmod {i j : Int} (hj : CDiv i j) (q : Q (.tup [.int (i / j), .int (i % j)])) : CD X (.builtin "divmod") [.val (.int i), .val (.int j)] Q := cd_of call_divmod fun vs W H ok ha R c => by
  obtain ⟨v, u, rfl, h, h'⟩ := two_args ha
  cases h; cases h'
  refine ⟨i, j, rfl, hj, fun p hp => ?_⟩
  have st := Stp.new (o := .tup [.int (i / j), .int (i % j)]) ok hp
  exact c _ _ _ _ st (ok.new hp) (.tup (show upd W.I p _ p = _ from upd_same) (.cons (.int _) (.cons (.int _) .nil))) q
theorem cd_len {x : D} {l : List D} (hx : x = .lst l ∨ x = .tup l) (q : Q (.int (l.length : Int))) : CD X (.builtin "len") [.val x] Q := cd_of call_len_seq fun vs W H ok ha R c => by
  obtain ⟨v, rfl, h⟩ := one_arg ha
  rcases hx with rfl | rfl
  · cases h with
    | lst h z => exact ⟨_, _, rfl, .inl (SqL.of (ok.ex _ _ h)), by rw [← z.length]; exact c.now ok (.int _) q⟩
  · cases h with
    | tup h z => exact ⟨_, _, rfl, .inr (SqT.of (ok.ex _ _ h)), by rw [← z.length]; exact c.now ok (.int _) q⟩
theorem cd_lenF {l : List Int} (q : Q (.int (l.length : Int))) : CD X (.builtin "len") [.val (.frl l)] Q := cd_of call_len_seq fun vs W H ok ha R c => by
  obtain ⟨v, rfl, h⟩ := one_arg ha
  cases h with
  | frl h => exact ⟨_, _, rfl, .inl (ok.ex.l h), by rw [List.length_map]; exact c.now ok (.int _) q⟩
end
end DL

set_option Elab.async false
set_option linter.all false
set_option maxRecDepth 100000
set_option maxHeartbeats 2000000
namespace DL
open PySem L2

/-! ### statements -/
structure Ends' where
  nx : En → Prop
  rt : D → Prop
  bk : En → Prop := fun _ => False
  ct : En → Prop := fun _ => False
structure Sub (K : PySem.W.Frag) (g : List Code) (B : Hp) (W0 : Wd) (I : Hp) (E : Ends') (D' : Ends) : Prop where
  nx : ∀ S σ W H, Rep K g B S σ W H → Stp W0 B W H → Ex I W.I → E.nx S → D'.nx σ H
  rt : ∀ d v W H, Ok g W H → Stp W0 B W H → Ex I W.I → Dn K W.I d v → E.rt d → D'.rt v H
  bk : ∀ S σ W H, Rep K g B S σ W H → Stp W0 B W H → Ex I W.I → E.bk S → D'.bk σ H
  ct : ∀ S σ W H, Rep K g B S σ W H → Stp W0 B W H → Ex I W.I → E.ct S → D'.ct σ H
theorem Sub.mono {K : PySem.W.Frag} {g : List Code} {B : Hp} {W0 : Wd} {I I' : Hp} {E : Ends'} {D' : Ends} (k : Sub K g B W0 I E D') (e : Ex I I') : Sub K g B W0 I' E D' :=
  ⟨fun S σ W H r z x => k.nx S σ W H r z (e.trans x), fun d v W H r z x => k.rt d v W H r z (e.trans x), fun S σ W H r z x => k.bk S σ W H r z (e.trans x), fun S σ W H r z x => k.ct S σ W H r z (e.trans x)⟩
def WG (X : Cx) (tg : Expr) : TG := fun v σ H Q => ∀ pins s u, Inv X pins σ H s → RelV v u → wpAny (model X.prog X.w) X.A (assign tg X.env u) (fun _ s' => ∃ σ' H', Inv X pins σ' H' s' ∧ Q σ' H') X.xe s
def WGs (X : Cx) (ts : List Expr) : TGs := fun vs σ H Q => ∀ pins s us, Inv X pins σ H s → Vals vs us → wpAny (model X.prog X.w) X.A (assignInOrder ((assignEach ts X.env).map (·.2)) us) (fun _ s' => ∃ σ' H', Inv X pins σ' H' s' ∧ Q σ' H') X.xe s
theorem wg_pg {X : Cx} {tg : Expr} : PG X tg (WG X tg) := ⟨fun pins s _ _ _ u _ I r h => h pins s u I r⟩
theorem wgs_pgs {X : Cx} {ts : List Expr} : PGs X ts (WGs X ts) := ⟨fun pins s _ _ _ us _ I r h => h pins s us I r⟩
theorem PG.w {X : Cx} {tg : Expr} {t : TG} (h : PG X tg t) {v : V} {σ : L2.St} {H : Hp} {Q : L2.St → Hp → Prop} (q : t v σ H Q) : WG X tg v σ H Q := fun pins s u I r => h.run pins s σ H v u Q I r q
theorem PGs.w {X : Cx} {ts : List Expr} {t : TGs} (h : PGs X ts t) {vs : List V} {σ : L2.St} {H : Hp} {Q : L2.St → Hp → Prop} (q : t vs σ H Q) : WGs X ts vs σ H Q := fun pins s us I r => h.run pins s σ H vs us Q I r q
section
variable (X : Cx) (B : Hp) (W0 : Wd) (S : En)
def SD (st : Stmt) (E : Ends') : Prop := ∀ σ W H, Rep X.K (gOf X) B S σ W H → Stp W0 B W H → ∀ D', Sub X.K (gOf X) B W0 W.I E D' → WS X st D' σ H
def SDs (sts : List Stmt) (E : Ends') : Prop := ∀ σ W H, Rep X.K (gOf X) B S σ W H → Stp W0 B W H → ∀ D', Sub X.K (gOf X) B W0 W.I E D' → WSs X sts D' σ H
def ContG (K : PySem.W.Frag) (g : List Code) (I : Hp) (Q : En → Prop) (R : L2.St → Hp → Prop) : Prop := ∀ S σ W H, Rep K g B S σ W H → Stp W0 B W H → Ex I W.I → Q S → R σ H
def GD (tg : Expr) (d : D) (Q : En → Prop) : Prop := ∀ σ W H v, Rep X.K (gOf X) B S σ W H → Stp W0 B W H → Dn X.K W.I d v → ∀ R, ContG B W0 X.K (gOf X) W.I Q R → WG X tg v σ H R
def GDs (ts : List Expr) (ds : List D) (Q : En → Prop) : Prop := ∀ σ W H vs, Rep X.K (gOf X) B S σ W H → Stp W0 B W H → Dns X.K W.I ds vs → ∀ R, ContG B W0 X.K (gOf X) W.I Q R → WGs X ts vs σ H R
end
section
variable {X : Cx} {B : Hp} {W0 : Wd} {S : En} {st : Stmt} {sts : List Stmt} {E : Ends'} {pos : Pos} {e a b : Expr} {Q : En → Prop}

/-! targets -/
theorem gd_name {x : Str} {d : D} (i : Nat) (hN : X.N.Nodup) (hi : X.N[i]? = some x) (q : Q (S.set i (some (.val d)))) (hx : Loc X.env.scope x := by first | exact Or.inl rfl | exact Or.inr rfl)
    (hf : X.fn x = true ∨ X.env.scope.names.lookup x = some .local := by first | exact .inl rfl | exact .inr rfl) : GD X B W0 S (.Name x pos) d Q := fun σ W H v r z n R k =>
  PG.w (pg_name hN hi hx hf) (k _ _ W H (r.set n) z (Ex.refl _) q)
theorem gds_nil (q : Q S) : GDs X B W0 S [] [] Q := fun σ W H vs r z n R k => by
  cases n
  exact PGs.w pgs_nil ⟨rfl, k _ _ W H r z (Ex.refl _) q⟩
theorem gds_cons {tg : Expr} {ts : List Expr} {d : D} {ds : List D} (h : GD X B W0 S tg d fun S' => GDs X B W0 S' ts ds Q) (hs : (assignEach (tg :: ts) X.env).map (·.2) = assign tg X.env :: (assignEach ts X.env).map (·.2) := by rfl) : GDs X B W0 S (tg :: ts) (d :: ds) Q := fun σ W H vs r z n R k => by
  cases n with
  | @cons _ v _ xs n1 n2 =>
    refine PGs.w (pgs_cons wg_pg wgs_pgs hs) ⟨_, _, rfl, ?_⟩
    exact h σ W H v r z n1 _ fun S' σ' W' H' r' z' e' q' => q' σ' W' H' xs r' z' (n2.mono e') R fun S2 σ2 W2 H2 r2 z2 e2 q2 => k S2 σ2 W2 H2 r2 z2 (e'.trans e2) q2
theorem gd_tup {es : List Expr} {k0 : Nat} {ds : List D} {n : Nat} (hc : X.calm = true) (h : GDs X B W0 S es ds Q) (hl : ds.length = n) (hn : (assignEach es X.env).length = n := by rfl) (hst : (assignEach es X.env).findIdx? (·.1) = none := by rfl) : GD X B W0 S (.Tuple es k0 pos) (.tup ds) Q := fun σ W H v r z m R k => by
  cases m with
  | tup hp m => exact PG.w (pg_tup hc wgs_pgs hn hst) ⟨_, _, rfl, SqT.of (r.ok.ex _ _ hp), by rw [← m.length]; exact hl, h σ W H _ r z m R k⟩
/-- p[j] = an int, p a pot -/
theorem gd_pot {x : Str} {px : Pos} {j : Nat} {j2 pos2} {m : Int} (i : Nat) (hN : X.N[i]? = some x) (h : S[i]? = some (some .pot)) (hj : j < 2) (hm : j = 1 → 0 ≤ m ∧ m < 2 ^ 31) (q : Q S) (hv : Vis X.env.scope x := by first | exact Or.inl rfl | exact Or.inr (Or.inl rfl) | exact Or.inr (Or.inr rfl))
    (hd : (x == ("__debug__" : Str)) = false := by decide) (hcd : (x == ("__classdict__" : Str)) = false := by decide)
    (ha : ∀ v, assign (.Subscript (.Name x px) (.Constant (.int (j : Int)) j2 pos2) pos) X.env v = (do
      let ov ← holding [v] (eval (.Name x px) X.env)
      let iv ← holding [v, ov] (eval (.Constant (.int (j : Int)) j2 pos2) X.env)
      standAt pos
      holding [v, ov, iv] (setItem ov iv v)
      release [v, ov, iv] []) := by intro _; rfl) : GD X B W0 S (.Subscript (.Name x px) (.Constant (.int (j : Int)) j2 pos2) pos) (.int m) Q := fun σ W H v r z n R k => by
  cases n
  obtain ⟨v, e, p, ev, hp⟩ := r.sl i _ h
  subst ev
  obtain ⟨ni, y, w, hH, hbb⟩ := r.ok.pot p hp
  refine PG.w (pg_sub (pe_var hN hv hd hcd) pe_int set_list ha) ⟨_, e, p, _, (j : Int), j, rfl, rfl, hH, ?_, ?_⟩
  · match j, hj with
    | 0, _ => rfl
    | 1, _ => rfl
  · have ht : ∃ y' w', ([V.int y, V.int w].set j (.int m)) = [V.int y', V.int w'] ∧ 0 ≤ w' ∧ w' < 2 ^ 31 := by
      match j, hj with
      | 0, _ => exact ⟨m, w, rfl, hbb⟩
      | 1, _ => exact ⟨y, m, rfl, hm rfl⟩
    obtain ⟨y', w', et, hw'⟩ := ht
    rw [et]
    have pn : ∀ b o, H b = some o → ¬ W.P b → b ≠ p := fun b o _ n z => n (z ▸ hp)
    have ok : Ok (gOf X) W (upd H p (.lst [.int y', .int w'])) := {
      gd := fun b hb => by
        obtain ⟨n1, n2⟩ := r.ok.gd b hb
        refine ⟨n1, ?_⟩
        by_cases q : b = p
        · subst q
          rw [upd_same]
          exact ⟨(fun z => by cases z), (fun _ z => by cases z)⟩
        · rw [upd_ne q]
          exact n2
      ex := fun b o hb => by
        rw [upd_ne (fun z => by rw [z, ni] at hb; cases hb)]
        exact r.ok.ex b o hb
      pot := fun b hb => by
        obtain ⟨nb, y2, w2, h2⟩ := r.ok.pot b hb
        refine ⟨nb, ?_⟩
        by_cases q : b = p
        · subst q
          exact ⟨y', w', upd_same, hw'⟩
        · exact ⟨y2, w2, by rw [upd_ne q]; exact h2⟩ }
    have st : Stp W H W (upd H p (.lst [.int y', .int w'])) := ⟨Ex.refl _, fun _ h => h, fun b o hb n => by rw [upd_ne (pn b o hb n)]; exact hb, fun _ _ _ _ h => h, fun _ _ _ h => h⟩
    exact k S σ W _ (r.step st ok) (z.trans r.ok st) (Ex.refl _) q

/-! blocks -/
theorem sds_nil (q : E.nx S) : SDs X B W0 S [] E := fun σ W H r z D' k => PSs.w pss_nil (k.nx S σ W H r z (Ex.refl _) q)
theorem sds_cons (h : SD X B W0 S st { E with nx := fun S' => SDs X B W0 S' sts E }) : SDs X B W0 S (st :: sts) E := fun σ W H r z D' k => by
  refine PSs.w (pss_cons ws_ps wss_pss) ?_
  exact h σ W H r z _ ⟨fun S' σ' W' H' r' z' x' q => q σ' W' H' r' z' D' (k.mono x'), k.rt, k.bk, k.ct⟩
theorem sd_ret (h : ED X B S e E.rt) : SD X B W0 S (.Return (some e) pos) E := fun σ W H r z D' k => PS.w (ps_ret we_pe) (h σ W H r _ fun d v W1 H1 s1 ok1 n1 q1 => k.rt d v W1 H1 ok1 (z.trans r.ok s1) s1.I n1 q1)
theorem sd_expr (h : ED X B S e fun _ => E.nx S) (hs : swapsWith e none pos.line X.env = pure false := by rfl) : SD X B W0 S (.Expr e pos) E := fun σ W H r z D' k =>
  PS.w (ps_expr we_pe hs) (h σ W H r _ fun d v W1 H1 s1 ok1 n1 q1 => k.nx S σ W1 H1 (r.step s1 ok1) (z.trans r.ok s1) s1.I q1)
theorem sd_if {c : Expr} {x y : List Stmt} (h : TD X B S c fun t => if t = true then SDs X B W0 S x E else SDs X B W0 S y E) : SD X B W0 S (.If c x y pos) E := fun σ W H r z D' k => by
  refine PS.w (ps_if wt_pt wss_pss wss_pss) ?_
  refine h σ W H r _ fun t W1 H1 s1 ok1 q1 => ?_
  cases t with
  | true => exact iteT ((show SDs X B W0 S x E by simpa using q1) σ W1 H1 (r.step s1 ok1) (z.trans r.ok s1) D' (k.mono s1.I))
  | false => exact iteF ((show SDs X B W0 S y E by simpa using q1) σ W1 H1 (r.step s1 ok1) (z.trans r.ok s1) D' (k.mono s1.I))
theorem sd_set {x : Str} {pos' : Pos} (i : Nat) (hN : X.N.Nodup) (hi : X.N[i]? = some x) (h : ED X B S e fun d => E.nx (S.set i (some (.val d)))) (hx : Loc X.env.scope x := by first | exact Or.inl rfl | exact Or.inr rfl)
    (hs : swapsWith e (some (.Name x pos')) pos.line X.env = pure false := by rfl) (hf : X.fn x = true ∨ X.env.scope.names.lookup x = some .local := by first | exact .inl rfl | exact .inr rfl) : SD X B W0 S (.Assign [.Name x pos'] e pos) E := fun σ W H r z D' k =>
  PS.w (ps_set hN hi hx we_pe hs hf) (h σ W H r _ fun d v W1 H1 s1 ok1 n1 q1 => k.nx _ _ W1 H1 ((r.step s1 ok1).set n1) (z.trans r.ok s1) s1.I q1)
theorem sd_asg {tg : Expr} (h : ED X B S e fun d => GD X B W0 S tg d E.nx) (hs : swapsWithSole [tg] e pos.line X.env = pure false := by rfl) (hw : swappedStores [tg] e X.env = pure none := by rfl)
    (h1 : (assignEach [tg] X.env).map (·.2) = [assign tg X.env] := by rfl) : SD X B W0 S (.Assign [tg] e pos) E := fun σ W H r z D' k =>
  PS.w (ps_asg we_pe wg_pg hs hw h1) (h σ W H r _ fun d v W1 H1 s1 ok1 n1 q1 => q1 σ W1 H1 v (r.step s1 ok1) (z.trans r.ok s1) n1 _ fun S2 σ2 W2 H2 r2 z2 e2 q2 => k.nx S2 σ2 W2 H2 r2 z2 (s1.I.trans e2) q2)
theorem sd_par {x y : Str} {px py pt : Pos} {kt k2 pt2} (i j : Nat) (hc : X.calm = true) (hN : X.N.Nodup) (hi : X.N[i]? = some x) (hj : X.N[j]? = some y) (hij : i ≠ j)
    (hx : X.env.scope.names.lookup x = some .local) (hy : X.env.scope.names.lookup y = some .local) (h : AD X B S [a, b] fun as => ∃ d d', as = [.val d, .val d'] ∧ E.nx ((S.set i (some (.val d))).set j (some (.val d'))))
    (hps : PS X (.Assign [.Tuple [.Name x px, .Name y py] kt pt] (.Tuple [a, b] k2 pt2) pos) (tPar i j (WA X [a, b])) := by exact ps_par rfl (by assumption) rfl rfl (by decide) rfl rfl DL.wa_pa (by rfl)) :
    SD X B W0 S (.Assign [.Tuple [.Name x px, .Name y py] kt pt] (.Tuple [a, b] k2 pt2) pos) E := fun σ W H r z D' k => by
  refine PS.w hps ?_
  refine h σ W H r _ fun as vs W1 H1 s1 ok1 n1 q1 => ?_
  obtain ⟨d, d', rfl, q1⟩ := q1
  obtain ⟨v, u, rfl, m, m'⟩ := two_args n1
  exact ⟨v, u, rfl, k.nx _ _ W1 H1 (((r.step s1 ok1).set m).set m') (z.trans r.ok s1) s1.I q1⟩
/-! loops -/
theorem sd_forL {tg iter : Expr} {body : List Stmt} {l : List D} (hp : PassesOwn (model X.prog X.w) X.A X.env X.xe) (hc : X.calm = true) (Inv : Nat → En → Prop) (h : ED X B S iter fun d => (d = .lst l) ∧ Inv 0 S)
    (hs : ∀ (i : Nat) d S', l[i]? = some d → Inv i S' → GD X B W0 S' tg d fun S2 => SDs X B W0 S2 body { nx := Inv (i + 1), rt := E.rt, bk := E.nx, ct := Inv (i + 1) })
    (hd : ∀ S', Inv l.length S' → E.nx S') (hf : ∀ x, foldedSetIterable iter X.env x = pure x := by intro _; rfl) : SD X B W0 S (.For tg iter body [] pos) E := fun σ W H r z D' k => by
  refine PS.w (ps_for hp hc (pi_list we_pe) wg_pg wss_pss hf) ?_
  refine h σ W H r _ fun d v W1 H1 s1 ok1 n1 q1 => ?_
  obtain ⟨rfl, i0⟩ := q1
  cases n1 with
  | @lst _ a xs ha m =>
    refine ⟨a, rfl, ⟨xs, SqL.of (ok1.ex _ _ ha)⟩, for_list (K := X.K) (a := a) (xs := xs) (fun i σ' H' => ∃ S' W', Rep X.K (gOf X) B S' σ' W' H' ∧ Stp W0 B W' H' ∧ Ex W1.I W'.I ∧ Inv i S') ⟨S, W1, r.step s1 ok1, z.trans r.ok s1, Ex.refl _, i0⟩
      (fun i σ' H' _ ⟨S', W', r', _, e', _⟩ => SqL.of (r'.ok.ex _ _ (e' _ _ ha))) ?_ ?_⟩
    · rintro i x σ' H' hx ⟨S', W', r', z', e', i'⟩
      obtain ⟨d, hd', nd⟩ := m.get hx
      refine hs i d S' hd' i' σ' W' H' x r' z' (nd.mono e') _ fun S2 σ2 W2 H2 r2 z2 e2 q2 => ?_
      exact q2 σ2 W2 H2 r2 z2 _ ⟨fun S3 σ3 W3 H3 r3 z3 e3 q3 => ⟨S3, W3, r3, z3, (e'.trans e2).trans e3, q3⟩, fun d3 v3 W3 H3 r3 z3 e3 n3 q3 => k.rt d3 v3 W3 H3 r3 z3 (((s1.I.trans e').trans e2).trans e3) n3 q3,
        fun S3 σ3 W3 H3 r3 z3 e3 q3 => k.nx S3 σ3 W3 H3 r3 z3 (((s1.I.trans e').trans e2).trans e3) q3, fun S3 σ3 W3 H3 r3 z3 e3 q3 => ⟨S3, W3, r3, z3, (e'.trans e2).trans e3, q3⟩⟩
    · rintro σ' H' ⟨S', W', r', z', e', i'⟩
      rw [← m.length] at i'
      exact k.nx S' σ' W' H' r' z' (s1.I.trans e') (hd S' i')
theorem sd_forT {tg iter : Expr} {body : List Stmt} {l : List D} (hp : PassesOwn (model X.prog X.w) X.A X.env X.xe) (hc : X.calm = true) (Inv : Nat → En → Prop) (h : ED X B S iter fun d => (d = .tup l) ∧ Inv 0 S)
    (hs : ∀ (i : Nat) d S', l[i]? = some d → Inv i S' → GD X B W0 S' tg d fun S2 => SDs X B W0 S2 body { nx := Inv (i + 1), rt := E.rt, bk := E.nx, ct := Inv (i + 1) })
    (hd : ∀ S', Inv l.length S' → E.nx S') (hf : ∀ x, foldedSetIterable iter X.env x = pure x := by intro _; rfl) : SD X B W0 S (.For tg iter body [] pos) E := fun σ W H r z D' k => by
  refine PS.w (ps_for hp hc (pi_tup we_pe) wg_pg wss_pss hf) ?_
  refine h σ W H r _ fun d v W1 H1 s1 ok1 n1 q1 => ?_
  obtain ⟨rfl, i0⟩ := q1
  cases n1 with
  | @tup _ a xs ha m =>
    refine ⟨a, rfl, ⟨xs, SqT.of (ok1.ex _ _ ha)⟩, for_tup (K := X.K) (a := a) (xs := xs) (fun i σ' H' => ∃ S' W', Rep X.K (gOf X) B S' σ' W' H' ∧ Stp W0 B W' H' ∧ Ex W1.I W'.I ∧ Inv i S') ⟨S, W1, r.step s1 ok1, z.trans r.ok s1, Ex.refl _, i0⟩
      (fun i σ' H' _ ⟨S', W', r', _, e', _⟩ => SqT.of (r'.ok.ex _ _ (e' _ _ ha))) ?_ ?_⟩
    · rintro i x σ' H' hx ⟨S', W', r', z', e', i'⟩
      obtain ⟨d, hd', nd⟩ := m.get hx
      refine hs i d S' hd' i' σ' W' H' x r' z' (nd.mono e') _ fun S2 σ2 W2 H2 r2 z2 e2 q2 => ?_
      exact q2 σ2 W2 H2 r2 z2 _ ⟨fun S3 σ3 W3 H3 r3 z3 e3 q3 => ⟨S3, W3, r3, z3, (e'.trans e2).trans e3, q3⟩, fun d3 v3 W3 H3 r3 z3 e3 n3 q3 => k.rt d3 v3 W3 H3 r3 z3 (((s1.I.trans e').trans e2).trans e3) n3 q3,
        fun S3 σ3 W3 H3 r3 z3 e3 q3 => k.nx S3 σ3 W3 H3 r3 z3 (((s1.I.trans e').trans e2).trans e3) q3, fun S3 σ3 W3 H3 r3 z3 e3 q3 => ⟨S3, W3, r3, z3, (e'.trans e2).trans e3, q3⟩⟩
    · rintro σ' H' ⟨S', W', r', z', e', i'⟩
      rw [← m.length] at i'
      exact k.nx S' σ' W' H' r' z' (s1.I.trans e') (hd S' i')
theorem sd_forR {tg : Expr} {p pos1 : Pos} {n : Int} {body : List Stmt} (hp : PassesOwn (model X.prog X.w) X.A X.env X.xe) (hc : X.calm = true) (hm : X.mg "range" = none) (Inv : Nat → En → Prop) (h : AD X B S [e] fun as => as = [.val (.int n)] ∧ n < 2 ^ 62 ∧ -(2 ^ 62) ≤ n ∧ Inv 0 S)
    (hs : ∀ (i : Nat) S', i < n.toNat → Inv i S' → GD X B W0 S' tg (.int i) fun S2 => SDs X B W0 S2 body { nx := Inv (i + 1), rt := E.rt, bk := E.nx, ct := Inv (i + 1) })
    (hd : ∀ S', Inv n.toNat S' → E.nx S') (hg : Gl X "range" := by rfl) (hst : starEach [e] X.env = [(false, eval e X.env)] := by rfl) (hf : ∀ x, foldedSetIterable (.Call (.Name "range" p) [e] [] pos1) X.env x = pure x := by intro _; rfl) : SD X B W0 S (.For tg (.Call (.Name "range" p) [e] [] pos1) body [] pos) E := fun σ W H r z D' k => by
  refine PS.w (ps_for hp hc (pi_range1 hg hm wa_pa hst) wg_pg wss_pss hf) ?_
  refine h σ W H r _ fun as vs W1 H1 s1 ok1 n1 q1 => ?_
  obtain ⟨rfl, hn, hn2, i0⟩ := q1
  obtain ⟨v, rfl, m⟩ := one_arg n1
  cases m
  refine ⟨n, rfl, hn2, hn, for_range (lo := 0) (n := n.toNat) (fun i σ' H' => ∃ S' W', Rep X.K (gOf X) B S' σ' W' H' ∧ Stp W0 B W' H' ∧ Ex W1.I W'.I ∧ Inv i S') ⟨S, W1, r.step s1 ok1, z.trans r.ok s1, Ex.refl _, i0⟩ ?_ ?_⟩
  · rintro i σ' H' hi ⟨S', W', r', z', e', i'⟩
    rw [Int.zero_add]
    refine hs i S' hi i' σ' W' H' _ r' z' (.int _) _ fun S2 σ2 W2 H2 r2 z2 e2 q2 => ?_
    exact q2 σ2 W2 H2 r2 z2 _ ⟨fun S3 σ3 W3 H3 r3 z3 e3 q3 => ⟨S3, W3, r3, z3, (e'.trans e2).trans e3, q3⟩, fun d3 v3 W3 H3 r3 z3 e3 n3 q3 => k.rt d3 v3 W3 H3 r3 z3 (((s1.I.trans e').trans e2).trans e3) n3 q3,
      fun S3 σ3 W3 H3 r3 z3 e3 q3 => k.nx S3 σ3 W3 H3 r3 z3 (((s1.I.trans e').trans e2).trans e3) q3, fun S3 σ3 W3 H3 r3 z3 e3 q3 => ⟨S3, W3, r3, z3, (e'.trans e2).trans e3, q3⟩⟩
  · rintro σ' H' ⟨S', W', r', z', e', i'⟩
    exact k.nx S' σ' W' H' r' z' (s1.I.trans e') (hd S' i')
end

/-! ### a def by its body -/
def startE (N : List Str) (as : List Sl) : En := as.map some ++ List.replicate (N.length - as.length) none
theorem start_noT {K : PySem.W.Frag} {W : Wd} {N : List Str} {as : List Sl} {vs : List V} (h : Args K W as vs) (i : Nat) (l : List (List Key × D)) : (startE N as)[i]? ≠ some (some (.ownT l)) := by
  have key : ∀ {as : List Sl} {vs : List V} {n : Nat} {i : Nat}, Args K W as vs → (as.map some ++ List.replicate n none)[i]? = some (some (Sl.ownT l)) → False := by
    intro as vs n i h
    induction h generalizing i with
    | nil =>
      intro e
      simp only [List.map_nil, List.nil_append, List.getElem?_replicate] at e
      split at e <;> cases e
    | @cons a v as vs h1 _ ih =>
      intro e
      cases i with
      | zero =>
        simp only [List.map_cons, List.cons_append, List.getElem?_cons_zero, Option.some.injEq] at e
        subst e
        exact h1
      | succ i =>
        simp only [List.map_cons, List.cons_append, List.getElem?_cons_succ] at e
        exact ih e
  exact fun e => key h e
theorem rep_start {K : PySem.W.Frag} {g : List Code} {W : Wd} {H : Hp} {N : List Str} {as : List Sl} {vs : List V} (ok : Ok g W H) (h : Args K W as vs) : Rep K g H (startE N as) (L2.start N vs) W H := by
  have hl := Paired.length h
  refine ⟨ok, fun b hb => (ok.gd b hb).2.1, by unfold startE L2.start; simp [hl], fun i s e => ?_, fun i j l m p _ e => ?_, fun i j l m p _ e => absurd e (start_noT h i l)⟩
  · have key : ∀ {as : List Sl} {vs : List V} {n : Nat} {i : Nat} {s : Sl}, Args K W as vs → (as.map some ++ List.replicate n none)[i]? = some (some s) → ∃ v, (vs.map some ++ List.replicate n none)[i]? = some (some v) ∧ Arg K W s v := by
      intro as vs n i s h
      induction h generalizing i with
      | nil =>
        intro e
        simp only [List.map_nil, List.nil_append, List.getElem?_replicate] at e
        split at e <;> cases e
      | @cons a v as vs h1 _ ih =>
        intro e
        cases i with
        | zero =>
          simp only [List.map_cons, List.cons_append, List.getElem?_cons_zero, Option.some.injEq] at e
          subst e
          exact ⟨v, rfl, h1⟩
        | succ i =>
          simp only [List.map_cons, List.cons_append, List.getElem?_cons_succ] at e ⊢
          exact ih e
    unfold startE at e
    rw [show N.length - as.length = N.length - vs.length by rw [hl]] at e
    obtain ⟨v, e1, a1⟩ := key h e
    refine ⟨v, e1, ?_⟩
    cases s with
    | val d => exact a1
    | pot => exact a1
    | own l => exact a1.elim
    | inst _ _ _ _ => exact a1.elim
    | ownT _ => exact a1.elim
  · exfalso
    have key : ∀ {as : List Sl} {vs : List V} {n : Nat} {i : Nat}, Args K W as vs → (as.map some ++ List.replicate n none)[i]? = some (some (.own l)) → False := by
      intro as vs n i h
      induction h generalizing i with
      | nil =>
        intro e
        simp only [List.map_nil, List.nil_append, List.getElem?_replicate] at e
        split at e <;> cases e
      | @cons a v as vs h1 _ ih =>
        intro e
        cases i with
        | zero =>
          simp only [List.map_cons, List.cons_append, List.getElem?_cons_zero, Option.some.injEq] at e
          subst e
          exact h1
        | succ i =>
          simp only [List.map_cons, List.cons_append, List.getElem?_cons_succ] at e
          exact ih e
    exact key h e
section
variable {P : Program} {w : World} {K : PySem.W.Frag} {mg : Str → Option Value} {base : Heap}
theorem gOf_bx {N : List Str} {qual : Str} {st : Stmt} {f : Addr} {cdv : Value} {A : Around} {outer : List Env} {s : Shared} {H : Hp} {g : List Code} (h : A.guards = some g) : (Bx P w K mg base N qual st f cdv A outer s H).A.guards = some g ∧ gOf (Bx P w K mg base N qual st f cdv A outer s H) = g :=
  have e : (Bx P w K mg base N qual st f cdv A outer s H).A.guards = some g := deeper_guards h
  ⟨e, by unfold gOf; rw [e]; rfl⟩
theorem gn_dl {x qual : Str} {st : Stmt} {f : Addr} {fd : FuncData} {N ps : List Str} {k : Nat} {sp : SpD} (F : FunS K x qual st f fd) (hS : FnScope N ps (defScope st)) (len : ∀ as Q, sp as Q → as.length = ps.length)
    (body : ∀ cdv A outer s H, Room k (A.deeper (PyProof.Rows.envOfC qual (defScope st) s.heap.objs.size f cdv)) → (Bx P w K mg base N qual st f cdv A outer s H).A.guards = some (gOf (Bx P w K mg base N qual st f cdv A outer s H)) → ∀ W as Q, sp as Q → SDs (Bx P w K mg base N qual st f cdv A outer s H) H W (startE N as) (defBody st) { nx := fun _ => Q .non, rt := Q }) :
    GnOk P w K mg base (k + 1) f fd ps (lift K sp) := by
  refine gn_of F hS (fun g vs H Q h => ?_) (fun cdv A outer s H g vs R hr hG h => ?_)
  · obtain ⟨as, W, Qd, _, ha, hsp, _⟩ := h
    rw [← len _ _ hsp]
    exact (Paired.length ha).symm
  · obtain ⟨as, W, Qd, ok, ha, hsp, c⟩ := h
    obtain ⟨e1, e2⟩ := gOf_bx (P := P) (w := w) (K := K) (mg := mg) (base := base) (N := N) (qual := qual) (st := st) (f := f) (cdv := cdv) (outer := outer) (s := s) (H := H) hG
    refine ⟨WSs _ (defBody st), wss_pss, ?_⟩
    have bd := body cdv A outer s H hr (by rw [e2]; exact e1) W as Qd hsp
    refine bd (L2.start N vs) W H (by rw [e2]; exact rep_start ok ha) Stp.refl _ ?_
    rw [e2]
    exact ⟨fun S σ W' H' r z _ q => c .non .non W' H' z r.ok .non q, fun d v W' H' ok' z _ n q => c d v W' H' z ok' n q, fun _ _ _ _ _ _ _ q => q.elim, fun _ _ _ _ _ _ _ q => q.elim⟩
theorem df_of {x qual : Str} {st : Stmt} {f : Addr} {fd : FuncData} {ps : List Str} {k n : Nat} {sp : SpD} (F : FunS K x qual st f fd) (h : GnOk P w K mg base k f fd ps (lift K sp)) (hm : mg x = some (.ref f)) (hb : Binds K fd ps []) (hn : ps.length = n) : Df P w K mg base x k n sp :=
  ⟨f, fd, ps, h, hm, F.kp, hb, hn⟩
end
end DL

set_option Elab.async false
set_option linter.all false
set_option maxRecDepth 100000
set_option maxHeartbeats 2000000
namespace DL
open PySem L2

/-! ### lists that one name owns -/
theorem Ok.frz {g : List Code} {W : Wd} {H : Hp} {p : Addr} {o : HO} (ok : Ok g W H) (hp : H p = some o) (n : ¬ W.P p) (ng : ¬ InG g p) : Ok g (W.new p o) H where
  gd := fun b hb => by
    obtain ⟨n1, n2⟩ := ok.gd b hb
    refine ⟨?_, n2⟩
    show upd W.I p o b = none
    have ne : b ≠ p := fun z => ng (z ▸ hb)
    rw [upd_ne ne]
    exact n1
  ex := fun a u e => by
    have e' : upd W.I p o a = some u := e
    by_cases q : a = p
    · subst q
      rw [upd_same] at e'
      cases e'
      exact hp
    · rw [upd_ne q] at e'
      exact ok.ex a u e'
  pot := fun a pa => by
    obtain ⟨h, x⟩ := ok.pot a pa
    refine ⟨?_, x⟩
    show upd W.I p o a = none
    have ne : a ≠ p := fun z => n (z ▸ pa)
    rw [upd_ne ne]
    exact h
theorem Stp.frz {W W1 : Wd} {H H1 : Hp} {p : Addr} {o : HO} (a : Stp W H W1 H1) (hp : H p = none) (i : W1.I p = none) : Stp W H (W1.new p o) H1 where
  I := a.I.trans (Ex.new i)
  P := a.P
  keep := a.keep
  old := fun b u e t n => by
    show upd W1.I p o b = none
    rw [upd_ne (ne_of_none e hp)]
    exact a.old b u e t n
  oldP := a.oldP
/-- a new list, not yet part of what never changes -/
def ContF (K : PySem.W.Frag) (g : List Code) (W : Wd) (H : Hp) (Q : List D → Prop) (R : VK) : Prop := ∀ l p xs W' H', Stp W H W' H' → Ok g W' H' → H p = none → ¬ W'.P p → W'.I p = none → H' p = some (.lst xs) → Dns K W'.I l xs → Q l → R (.ref p) H'
def FD (X : Cx) (B : Hp) (S : En) (e : Expr) (Q : List D → Prop) : Prop := ∀ σ W H, Rep X.K (gOf X) B S σ W H → ∀ R, ContF X.K (gOf X) W H Q R → WE X e σ H R
/-- a tuple or a name: how an item comes to the names of a comprehension -/
def wipeE (S : En) : List Nat → En
  | [] => S
  | v :: vs => (wipeE S vs).set v none
theorem wipeE_some {S : En} {i : Nat} {x : Sl} : ∀ {vs : List Nat}, (wipeE S vs)[i]? = some (some x) → S[i]? = some (some x) ∧ i ∉ vs
  | [], h => ⟨h, by simp⟩
  | v :: vs, h => by
    unfold wipeE at h
    by_cases hi : v = i
    · subst hi
      by_cases hv : v < (wipeE S vs).length
      · rw [List.getElem?_set_self hv] at h; cases h
      · rw [List.getElem?_eq_none (by simpa using hv)] at h; cases h
    · rw [List.getElem?_set_ne hi] at h
      obtain ⟨h1, h2⟩ := wipeE_some h
      exact ⟨h1, by simp only [List.mem_cons, not_or]; exact ⟨fun e => hi e.symm, h2⟩⟩
theorem wipeE_length (S : En) : ∀ vs : List Nat, (wipeE S vs).length = S.length
  | [] => rfl
  | v :: vs => by unfold wipeE; rw [List.length_set, wipeE_length S vs]
theorem wipe_keep {σ : L2.St} {i : Nat} {x : V} : ∀ {vs : List Nat}, i ∉ vs → σ[i]? = some (some x) → (wipe σ vs)[i]? = some (some x)
  | [], _, h => h
  | v :: vs, hi, h => by
    unfold wipe
    simp only [List.mem_cons, not_or] at hi
    rw [List.getElem?_set_ne (fun e => hi.1 e.symm)]
    exact wipe_keep hi.2 h
theorem Rep.wipe {K : PySem.W.Frag} {g : List Code} {B : Hp} {S : En} {σ : L2.St} {W : Wd} {H : Hp} (r : Rep K g B S σ W H) (vs : List Nat) : Rep K g B (wipeE S vs) (L2.wipe σ vs) W H where
  ok := r.ok
  gb := r.gb
  len := by rw [wipeE_length, wipe_length]; exact r.len
  sl := fun i s e => by
    obtain ⟨e1, hi⟩ := wipeE_some e
    obtain ⟨v, e2, h⟩ := r.sl i s e1
    exact ⟨v, wipe_keep hi e2, h⟩
  dist := fun i j l m p n e1 e2 e3 => by
    obtain ⟨e1', _⟩ := wipeE_some e1
    obtain ⟨e2', hj⟩ := wipeE_some e2
    obtain ⟨e3', _⟩ := wipe_some e3
    intro e4
    obtain ⟨e4', _⟩ := wipe_some e4
    exact r.dist i j l m p n e1' e2' e3' e4'
  distT := fun i j l m p n e1 e2 e3 => by
    obtain ⟨e1', _⟩ := wipeE_some e1
    obtain ⟨e2', hj⟩ := wipeE_some e2
    obtain ⟨e3', _⟩ := wipe_some e3
    intro e4
    obtain ⟨e4', _⟩ := wipe_some e4
    exact r.distT i j l m p n e1' e2' e3' e4'
theorem wipe_set {σ : L2.St} {j : Nat} {x : Option V} : ∀ {vs : List Nat}, j ∈ vs → L2.wipe (σ.set j x) vs = L2.wipe σ vs
  | v :: vs, h => by
    unfold L2.wipe
    by_cases hv : j ∈ vs
    · rw [wipe_set hv]
    · have e : v = j := by
        rcases List.mem_cons.mp h with z | z
        · exact z.symm
        · exact absurd z hv
      subst e
      have key : ∀ ws : List Nat, v ∉ ws → L2.wipe (σ.set v x) ws = (L2.wipe σ ws).set v x := by
        intro ws
        induction ws with
        | nil => intro _; rfl
        | cons a ws ih =>
          intro hn
          simp only [List.mem_cons, not_or] at hn
          unfold L2.wipe
          rw [ih hn.2, List.set_comm _ _ (fun e => hn.1 e)]
      rw [key vs hv, List.set_set]
theorem wipe_wipe {σ : L2.St} {vs : List Nat} : L2.wipe (L2.wipe σ vs) vs = L2.wipe σ vs := by
  have key : ∀ ws : List Nat, (∀ w ∈ ws, w ∈ vs) → L2.wipe (L2.wipe σ ws) vs = L2.wipe σ vs := by
    intro ws
    induction ws with
    | nil => intro _; rfl
    | cons a ws ih =>
      intro h
      show L2.wipe ((L2.wipe σ ws).set a none) vs = _
      rw [wipe_set (h a List.mem_cons_self)]
      exact ih fun w hw => h w (List.mem_cons_of_mem _ hw)
  exact key vs fun _ h => h
/-- how the item d comes to the names in the slots vs: what the block then knows -/
def Pat (K : PySem.W.Frag) (g : TG) (vs : List Nat) (S : En) (d : D) (S' : En) : Prop := ∀ gs B σ W H v, Rep K gs B S σ W H → Dn K W.I d v → ∀ Q : L2.St → Hp → Prop, (∀ σ2, L2.wipe σ2 vs = L2.wipe σ vs → Rep K gs B S' σ2 W H → Q σ2 H) → g v (L2.wipe σ vs) H Q
theorem pat_name {K : PySem.W.Frag} {S : En} {d : D} {vs : List Nat} (j : Nat) (hj : j ∈ vs) : Pat K (gName j) vs S d ((wipeE S vs).set j (some (.val d))) := fun _ B σ W H v r n Q k =>
  k _ (by rw [wipe_set hj, wipe_wipe]) ((r.wipe vs).set n)
theorem pat_two {K : PySem.W.Frag} {S : En} {d d' : D} {vs : List Nat} (i j : Nat) (hi : i ∈ vs) (hj : j ∈ vs) : Pat K (gTup K 2 (gCons (gName i) (gCons (gName j) gNil))) vs S (.tup [d, d']) (((wipeE S vs).set i (some (.val d))).set j (some (.val d'))) := fun _ B σ W H v r n Q k => by
  cases n with
  | tup hp m =>
    cases m with
    | cons n1 m => cases m with
      | cons n2 m =>
        cases m
        exact ⟨_, _, rfl, SqT.of (r.ok.ex _ _ hp), rfl, _, _, rfl, _, _, rfl, rfl, k _ (by rw [wipe_set hj, wipe_set hi, wipe_wipe]) (((r.wipe vs).set n1).set n2)⟩
theorem pat_three {K : PySem.W.Frag} {S : En} {d d' d2 : D} {vs : List Nat} (i j l : Nat) (hi : i ∈ vs) (hj : j ∈ vs) (hl : l ∈ vs) : Pat K (gTup K 3 (gCons (gName i) (gCons (gName j) (gCons (gName l) gNil)))) vs S (.tup [d, d', d2]) ((((wipeE S vs).set i (some (.val d))).set j (some (.val d'))).set l (some (.val d2))) := fun _ B σ W H v r n Q k => by
  cases n with
  | tup hp m =>
    cases m with
    | cons n1 m => cases m with
      | cons n2 m => cases m with
        | cons n3 m =>
          cases m
          exact ⟨_, _, rfl, SqT.of (r.ok.ex _ _ hp), rfl, _, _, rfl, _, _, rfl, _, _, rfl, rfl, k _ (by rw [wipe_set hl, wipe_set hj, wipe_set hi, wipe_wipe]) ((((r.wipe vs).set n1).set n2).set n3)⟩
section
variable {X : Cx} {B : Hp} {W0 : Wd} {S : En} {e a b : Expr} {es : List Expr} {pos : Pos} {E : Ends'}
theorem ed_fd {Q : D → Prop} (h : FD X B S e fun l => Q (.lst l)) : ED X B S e Q := fun σ W H r R k => by
  refine h σ W H r R fun l p xs W' H' st ok hp n i hl d q => ?_
  exact k (.lst l) (.ref p) _ H' (st.frz hp i) (ok.frz hl n fun z => (r.ok.gd _ z).2.1 hp) (.lst (show upd W'.I p _ p = _ from upd_same) (d.mono (Ex.new i))) q
theorem fd_lst {Q : List D → Prop} (h : AD X B S es fun as => ∃ ds, as = ds.map Sl.val ∧ ds.length ≤ 100000 ∧ Q ds) : FD X B S (.List es pos) Q := fun σ W H r R k => by
  refine PE.w (pe_lst wa_pa) ?_
  refine h σ W H r _ fun as vs W1 H1 s1 ok1 n1 q1 => ?_
  obtain ⟨ds, rfl, hl, q1⟩ := q1
  have n := n1.vals
  refine ⟨Nat.le_trans (n.length ▸ hl) (by decide), fun p hp => ?_⟩
  exact k ds p vs W1 _ (s1.trans ok1 (Stp.own hp)) (ok1.own hp) (s1.free ok1 hp) (ok1.notP hp) (ok1.free hp) upd_same n q1
/-- x = a new list, which x owns -/
theorem Rep.setOwn {K : PySem.W.Frag} {g : List Code} {σ : L2.St} {W : Wd} {H : Hp} {i : Nat} {l : List D} {p : Addr} {xs : List V} (r : Rep K g B S σ W H) (hB : B p = none) (n : ¬ W.P p) (hi : W.I p = none) (hp : H p = some (.lst xs)) (d : Dns K W.I l xs)
    (new : ∀ (j : Nat) (m : List D), S[j]? = some (some (.own m)) → σ[j]? ≠ some (some (.ref p))) : Rep K g B (S.set i (some (.own l))) (σ.set i (some (.ref p))) W H where
  ok := r.ok
  gb := r.gb
  len := by simpa using r.len
  sl := fun j s e => by
    by_cases q : i = j
    · subst q
      by_cases z : i < S.length
      · rw [List.getElem?_set_self z] at e
        cases e
        exact ⟨_, List.getElem?_set_self (r.len ▸ z), p, xs, rfl, hB, n, hi, hp, d⟩
      · rw [List.getElem?_eq_none (by simpa using z)] at e
        cases e
    · rw [List.getElem?_set_ne q] at e ⊢
      exact r.sl j s e
  dist := fun a b la lb q ne e1 e2 e3 => by
    by_cases qa : i = a
    · subst qa
      have lt : i < σ.length := by
        rcases Nat.lt_or_ge i σ.length with z | z
        · exact z
        · rw [List.getElem?_eq_none (by simpa using z)] at e3; cases e3
      rw [List.getElem?_set_self lt] at e3
      cases e3
      rw [List.getElem?_set_ne ne] at e2 ⊢
      exact new b lb e2
    · rw [List.getElem?_set_ne qa] at e1 e3
      by_cases qb : i = b
      · subst qb
        intro e4
        have lt : i < σ.length := by
          rcases Nat.lt_or_ge i σ.length with z | z
          · exact z
          · rw [List.getElem?_eq_none (by simpa using z)] at e4; cases e4
        rw [List.getElem?_set_self lt] at e4
        cases e4
        exact new a la e1 e3
      · rw [List.getElem?_set_ne qb] at e2 ⊢
        exact r.dist a b la lb q ne e1 e2 e3
  distT := r.distT.set i fun l z => by cases z
theorem sd_own {x : Str} {pos' : Pos} (i : Nat) (hN : X.N.Nodup) (hi : X.N[i]? = some x) (h : FD X B S e fun l => E.nx (S.set i (some (.own l)))) (hx : Loc X.env.scope x := by first | exact Or.inl rfl | exact Or.inr rfl)
    (hs : swapsWith e (some (.Name x pos')) pos.line X.env = pure false := by rfl) (hf : X.fn x = true ∨ X.env.scope.names.lookup x = some .local := by first | exact .inl rfl | exact .inr rfl) : SD X B W0 S (.Assign [.Name x pos'] e pos) E := fun σ W H r z D' k =>
  PS.w (ps_set hN hi hx we_pe hs hf) (h σ W H r _ fun l p xs W1 H1 s1 ok1 hp n i1 hl d q1 => k.nx _ _ W1 H1 ((r.step s1 ok1).setOwn (z.free r.ok hp) n i1 hl d fun j m e1 e2 => by
    obtain ⟨v, e3, p2, ys, e4, _, _, _, h4, _⟩ := r.sl j _ e1
    rw [e2] at e3
    cases e3
    cases e4
    rw [hp] at h4
    cases h4) (z.trans r.ok s1) s1.I q1)
/-- x.append(e), x the owner of its list -/
theorem sd_append {x : Str} {px apos cpos : Pos} (i : Nat) (l : List D) (hN : X.N[i]? = some x) (h : S[i]? = some (some (.own l))) (hl : l.length < 100000) (he : ED X B S e fun d => E.nx (S.set i (some (.own (l ++ [d])))))
    (hv : Vis X.env.scope x := by first | exact Or.inl rfl | exact Or.inr (Or.inl rfl) | exact Or.inr (Or.inr rfl)) (hd : (x == ("__debug__" : Str)) = false := by decide) (hcd : (x == ("__classdict__" : Str)) = false := by decide)
    (hps : PE X (.Call (.Attribute (.Name x px) "append" apos) [e] [] cpos) (tBM X.K "list" rAppend (tVar i) (tCons (WE X e) tNil)) := by
      exact pe_bm PySem.F.plainAttrs_list PySem.F.slot_list_append PySem.F.type_list_append mt_append (pe_var (by rfl) (by first | exact Or.inl rfl | exact Or.inr (Or.inl rfl) | exact Or.inr (Or.inr rfl))) (pa_cons DL.we_pe pa_nil))
    (hs : swapsWith (.Call (.Attribute (.Name x px) "append" apos) [e] [] cpos) none pos.line X.env = pure false := by rfl) : SD X B W0 S (.Expr (.Call (.Attribute (.Name x px) "append" apos) [e] [] cpos) pos) E := fun σ W H r z D' k => by
  refine PS.w (ps_expr hps hs) ?_
  obtain ⟨v, e1, p, xs, ev, hB, n, hI, hH, d0⟩ := r.sl i _ h
  subst ev
  refine ⟨_, e1, .inl ⟨rfl, _, SqL.of hH⟩, ?_⟩
  refine he σ W H r _ fun d v W1 H1 s1 ok1 n1 q1 => ?_
  have hH1 : H1 p = some (.lst xs) := s1.keep _ _ hH n
  have nP : ¬ W1.P p := fun q => n (s1.oldP p _ hH q)
  have hI1 : W1.I p = none := s1.old p _ hH (fun _ z => by cases z) hI
  refine ⟨p, xs, v, rfl, rfl, hH1, Nat.lt_of_lt_of_le (d0.length ▸ hl) (by decide), ?_⟩
  have ok2 : Ok (gOf X) W1 (upd H1 p (.lst (xs ++ [v]))) := {
    gd := fun b hb => by
      obtain ⟨n1, n2⟩ := ok1.gd b hb
      refine ⟨n1, ?_⟩
      by_cases q : b = p
      · subst q
        rw [upd_same]
        exact ⟨(fun z => by cases z), (fun _ z => by cases z)⟩
      · rw [upd_ne q]
        exact n2
    ex := fun b o hb => by
      rw [upd_ne (fun y => by rw [y, hI1] at hb; cases hb)]
      exact ok1.ex b o hb
    pot := fun b hb => by
      obtain ⟨nb, y2, w2, h2⟩ := ok1.pot b hb
      have ne : b ≠ p := fun y => nP (y ▸ hb)
      exact ⟨nb, y2, w2, by rw [upd_ne ne]; exact h2⟩ }
  have z1 := z.trans r.ok s1
  have z2 : Stp W0 B W1 (upd H1 p (.lst (xs ++ [v]))) := ⟨z1.I, z1.P, fun b o hb hn => by rw [upd_ne (ne_of_none hb hB)]; exact z1.keep b o hb hn, z1.old, z1.oldP⟩
  have r1 := r.step s1 ok1
  have lt : i < S.length := (List.getElem?_eq_some_iff.mp h).1
  refine k.nx _ σ W1 _ ?_ z2 s1.I q1
  refine ⟨ok2, r.gb, by simpa using r.len, fun j s ej => ?_, fun a b la lb q ne e2 e3 e4 => ?_, r.distT.setS i fun l z => by cases z⟩
  · by_cases q : i = j
    · subst q
      rw [List.getElem?_set_self lt] at ej
      cases ej
      exact ⟨_, e1, p, _, rfl, hB, nP, hI1, upd_same, (d0.mono s1.I).append (.cons n1 .nil)⟩
    · rw [List.getElem?_set_ne q] at ej
      obtain ⟨v2, e2, h2⟩ := r1.sl j s ej
      refine ⟨v2, e2, ?_⟩
      cases s with
      | val d2 => exact h2
      | pot => exact h2
      | own m =>
        obtain ⟨p2, ys, rfl, b1, b2, b3, b4, b5⟩ := h2
        refine ⟨p2, ys, rfl, b1, b2, b3, ?_, b5⟩
        rw [upd_ne (fun y => by
          rw [y] at e2
          exact r.dist i j l m p q h ej e1 e2)]
        exact b4
      | ownT m =>
        obtain ⟨p2, ys, rfl, b1, b2, b3, b4, b5⟩ := h2
        refine ⟨p2, ys, rfl, b1, b2, b3, ?_, b5⟩
        rw [upd_ne (fun y => by rw [y, hH1] at b4; cases b4)]
        exact b4
      | inst C p2 dx fs =>
        obtain ⟨vs, rfl, b1, b2, b3, b4, b5, b6, b7, b8, b9, b10⟩ := h2
        refine ⟨vs, rfl, b1, b2, b3, b4, b5, b6, b7, ?_, ?_, b10⟩
        · rw [upd_ne (fun y => by rw [y, hH1] at b8; cases b8)]
          exact b8
        · rw [upd_ne (fun y => by rw [y, hH1] at b9; cases b9)]
          exact b9
  · have g : ∀ {c : Nat} {m : List D}, (S.set i (some (.own (l ++ [d]))))[c]? = some (some (.own m)) → ∃ m', S[c]? = some (some (.own m')) := fun {c m} ec => by
      by_cases q2 : i = c
      · subst q2
        exact ⟨l, h⟩
      · rw [List.getElem?_set_ne q2] at ec
        exact ⟨m, ec⟩
    obtain ⟨m1, g1⟩ := g e2
    obtain ⟨m2, g2⟩ := g e3
    exact r.dist a b m1 m2 q ne g1 g2 e4
/-- what a name owns is given away: from here on it never changes -/
theorem sds_frz {sts : List Stmt} (i : Nat) (l : List D) (h : S[i]? = some (some (.own l))) (k : SDs X B W0 (S.set i (some (.val (.lst l)))) sts E) : SDs X B W0 S sts E := fun σ W H r z D' q => by
  obtain ⟨v, e1, p, xs, ev, hB, n, hI, hH, d0⟩ := r.sl i _ h
  subst ev
  have st : Stp W0 B (W.new p (.lst xs)) H := z.frz hB hI
  have ok := r.ok.frz hH n fun z => r.gb _ z hB
  have lt : i < S.length := (List.getElem?_eq_some_iff.mp h).1
  refine k σ (W.new p (.lst xs)) H ?_ st D' (q.mono (Ex.new hI))
  refine ⟨ok, r.gb, by simpa using r.len, fun j s ej => ?_, fun a b la lb c ne e2 e3 e4 => ?_, r.distT.setS i fun l z => by cases z⟩
  · by_cases y : i = j
    · subst y
      rw [List.getElem?_set_self lt] at ej
      cases ej
      exact ⟨_, e1, .lst (show upd W.I p _ p = _ from upd_same) (d0.mono (Ex.new hI))⟩
    · rw [List.getElem?_set_ne y] at ej
      obtain ⟨v2, e2, h2⟩ := r.sl j s ej
      refine ⟨v2, e2, ?_⟩
      cases s with
      | val d2 => exact Dn.mono (Ex.new hI) h2
      | pot => exact h2
      | own m =>
        obtain ⟨p2, ys, rfl, b1, b2, b3, b4, b5⟩ := h2
        refine ⟨p2, ys, rfl, b1, b2, ?_, b4, b5.mono (Ex.new hI)⟩
        show upd W.I p _ p2 = none
        rw [upd_ne (fun y2 => by
          rw [y2] at e2
          exact r.dist i j l m p y h ej e1 e2)]
        exact b3
      | ownT m =>
        obtain ⟨p2, ys, rfl, b1, b2, b3, b4, b5⟩ := h2
        refine ⟨p2, ys, rfl, b1, b2, ?_, b4, b5.mono (Ex.new hI)⟩
        show upd W.I p _ p2 = none
        rw [upd_ne (fun y2 => by rw [y2, hH] at b4; cases b4)]
        exact b3
      | inst C p2 dx fs =>
        obtain ⟨vs, rfl, b1, b2, b3, b4, b5, b6, b7, b8, b9, b10⟩ := h2
        refine ⟨vs, rfl, b1, b2, b3, b4, b5, ?_, ?_, b8, b9, b10.mono (Ex.new hI)⟩
        · show upd W.I p _ p2 = none
          rw [upd_ne (fun y => by rw [y, hH] at b8; cases b8)]
          exact b6
        · show upd W.I p _ dx = none
          rw [upd_ne (fun y => by rw [y, hH] at b9; cases b9)]
          exact b7
  · have g : ∀ {c : Nat} {m : List D}, (S.set i (some (.val (.lst l))))[c]? = some (some (.own m)) → S[c]? = some (some (.own m)) := fun {c m} ec => by
      by_cases q2 : i = c
      · subst q2
        rw [List.getElem?_set_self lt] at ec
        cases ec
      · rw [List.getElem?_set_ne q2] at ec
        exact ec
    exact r.dist a b la lb c ne (g e2) (g e3) e4

/-! ### comprehensions -/
/-- the weakest reading over all blocks -/
def WEb (X : Cx) (scope : Scope) (e : Expr) : TE := fun σ H Q => ∀ (s : Shared) (H0 : Hp) (C : Addr) (cl : List (Str × Addr)) (fp : List Addr), WE (X.blk s H0 scope (compEnvC scope cl C X.env) fp) e σ H Q
def WTb (X : Cx) (scope : Scope) (e : Expr) : TT := fun σ H Q => ∀ (s : Shared) (H0 : Hp) (C : Addr) (cl : List (Str × Addr)) (fp : List Addr), WT (X.blk s H0 scope (compEnvC scope cl C X.env) fp) e σ H Q
theorem web_pe {scope : Scope} (s : Shared) (H0 : Hp) (C : Addr) (cl : List (Str × Addr)) (fp : List Addr) : PE (X.blk s H0 scope (compEnvC scope cl C X.env) fp) e (WEb X scope e) := ⟨fun pins s2 _ _ _ I h => h s H0 C cl fp pins s2 I⟩
theorem wtb_pt {scope : Scope} (s : Shared) (H0 : Hp) (C : Addr) (cl : List (Str × Addr)) (fp : List Addr) : PT (X.blk s H0 scope (compEnvC scope cl C X.env) fp) e (WTb X scope e) := ⟨fun pins s2 _ _ _ I h => h s H0 C cl fp pins s2 I⟩
/-- at an address of one's own: the list so far -/
structure Mid (K : PySem.W.Frag) (g : List Code) (W1 : Wd) (H1 : Hp) (p : Addr) (l : List D) (W : Wd) (H : Hp) : Prop where
  st : Stp W1 H1 W H
  ok : Ok g W H
  n : ¬ W.P p
  i : W.I p = none
  h : ∃ xs, H p = some (.lst xs) ∧ Dns K W.I l xs
theorem Mid.step {K : PySem.W.Frag} {g : List Code} {W1 W W2 : Wd} {H1 H H2 : Hp} {p : Addr} {l : List D} (m : Mid K g W1 H1 p l W H) (a : Stp W H W2 H2) (ok : Ok g W2 H2) : Mid K g W1 H1 p l W2 H2 := by
  obtain ⟨xs, hp, d⟩ := m.h
  exact ⟨m.st.trans m.ok a, ok, fun z => m.n (a.oldP p _ hp z), a.old p _ hp (fun _ z => by cases z) m.i, xs, a.keep p _ hp m.n, d.mono a.I⟩
theorem Mid.more {K : PySem.W.Frag} {g : List Code} {W1 W : Wd} {H1 H : Hp} {p : Addr} {l : List D} {d : D} {v : V} (hp0 : H1 p = none) (m : Mid K g W1 H1 p l W H) (hd : Dn K W.I d v) (hl : l.length < 100000) :
    ∃ acc, H p = some (.lst acc) ∧ acc.length < sizeLine ∧ Mid K g W1 H1 p (l ++ [d]) W (upd H p (.lst (acc ++ [v]))) := by
  obtain ⟨xs, hp, ds⟩ := m.h
  refine ⟨xs, hp, Nat.lt_of_lt_of_le (ds.length ▸ hl) (by decide), ?_, ?_, m.n, m.i, _, upd_same, ds.append (.cons hd .nil)⟩
  · exact ⟨m.st.I, m.st.P, fun b o hb hn => by rw [upd_ne (ne_of_none hb hp0)]; exact m.st.keep b o hb hn, m.st.old, m.st.oldP⟩
  · exact {
      gd := fun b hb => by
        obtain ⟨n1, n2⟩ := m.ok.gd b hb
        refine ⟨n1, ?_⟩
        by_cases q : b = p
        · subst q
          rw [upd_same]
          exact ⟨(fun z => by cases z), (fun _ z => by cases z)⟩
        · rw [upd_ne q]
          exact n2
      ex := fun b o hb => by
        rw [upd_ne (fun y => by rw [y, m.i] at hb; cases hb)]
        exact m.ok.ex b o hb
      pot := fun b hb => by
        obtain ⟨nb, y2, w2, h2⟩ := m.ok.pot b hb
        have ne : b ≠ p := fun y => m.n (y ▸ hb)
        exact ⟨nb, y2, w2, by rw [upd_ne ne]; exact h2⟩ }
/-- [elt for g in a list], without a test -/
theorem fd_lcL {elt tg iter : Expr} {scope : Scope} {own : List (Str × Nat)} {g : TG} {l : List D} {Q : List D → Prop} (J : Nat → List D → Prop) (S' : D → En) (hc : X.calm = true) (hN : X.N.Nodup) (ok : BlkOk X.N X.env.scope scope own)
    (hg : ∀ (s : Shared) (H : Hp) (C : Addr) (cl : List (Str × Addr)) (fp : List Addr), PG (X.blk s H scope (compEnvC scope cl C X.env) fp) tg g)
    (h : ED X B S iter fun d => d = .lst l ∧ l.length ≤ 50000 ∧ J 0 []) (hp : ∀ d ∈ l, Pat X.K g (own.map (·.2)) S d (S' d))
    (he : ∀ (i : Nat) d acc, l[i]? = some d → acc.length = i → J i acc → ∀ (s : Shared) (H0 : Hp) (C : Addr) (cl : List (Str × Addr)) (fp : List Addr), ED (X.blk s H0 scope (compEnvC scope cl C X.env) fp) B (S' d) elt fun y => J (i + 1) (acc ++ [y]))
    (hd : ∀ acc, acc.length = l.length → J l.length acc → Q acc) (hs : ∀ x, foldedSetIterable iter X.env x = pure x := by intro _; rfl) : FD X B S (.ListComp elt [⟨tg, iter, [], 0⟩] scope pos) Q := fun σ W H r R k => by
  refine PE.w (pe_lc (te := WEb X scope elt) hc hN (pi_list we_pe) ok hg (fun _ _ _ _ _ => pts_nil) web_pe hs) ?_
  refine h σ W H r _ fun d v W1 H1 s1 ok1 n1 q1 => ?_
  obtain ⟨rfl, hz, j0⟩ := q1
  cases n1 with
  | @lst _ a xs ha m =>
    refine ⟨a, rfl, ⟨xs, SqL.of (ok1.ex _ _ ha)⟩, fun p hp0 => ?_⟩
    have r1 := r.step s1 ok1
    refine lc_list (K := X.K) (a := a) (xs := xs) (fun i H' => ∃ acc W', Mid X.K (gOf X) W1 H1 p acc W' H' ∧ acc.length = i ∧ J i acc) ⟨[], W1, ⟨Stp.own hp0, ok1.own hp0, ok1.notP hp0, ok1.free hp0, [], upd_same, .nil⟩, rfl, j0⟩
      (fun i H' _ ⟨acc, W', mm, _⟩ => SqL.of (mm.ok.ex _ _ (mm.st.I _ _ ha))) ?_ ?_
    · rintro i x H' hx ⟨acc, W', mm, hl, j⟩
      obtain ⟨d, hd', nd⟩ := m.get hx
      have r2 := r1.step mm.st mm.ok
      refine hp d (List.mem_of_getElem? hd') (gOf X) B σ W' H' x r2 (nd.mono mm.st.I) _ fun σ2 e2 r3 => ⟨e2, ?_⟩
      show WEb X scope elt σ2 H' _
      intro s H0 C cl fp
      refine he i d acc hd' hl j s H0 C cl fp σ2 W' H' r3 _ fun y v W2 H2 s2 ok2 n2 q2 => ?_
      have lt : i < l.length := (List.getElem?_eq_some_iff.mp hd').1
      obtain ⟨xs', e1, e3, m3⟩ := (mm.step s2 ok2).more hp0 n2 (by omega)
      exact ⟨xs', e1, e3, _, W2, m3, by simp [hl], q2⟩
    · rintro H' ⟨acc, W', mm, hl, j⟩
      obtain ⟨ys, hH, ds⟩ := mm.h
      rw [← m.length] at hl j
      exact k acc p ys W' H' (s1.trans ok1 mm.st) mm.ok (s1.free ok1 hp0) mm.n mm.i hH ds (hd acc hl j)
/-- .. over a range -/
theorem fd_lcR {elt tg : Expr} {p1 pos1 : Pos} {scope : Scope} {own : List (Str × Nat)} {n : Int} {Q : List D → Prop} (J : Nat → List D → Prop) (S' : D → En) {g : TG} (hc : X.calm = true) (hN : X.N.Nodup) (hm : X.mg "range" = none) (ok : BlkOk X.N X.env.scope scope own)
    (hg : ∀ (s : Shared) (H : Hp) (C : Addr) (cl : List (Str × Addr)) (fp : List Addr), PG (X.blk s H scope (compEnvC scope cl C X.env) fp) tg g)
    (h : AD X B S [e] fun as => as = [.val (.int n)] ∧ -(2 ^ 62) ≤ n ∧ n ≤ 50000 ∧ J 0 []) (hp : ∀ d, Pat X.K g (own.map (·.2)) S d (S' d))
    (he : ∀ (i : Nat) acc, (i : Int) < n → acc.length = i → J i acc → ∀ (s : Shared) (H0 : Hp) (C : Addr) (cl : List (Str × Addr)) (fp : List Addr), ED (X.blk s H0 scope (compEnvC scope cl C X.env) fp) B (S' (.int i)) elt fun y => J (i + 1) (acc ++ [y]))
    (hd : ∀ acc, acc.length = n.toNat → J n.toNat acc → Q acc) (hgl : Gl X "range" := by rfl) (hst : starEach [e] X.env = [(false, eval e X.env)] := by rfl)
    (hs : ∀ x, foldedSetIterable (.Call (.Name "range" p1) [e] [] pos1) X.env x = pure x := by intro _; rfl) : FD X B S (.ListComp elt [⟨tg, .Call (.Name "range" p1) [e] [] pos1, [], 0⟩] scope pos) Q := fun σ W H r R k => by
  refine PE.w (pe_lc (te := WEb X scope elt) hc hN (pi_range1 hgl hm wa_pa hst) ok hg (fun _ _ _ _ _ => pts_nil) web_pe hs) ?_
  refine h σ W H r _ fun as vs W1 H1 s1 ok1 n1 q1 => ?_
  obtain ⟨rfl, hz, hz2, j0⟩ := q1
  obtain ⟨v, rfl, m⟩ := one_arg n1
  cases m
  refine ⟨n, rfl, hz, by omega, fun p hp0 => ?_⟩
  have r1 := r.step s1 ok1
  refine lc_range (lo := 0) (n := n.toNat) (fun i H' => ∃ acc W', Mid X.K (gOf X) W1 H1 p acc W' H' ∧ acc.length = i ∧ J i acc) ⟨[], W1, ⟨Stp.own hp0, ok1.own hp0, ok1.notP hp0, ok1.free hp0, [], upd_same, .nil⟩, rfl, j0⟩ ?_ ?_
  · rintro i H' hi ⟨acc, W', mm, hl, j⟩
    rw [Int.zero_add]
    have r2 := r1.step mm.st mm.ok
    refine hp (.int i) (gOf X) B σ W' H' _ r2 (.int _) _ fun σ2 e2 r3 => ⟨e2, ?_⟩
    show WEb X scope elt σ2 H' _
    intro s H0 C cl fp
    refine he i acc (by omega) hl j s H0 C cl fp σ2 W' H' r3 _ fun y v W2 H2 s2 ok2 n2 q2 => ?_
    obtain ⟨xs', e1, e3, m3⟩ := (mm.step s2 ok2).more hp0 n2 (by omega)
    exact ⟨xs', e1, e3, _, W2, m3, by simp [hl], q2⟩
  · rintro H' ⟨acc, W', mm, hl, j⟩
    obtain ⟨ys, hH, ds⟩ := mm.h
    exact k acc p ys W' H' (s1.trans ok1 mm.st) mm.ok (s1.free ok1 hp0) mm.n mm.i hH ds (hd acc hl j)
end
end DL

set_option Elab.async false
set_option linter.all false
set_option maxRecDepth 100000
set_option maxHeartbeats 4000000
/-! operators of own classes, also with ints on either side -/
namespace OwnOps
open PySem PySem.W PySem.Calls
section
variable {prog : Program} {w : World} {A : Around} {E : Value → Shared → Prop} {s : Shared} {K : Frag} {x C f g : Addr} {ox : Obj} {od : Option Obj} {op : Operator} {i : Int} {t : Tok}
/-- a class stands first in its own order -/
theorem first_of (hc : selfFirst K C = true) : ∃ cd rest, clsIn K C = some cd ∧ cd.mro = .ref C :: rest := by
  unfold selfFirst at hc
  cases q : clsIn K C with
  | none =>
    rw [q] at hc
    exact absurd hc (by simp)
  | some cd =>
    rw [q] at hc
    match e : cd.mro, hc with
    | [], hc => simp [e] at hc
    | a :: r, hc =>
      have z : a = Value.ref C := by simpa [e] using hc
      exact ⟨cd, r, rfl, by rw [z] at e; exact e⟩
theorem slotPy {M : Model} {h : Heap} {nm : String} (X : K.In h) (h1 : findIn K (.ref C) (PySem.dunder nm) = some (some (.ref f))) (h2 : findIn K (.ref C) (dunderR nm) = some (some (.ref g))) : Looks M h (numberSlotInPython (.ref C) nm) true := by
  intro A Q E s k q
  unfold numberSlotInPython
  refine wpAny_bind (looks_findIn X h1 A _ E s k ?_)
  refine wpAny_bind ?_
  show wpAny M A (pure true) _ _ _
  refine wpAny_pure (wpAny_bind (looks_findIn X h2 A _ E s k (wpAny_bind ?_)))
  show wpAny M A (pure true) _ _ _
  refine wpAny_pure ?_
  rw [if_pos (by rfl)]
  exact wpAny_pure q
/-- own + int -/
theorem own_int {Q : Value → Shared → Prop} (X : K.In s.heap) (I : InstAt s.heap x ox C od) (hc : selfFirst K C = true) (hs : findIn K (.ref C) (PySem.dunder op.info.2) = some (some (.ref f))) (hr : findIn K (.ref C) (dunderR op.info.2) = some (some (.ref g)))
    (hf : isFn K (.ref f) = true) (hsub : subIn K (.type "int") (.ref C) = some false) (hint : fillsNumberSlot (.type "int") op.info.2 = pure true) (hl : ∃ r, findIn K (.type "int") (dunderR op.info.2) = some r)
    (h : wpAny (model prog w) A (call (.ref f) [.ref x, .int i t]) (CmpBack Q) E s) : wpAny (model prog w) A (binaryOp op (.ref x) (.int i t)) Q E s := by
  obtain ⟨cd, rest, hcd, hm⟩ := first_of hc
  obtain ⟨r, hl⟩ := hl
  rcases hi : op.info with ⟨sym, nm⟩
  rw [hi] at hs hr hint hl
  have hpy : numberSlotInPython (.type "int") nm = pure false := rfl
  simp only [binaryOp, hi]
  refine wpAny_holding (wpAny_bind ?_)
  unfold binaryOp1
  refine wpAny_bind (I.type.here (wpAny_bind (wpAny_typeOf (typeIs_int _ _ _) (wpAny_bind ((fills_K X hcd hm hs).here ?_)))))
  have hne : (Value.ref C == Value.type "int") = false := rfl
  simp only [hne, Bool.false_eq_true, if_false]
  refine wpAny_bind (wpAny_of_eq hint ?_)
  simp only [Bool.and_self, if_true]
  refine wpAny_bind ((looks_subIn X hsub).here ?_)
  simp only [Bool.false_eq_true, if_false, Bool.not_false, Bool.and_self, if_true, pure_bind]
  refine wpAny_bind ((slotPy X hs hr).here ?_)
  simp only [if_true, hpy, pure_bind, Bool.not_false]
  refine wpAny_bind ((looks_findIn X hl).here ?_)
  refine wpAny_bind (m := tryMethod (.ref x) _ _) ?_
  unfold tryMethod
  refine wpAny_bind (special_fn X I hs (beq_iff_eq.mp hf) (wpAny_mono h (fun v s' hv => ?_) fun _ _ e => e))
  cases v <;> first | exact hv.elim | exact wpAny_pure (wpAny_pure (wpAny_pure hv))
end
end OwnOps
namespace OwnOps
open PySem PySem.W PySem.Calls
section
variable {prog : Program} {w : World} {A : Around} {E : Value → Shared → Prop} {s : Shared} {K : Frag} {x C f g L : Addr} {ox : Obj} {od : Option Obj} {i : Int} {t : Tok} {h₀ : Heap} {m : Str → Option Value} {b tb : Value}
end
end OwnOps

set_option Elab.async false
set_option linter.all false
set_option maxRecDepth 100000
set_option maxHeartbeats 2000000
namespace DL
open PySem L2

/-! ### objects -/
/-- a method of the class at C -/
structure Mt (P : Program) (w : World) (K : PySem.W.Frag) (mg : Str → Option Value) (base : Heap) (C : Addr) (m : Str) (k : Nat) (sp : SpD) : Prop where
  ex : ∃ f fd ps, GnOk P w K mg base k f fd ps (lift K sp) ∧ Meth K C m f ∧ Binds K fd ps []
/-- a property of the class at C -/
structure Pr (P : Program) (w : World) (K : PySem.W.Frag) (mg : Str → Option Value) (base : Heap) (C : Addr) (m : Str) (k : Nat) (sp : SpD) : Prop where
  ex : ∃ p f fd ps, GnOk P w K mg base k f fd ps (lift K sp) ∧ PropOf K C m p f ∧ Binds K fd ps []
section
variable {X : Cx} {B : Hp} {S : En} {pos p apos : Pos} {Q : D → Prop} {e o : Expr} {es : List Expr} {x m f : Str} {k n : Nat} {sp : SpD} {C : Addr}
theorem ed_fld (c : Cls X.K C) (na : NoAttr X.K C f) (h : ED X B S o fun x => ∃ fs d, x = .obj C fs ∧ fs.lookup f = some d ∧ Q d) (hb : attributeBase o f X.env (eval o X.env) = eval o X.env := by rfl) : ED X B S (.Attribute o f pos) Q := fun σ W H r R k => by
  refine PE.w (pe_fld we_pe hb) ?_
  refine h σ W H r _ fun d v W1 H1 s1 ok1 n1 q1 => ?_
  obtain ⟨fs, d', rfl, l, q1⟩ := q1
  cases n1 with
  | obj ha m =>
    obtain ⟨v', e1, n2⟩ := m.look l
    exact ⟨_, C, _, _, v', rfl, ok1.ex _ _ ha, c, na, e1, (k.step s1 ok1).now ok1 n2 q1⟩
theorem ed_prop (c : Cls X.K C) (F : Pr X.prog X.w X.K X.mg X.base C f k sp) (hr : Room (k + 1) X.A) (hG : X.A.guards = some (gOf X)) (h : ED X B S o fun x => ∃ fs, x = .obj C fs ∧ sp [.val x] Q) (hb : attributeBase o f X.env (eval o X.env) = eval o X.env := by rfl) : ED X B S (.Attribute o f pos) Q := fun σ W H r R c' => by
  obtain ⟨pp, g, fd, ps, F, hp, bb⟩ := F.ex
  refine we_prop c hp F hr hG bb .nil ?_ hb
  refine h σ W H r _ fun d v W1 H1 s1 ok1 n1 q1 => ?_
  obtain ⟨fs, rfl, q1⟩ := q1
  cases id n1 with
  | obj ha m => exact ⟨_, _, _, rfl, ok1.ex _ _ ha, [.val (.obj C fs)], W1, Q, ok1, .cons n1 .nil, q1, c'.step s1 ok1⟩
theorem ed_meth {pl : Sem Bool} (c : Cls X.K C) (F : Mt X.prog X.w X.K X.mg X.base C m k sp) (hr : Room k X.A) (hG : X.A.guards = some (gOf X)) (h : ED X B S o fun x => ∃ fs, x = .obj C fs ∧ fs.lookup m = none ∧ AD X B S (e :: es) fun as => sp (.val x :: as) Q)
    (hst : starEach (e :: es) X.env = (false, eval e X.env) :: starEach es X.env := by rfl) (hpl : (backTo pos (starEach es X.env)).any (·.1) = false := by rfl)
    (ht : eval (.Call (.Attribute o m apos) (e :: es) [] pos) X.env = (do
      let ov ← eval o X.env
      standAt apos.atName
      let (f, first) ← holding [ov] (getMethod ov m pl)
      callWith pos f first (backTo pos (starEach (e :: es) X.env)) (backToKw pos (keywordEach [] X.env))) := by rfl) : ED X B S (.Call (.Attribute o m apos) (e :: es) [] pos) Q := fun σ W H r R c' => by
  obtain ⟨f, fd, ps, F, M, bb⟩ := F.ex
  refine we_meth c M F hr hG bb .nil ?_ hst hpl ht
  refine h σ W H r _ fun d v W1 H1 s1 ok1 n1 q1 => ?_
  obtain ⟨fs, rfl, l, q1⟩ := q1
  cases id n1 with
  | obj ha mm =>
    refine ⟨_, _, _, rfl, ok1.ex _ _ ha, mm.nolook l, ?_⟩
    refine q1 σ W1 H1 (r.step s1 ok1) _ fun as vs W2 H2 s2 ok2 n2 q2 => ?_
    rw [List.append_nil]
    exact ⟨.val (.obj C fs) :: as, W2, Q, ok2, .cons (show Arg X.K W2 (.val (.obj C fs)) _ from n1.mono s2.I) n2, q2, (c'.step s1 ok1).step s2 ok2⟩
theorem ed_meth0 {pl : Sem Bool} (c : Cls X.K C) (F : Mt X.prog X.w X.K X.mg X.base C m k sp) (hr : Room k X.A) (hG : X.A.guards = some (gOf X)) (h : ED X B S o fun x => ∃ fs, x = .obj C fs ∧ fs.lookup m = none ∧ sp [.val x] Q)
    (ht : eval (.Call (.Attribute o m apos) [] [] pos) X.env = (do
      let ov ← eval o X.env
      standAt apos.atName
      let (f, first) ← holding [ov] (getMethod ov m pl)
      callWith pos f first (backTo pos (starEach [] X.env)) (backToKw pos (keywordEach [] X.env))) := by rfl) : ED X B S (.Call (.Attribute o m apos) [] [] pos) Q := fun σ W H r R c' => by
  obtain ⟨f, fd, ps, F, M, bb⟩ := F.ex
  refine we_meth0 c M F hr hG bb .nil ?_ ht
  refine h σ W H r _ fun d v W1 H1 s1 ok1 n1 q1 => ?_
  obtain ⟨fs, rfl, l, q1⟩ := q1
  cases id n1 with
  | obj ha mm =>
    refine ⟨_, _, _, rfl, ok1.ex _ _ ha, mm.nolook l, ?_⟩
    show lift X.K sp (gOf X) (V.ref _ :: []) H1 R
    exact ⟨[.val (.obj C fs)], W1, Q, ok1, .cons n1 .nil, q1, c'.step s1 ok1⟩
end

/-! ### objects made -/
abbrev SpI := List Sl → (List (Str × D) → Prop) → Prop
def liftI (K : PySem.W.Frag) (C : Addr) (sp : SpI) : SpG := fun g vs H R => ∃ (p dx : Addr) (us : List V) (H1 : Hp) (W : Wd) (as : List Sl) (Q : List (Str × D) → Prop), vs = .ref p :: us ∧ H = upd (upd H1 dx (.own p)) p (.ins C dx []) ∧ H1 p = none ∧ H1 dx = none ∧ dx ≠ p ∧
  Ok g W H1 ∧ Args K W as us ∧ sp as Q ∧ ∀ fs vs2 W' H', Stp W H1 W' H' → Ok g W' H' → ¬ W'.P p → W'.I p = none → H' p = some (.ins C dx vs2) → Dnf K W'.I fs vs2 → Q fs → R .non H'
/-- the class that the module calls x, at C; ds: what its last parameters are without arguments -/
structure Kl (P : Program) (w : World) (K : PySem.W.Frag) (mg : Str → Option Value) (base : Heap) (x : Str) (C : Addr) (k : Nat) (dds : List D) (sp : SpI) : Prop where
  ex : ∃ f fd ps dvs ds, GnOk P w K mg base k f fd ps (liftI K C sp) ∧ Mk K C f ∧ mg x = some (.ref C) ∧ Binds K fd ps ds ∧ Vals dvs ds ∧ ∀ I, Dns K I dds dvs
section
variable {X : Cx} {B : Hp} {S : En} {pos p apos : Pos} {Q : D → Prop} {e o : Expr} {es : List Expr} {x m f : Str} {k n : Nat} {sp : SpI} {C : Addr} {dds : List D}
theorem Args.data {K : PySem.W.Frag} {W : Wd} : ∀ {ds : List D} {vs : List V}, Dns K W.I ds vs → Args K W (ds.map Sl.val) vs
  | _, _, .nil => .nil
  | _, _, .cons h r => .cons h (Args.data r)
theorem Args.append {K : PySem.W.Frag} {W : Wd} : ∀ {as bs : List Sl} {vs us : List V}, Args K W as vs → Args K W bs us → Args K W (as ++ bs) (vs ++ us)
  | _, _, _, _, .nil, s => s
  | _, _, _, _, .cons h r, s => .cons h (Args.append r s)
theorem cont_make {K : PySem.W.Frag} {g : List Code} {W : Wd} {H : Hp} {R : VK} (c : Cont K g W H Q R) {as : List Sl} {vs : List V} (ok : Ok g W H) (n : Args K W as vs) (q : sp as fun fs => Q (.obj C fs)) : ∀ x dx, H x = none → H dx = none → dx ≠ x → liftI K C sp g (.ref x :: vs) (upd (upd H dx (.own x)) x (.ins C dx [])) (fun v H2 => v = .non ∧ R (.ref x) H2) := fun x dx hx hdx ne =>
  ⟨x, dx, vs, H, W, as, _, rfl, rfl, hx, hdx, ne, ok, n, q, fun fs vs2 W' H' st ok' nP i hp d q2 => ⟨rfl, c (.obj C fs) (.ref x) _ H' (st.frz hx i) (ok'.frz hp nP fun z => (ok.gd _ z).2.1 hx) (.obj (show upd W'.I x _ x = _ from upd_same) (d.mono (Ex.new i))) q2⟩⟩
/-- C(e, ..), the rest of its parameters as they are without arguments -/
theorem ed_make (F : Kl X.prog X.w X.K X.mg X.base x C k dds sp) (hr : Room (k + 1) X.A) (hG : X.A.guards = some (gOf X)) (h : AD X B S (e :: es) fun as => sp (as ++ dds.map Sl.val) fun fs => Q (.obj C fs)) (hg : Gl X x := by rfl) (hdb : (x == ("__debug__" : Str)) = false := by decide)
    (he : starEach (e :: es) X.env = (false, eval e X.env) :: starEach es X.env := by rfl) (hpl : (backTo pos (starEach es X.env)).any (·.1) = false := by rfl) : ED X B S (.Call (.Name x p) (e :: es) [] pos) Q := fun σ W H r R c => by
  obtain ⟨f, fd, ps, dvs, ds, F, M, hm, hb, hd, hD⟩ := F.ex
  refine we_make M F hr hG hg hm hb hd ?_ hdb he hpl
  refine h σ W H r _ fun as vs W1 H1 s1 ok1 n1 q1 => ?_
  intro y dy hy hdy ne
  exact cont_make (c.step s1 ok1) ok1 (n1.append (Args.data (hD W1.I))) q1 y dy hy hdy ne
/-- C(e, ..), all parameters given -/
theorem ed_makeA {sp : SpI} (F : Kl X.prog X.w X.K X.mg X.base x C k [] sp) (hr : Room (k + 1) X.A) (hG : X.A.guards = some (gOf X)) (h : AD X B S (e :: es) fun as => sp as fun fs => Q (.obj C fs)) (hg : Gl X x := by rfl) (hdb : (x == ("__debug__" : Str)) = false := by decide)
    (he : starEach (e :: es) X.env = (false, eval e X.env) :: starEach es X.env := by rfl) (hpl : (backTo pos (starEach es X.env)).any (·.1) = false := by rfl) : ED X B S (.Call (.Name x p) (e :: es) [] pos) Q :=
  ed_make F hr hG (by simpa using h) hg hdb he hpl
end
/-! __init__ -/
def putD (f : Str) (d : D) : List (Str × D) → List (Str × D)
  | [] => [(f, d)]
  | (g, e) :: r => if g = f then (g, d) :: r else (g, e) :: putD f d r
theorem Dnf.put {K : PySem.W.Frag} {I : Hp} {f : Str} {d : D} {v : V} (h : Dn K I d v) : ∀ {fs : List (Str × D)} {vs : List (Str × V)}, Dnf K I fs vs → Dnf K I (putD f d fs) (putF f v vs)
  | _, _, .nil => .cons h .nil
  | _, _, .cons (f := g) q r => by
    unfold putD putF
    by_cases e : g = f
    · rw [if_pos e, if_pos e]
      exact .cons h r
    · rw [if_neg e, if_neg e]
      exact .cons q (Dnf.put h r)
theorem Dnf.length {K : PySem.W.Frag} {I : Hp} : ∀ {fs : List (Str × D)} {vs : List (Str × V)}, Dnf K I fs vs → fs.length = vs.length
  | _, _, .nil => rfl
  | _, _, .cons _ r => congrArg (· + 1) (Dnf.length r)
def notInst : Option Sl → Bool
  | some (.inst _ _ _ _) => false
  | _ => true
section
variable {X : Cx} {B : Hp} {W0 : Wd} {S : En} {e : Expr} {pos p p1 : Pos} {E : Ends'} {x f : Str} {C : Addr}
/-- self.f = e, self the object that is being made -/
theorem sd_fld {q dx : Addr} (i : Nat) (fs : List (Str × D)) (c : Cls X.K C) (na : NoAttr X.K C f) (hN : X.N[i]? = some x) (h : S[i]? = some (some (.inst C q dx fs))) (hl : fs.length < 1000) (one : (S.set i none).all notInst = true) (he : ED X B S e fun d => E.nx (S.set i (some (.inst C q dx (putD f d fs)))))
    (hv : Vis X.env.scope x := by first | exact Or.inl rfl | exact Or.inr (Or.inl rfl) | exact Or.inr (Or.inr rfl)) (hd : (x == ("__debug__" : Str)) = false := by decide) (hcd : (x == ("__classdict__" : Str)) = false := by decide)
    (hs : swapsWith e (some (.Attribute (.Name x p) f p1)) pos.line X.env = pure false := by rfl) : SD X B W0 S (.Assign [.Attribute (.Name x p) f p1] e pos) E := fun σ W H r z D' k => by
  refine PS.w (ps_fld (pe_var hN hv hd hcd) we_pe hs) ?_
  refine he σ W H r _ fun d v W1 H1 s1 ok1 n1 q1 => ?_
  have r1 := r.step s1 ok1
  obtain ⟨v0, e1, vs, ev, b1, b2, ne, n, n2, i1, i2, hp, hdx, dn⟩ := r1.sl i _ h
  subst ev
  refine ⟨_, e1, q, C, dx, vs, rfl, hp, c, na, dn.length ▸ hl, ?_⟩
  have ok2 : Ok (gOf X) W1 (upd H1 q (.ins C dx (putF f v vs))) := {
    gd := fun b hb => by
      obtain ⟨n1, n2⟩ := ok1.gd b hb
      refine ⟨n1, ?_⟩
      by_cases y : b = q
      · subst y
        rw [upd_same]
        exact ⟨(fun z => by cases z), (fun _ z => by cases z)⟩
      · rw [upd_ne y]
        exact n2
    ex := fun b o hb => by
      rw [upd_ne (fun y => by rw [y, i1] at hb; cases hb)]
      exact ok1.ex b o hb
    pot := fun b hb => by
      obtain ⟨nb, y2, w2, h2⟩ := ok1.pot b hb
      have ne : b ≠ q := fun y => n (y ▸ hb)
      exact ⟨nb, y2, w2, by rw [upd_ne ne]; exact h2⟩ }
  have z1 := z.trans r.ok s1
  have z2 : Stp W0 B W1 (upd H1 q (.ins C dx (putF f v vs))) := ⟨z1.I, z1.P, fun b o hb hn => by rw [upd_ne (ne_of_none hb b1)]; exact z1.keep b o hb hn, z1.old, z1.oldP⟩
  have lt : i < S.length := (List.getElem?_eq_some_iff.mp h).1
  refine k.nx _ σ W1 _ ?_ z2 s1.I q1
  refine ⟨ok2, r.gb, by simpa using r.len, fun j s ej => ?_, fun a b la lb c ne e2 e3 e4 => ?_, r1.distT.setS i fun l z => by cases z⟩
  · by_cases y : i = j
    · subst y
      rw [List.getElem?_set_self lt] at ej
      cases ej
      exact ⟨_, e1, _, rfl, b1, b2, ne, n, n2, i1, i2, upd_same, by rw [upd_ne ne]; exact hdx, dn.put n1⟩
    · rw [List.getElem?_set_ne y] at ej
      obtain ⟨v2, e2, h2⟩ := r1.sl j s ej
      refine ⟨v2, e2, ?_⟩
      cases s with
      | val d2 => exact h2
      | pot => exact h2
      | own m =>
        obtain ⟨p2, ys, rfl, c1, c2, c3, c4, c5⟩ := h2
        refine ⟨p2, ys, rfl, c1, c2, c3, ?_, c5⟩
        rw [upd_ne (fun y => by rw [y, hp] at c4; cases c4)]
        exact c4
      | ownT m =>
        obtain ⟨p2, ys, rfl, c1, c2, c3, c4, c5⟩ := h2
        refine ⟨p2, ys, rfl, c1, c2, c3, ?_, c5⟩
        rw [upd_ne (fun y => by rw [y, hp] at c4; cases c4)]
        exact c4
      | inst C' q' dx' fs' =>
        exfalso
        have e5 : (S.set i none)[j]? = some (some (.inst C' q' dx' fs')) := by rw [List.getElem?_set_ne y]; exact ej
        have := List.all_eq_true.mp one _ (List.mem_of_getElem? e5)
        cases this
  · have g : ∀ {c : Nat} {m : List D}, (S.set i (some (.inst C q dx (putD f d fs))))[c]? = some (some (.own m)) → S[c]? = some (some (.own m)) := fun {c m} ec => by
      by_cases q2 : i = c
      · subst q2
        rw [List.getElem?_set_self lt] at ec
        cases ec
      · rw [List.getElem?_set_ne q2] at ec
        exact ec
    exact r1.dist a b la lb c ne (g e2) (g e3) e4
end
section
variable {P : Program} {w : World} {K : PySem.W.Frag} {mg : Str → Option Value} {base : Heap}
/-- an __init__ by its body: self is slot 0 -/
theorem init_dl {x qual : Str} {st : Stmt} {f C : Addr} {fd : FuncData} {N ps : List Str} {k : Nat} {sp : SpI} (F : FunS K x qual st f fd) (hS : FnScope N ps (defScope st)) (len : ∀ as Q, sp as Q → as.length + 1 = ps.length)
    (body : ∀ cdv A outer s H, Room k (A.deeper (PyProof.Rows.envOfC qual (defScope st) s.heap.objs.size f cdv)) → (Bx P w K mg base N qual st f cdv A outer s H).A.guards = some (gOf (Bx P w K mg base N qual st f cdv A outer s H)) → ∀ W B as Q p dx, sp as Q → SDs (Bx P w K mg base N qual st f cdv A outer s H) B W (startE N (.inst C p dx [] :: as)) (defBody st) { nx := fun S' => ∃ fs, S'[0]? = some (some (.inst C p dx fs)) ∧ Q fs, rt := fun _ => False }) :
    GnOk P w K mg base (k + 1) f fd ps (liftI K C sp) := by
  refine gn_of F hS (fun g vs H Q h => ?_) (fun cdv A outer s H g vs R hr hG h => ?_)
  · obtain ⟨p, dx, us, H1, W, as, Qd, rfl, _, _, _, _, _, ha, hsp, _⟩ := h
    rw [← len _ _ hsp, List.length_cons, Paired.length ha]
  · obtain ⟨p, dx, us, H1, W, as, Qd, rfl, eH, hp, hdx, ne, ok, ha, hsp, c⟩ := h
    refine ⟨WSs _ (defBody st), wss_pss, ?_⟩
    obtain ⟨g1, g2⟩ := gOf_bx (P := P) (w := w) (K := K) (mg := mg) (base := base) (N := N) (qual := qual) (st := st) (f := f) (cdv := cdv) (outer := outer) (s := s) (H := H) hG
    have st1 : Stp W H1 W H := by
      rw [eH]
      exact (Stp.own hdx).trans (ok.own hdx) (Stp.own (by rw [upd_ne (Ne.symm ne)]; exact hp))
    have ok1 : Ok g W H := by
      rw [eH]
      exact (ok.own hdx).own (by rw [upd_ne (Ne.symm ne)]; exact hp)
    have rep : Rep K g H1 (startE N (.inst C p dx [] :: as)) (L2.start N (.ref p :: us)) W H := by
      have r0 := rep_start (N := N.tail) ok1 (ha.step st1)
      have hN : N.length = N.tail.length + 1 := by
        have h1 := hS.pre
        have h2 := len _ _ hsp
        have h3 : ps.length ≤ N.length := by
          have := congrArg List.length h1
          rw [List.length_take] at this
          omega
        rw [List.length_tail]
        omega
      have e1 : startE N (.inst C p dx [] :: as) = some (.inst C p dx []) :: startE N.tail as := by
        unfold startE
        rw [hN]
        simp [Nat.add_sub_add_right]
      have e2 : L2.start N (.ref p :: us) = some (.ref p) :: L2.start N.tail us := by
        unfold L2.start
        rw [hN]
        simp [Nat.add_sub_add_right]
      rw [e1, e2]
      refine ⟨ok1, fun b hb => (ok.gd b hb).2.1, by simp [r0.len], fun i s e => ?_, fun i j l m q n a1 a2 a3 => ?_, fun i j l m q n a1 a2 a3 => ?_⟩
      · cases i with
        | zero =>
          cases e
          refine ⟨_, rfl, [], rfl, hp, hdx, ne, ok.notP hp, ok.notP hdx, ok.free hp, ok.free hdx, ?_, ?_, .nil⟩
          · rw [eH]; exact upd_same
          · rw [eH, upd_ne ne]; exact upd_same
        | succ i =>
          obtain ⟨v, a1, a2⟩ := r0.sl i s e
          refine ⟨v, a1, ?_⟩
          cases s with
          | val d => exact a2
          | pot => exact a2
          | own l =>
            exfalso
            have key : ∀ {as : List Sl} {vs : List V} {n : Nat} {i : Nat}, Args K W as vs → (as.map some ++ List.replicate n none)[i]? = some (some (.own l)) → False := by
              intro as vs n i h
              induction h generalizing i with
              | nil =>
                intro e
                simp only [List.map_nil, List.nil_append, List.getElem?_replicate] at e
                split at e <;> cases e
              | @cons a v as vs h1 _ ih =>
                intro e
                cases i with
                | zero =>
                  simp only [List.map_cons, List.cons_append, List.getElem?_cons_zero, Option.some.injEq] at e
                  subst e
                  exact h1
                | succ i =>
                  simp only [List.map_cons, List.cons_append, List.getElem?_cons_succ] at e
                  exact ih e
            exact key ha e
          | ownT l =>
            exact absurd e (start_noT (ha.step st1) i l)
          | inst C' q' dx' fs =>
            exfalso
            have key : ∀ {as : List Sl} {vs : List V} {n : Nat} {i : Nat}, Args K W as vs → (as.map some ++ List.replicate n none)[i]? = some (some (.inst C' q' dx' fs)) → False := by
              intro as vs n i h
              induction h generalizing i with
              | nil =>
                intro e
                simp only [List.map_nil, List.nil_append, List.getElem?_replicate] at e
                split at e <;> cases e
              | @cons a v as vs h1 _ ih =>
                intro e
                cases i with
                | zero =>
                  simp only [List.map_cons, List.cons_append, List.getElem?_cons_zero, Option.some.injEq] at e
                  subst e
                  exact h1
                | succ i =>
                  simp only [List.map_cons, List.cons_append, List.getElem?_cons_succ] at e
                  exact ih e
            exact key ha e
      · cases i with
        | zero => cases a1
        | succ i => cases j with
          | zero => cases a2
          | succ j => exact r0.dist i j l m q (fun z => n (congrArg (· + 1) z)) a1 a2 a3
      · cases i with
        | zero => cases a1
        | succ i => cases j with
          | zero => cases a2
          | succ j => exact r0.distT i j l m q (fun z => n (congrArg (· + 1) z)) a1 a2 a3
    refine body cdv A outer s H hr (by rw [g2]; exact g1) W H1 as Qd p dx hsp (L2.start N (.ref p :: us)) W H (by rw [g2]; exact rep) st1 _ ?_
    rw [g2]
    refine ⟨fun S σ W' H' r z _ q => ?_, fun d v W' H' ok' z _ n q => q.elim, fun _ _ _ _ _ _ _ q => q.elim, fun _ _ _ _ _ _ _ q => q.elim⟩
    obtain ⟨fs, e, q⟩ := q
    obtain ⟨v, _, vs2, _, _, _, _, n1, _, i1, _, hp', _, dn⟩ := r.sl 0 _ e
    exact c fs vs2 W' H' z r.ok n1 i1 hp' dn q
end
end DL

set_option Elab.async false
set_option linter.all false
set_option maxRecDepth 100000
set_option maxHeartbeats 4000000
namespace DL
open PySem L2

/-! ### isinstance -/
/-- the class at C, as isinstance asks -/
structure Isi (K : PySem.W.Frag) (C : Addr) : Prop where
  cl : Cls K C
  ca : PySem.W.findIn K (.ref C) "__class__" = some (some (.builtin "object.__class__"))
  cn : PySem.W.specialIn K (.builtin "object.__class__") "__get__" = some (some (.builtin "getset_descriptor.__get__"))
  ct : PySem.W.takesIn K (.builtin "object.__class__") = some true
  cm : PySem.W.mroIn K C (.type "object") = some true
/-- the type of a datum -/
inductive TyD (K : PySem.W.Frag) : D → Value → Prop
  | non : TyD K .non (.type "NoneType")
  | bl (b) : TyD K (.bl b) (.type "bool")
  | int (i) : TyD K (.int i) (.type "int")
  | str (s) : TyD K (.str s) (.type "str")
  | tup (l) : TyD K (.tup l) (.type "tuple")
  | lst (l) : TyD K (.lst l) (.type "list")
  | obj {C} (fs) (h : Isi K C) : TyD K (.obj C fs) (.ref C)
  | dct : TyD K .dct (.type "dict")
  | dcK (l) : TyD K (.dcK l) (.type "dict")
theorem TyD.x {K : PySem.W.Frag} {W : Wd} {H : Hp} {d : D} {v : V} {t : Value} (h : TyD K d t) (ok : Ok g W H) (n : Dn K W.I d v) : TyX K H v t := by
  cases h with
  | non => cases n; exact .base .non
  | bl b => cases n; exact .base (.bl b)
  | int i => cases n; exact .base (.int i)
  | str s => cases n; exact .base (.str s)
  | tup l => cases n with | tup h _ => exact .base (.tup (ok.ex _ _ h))
  | lst l => cases n with | lst h _ => exact .base (.lst (ok.ex _ _ h))
  | obj fs i => cases n with | obj h _ => exact .base (.ins (ok.ex _ _ h) i.cl i.ca i.cn i.ct i.cm)
  | dct => cases n with | dct h => exact .base (.dK (ok.ex _ _ h))
  | dcK l => cases n with | dcK h _ => exact .base (.dK (ok.ex _ _ h))
/-- a class as a datum -/
inductive ClD : D → Value → Prop
  | ty (n) : ClD (.ty n) (.type n)
  | cls (C) : ClD (.cls C) (.ref C)
theorem ClD.v {K : PySem.W.Frag} {I : Hp} {d : D} {v : V} {u : Value} (h : ClD d u) (n : Dn K I d v) : ClsV v u := by
  cases h with
  | ty m => cases n; exact .ty m
  | cls C => cases n; exact .own C
section
variable {X : Cx} {B : Hp} {S : En} {pos p apos : Pos} {Q : D → Prop} {e o a b : Expr} {es : List Expr} {x m f : Str}
theorem ed_ty {n : String} (hm : X.mg x = none) (q : Q (.ty n)) (hv : bootBuiltins x = some (.type n) := by first | rfl | decide +kernel) (hg : Gl X x := by rfl) (hn : x ≠ "__name__" := by decide) (hd : (x == ("__debug__" : Str)) = false := by decide) : ED X B S (.Name x pos) Q := fun σ W H r R k =>
  PE.w (pe_bltn (v := .ty n) hg hm hv rfl hn hd) (k.now r.ok (.ty n) q)
theorem ed_cls {C : Addr} (hm : X.mg x = some (.ref C)) (q : Q (.cls C)) (hg : Gl X x := by rfl) (hd : (x == ("__debug__" : Str)) = false := by decide) : ED X B S (.Name x pos) Q := fun σ W H r R k =>
  PE.w (pe_glob (v := .ref C) hg hm rfl hd) (k.now r.ok (.cls C) q)
theorem ed_gint {i : Int} {t : Tok} (hm : X.mg x = some (.int i t)) (q : Q (.int i)) (hg : Gl X x := by rfl) (hd : (x == ("__debug__" : Str)) = false := by decide) : ED X B S (.Name x pos) Q := fun σ W H r R k =>
  PE.w (pe_glob (v := .int i) hg hm ⟨t, rfl⟩ hd) (k.now r.ok (.int i) q)
theorem cd_isi {d c : D} {t u : Value} {k : Bool} (ht : TyD X.K d t) (hc : ClD c u) (hk : PySem.W.kitOne X.K t u = some k) (q : Q (.bl k)) : CD X (.builtin "isinstance") [.val d, .val c] Q := cd_of call_isi fun vs W H ok ha R cc => by
  obtain ⟨v, w, rfl, h, h'⟩ := two_args ha
  exact ⟨v, w, t, u, k, rfl, hc.v h', ht.x ok h, hk, cc.now ok (.bl k) q⟩
theorem cd_isi2 {d c c' : D} {t u u' : Value} {k : Bool} (ht : TyD X.K d t) (hc : ClD c u) (hc' : ClD c' u') (hk : PySem.W.kitAny X.K t [u, u'] = some k) (q : Q (.bl k)) : CD X (.builtin "isinstance") [.val d, .val (.tup [c, c'])] Q := cd_of call_isiT fun vs W H ok ha R cc => by
  obtain ⟨v, w, rfl, h, h'⟩ := two_args ha
  cases h' with
  | tup hp m =>
    cases m with
    | cons h1 m => cases m with
      | cons h2 m =>
        cases m
        exact ⟨v, _, _, t, [u, u'], k, rfl, ok.ex _ _ hp, .cons (hc.v h1) (.cons (hc'.v h2) .nil), ht.x ok h, hk, cc.now ok (.bl k) q⟩
theorem cd_gcd {i j : Int} (q : Q (.int ((Nat.gcd i.natAbs j.natAbs : Nat) : Int))) : CD X (.builtin "math.gcd") [.val (.int i), .val (.int j)] Q := cd_of cr_gcd fun vs W H ok ha R c => by
  obtain ⟨v, u, rfl, h, h'⟩ := two_args ha
  cases h; cases h'
  exact ⟨i, j, rfl, c.now ok (.int _) q⟩
/-- a built-in function that the module imported -/
theorem ed_callM {id : String} (hm : X.mg x = some (.builtin id)) (h : AD X B S (e :: es) fun as => CD X (.builtin id) as Q) (hg : Gl X x := by rfl) (hdb : (x == ("__debug__" : Str)) = false := by decide)
    (he : starEach (e :: es) X.env = (false, eval e X.env) :: starEach es X.env := by rfl) (hpl : (backTo pos (starEach es X.env)).any (·.1) = false := by rfl) : ED X B S (.Call (.Name x p) (e :: es) [] pos) Q := fun σ W H r R c => by
  refine PE.w (pe_callBfun wc_call hg hm wa_pa hdb he hpl) ?_
  refine h σ W H r _ fun as vs W1 H1 s1 ok1 n1 q1 => ?_
  exact q1 vs W1 H1 ok1 n1 R (c.step s1 ok1)

/-! ### numbers of any size, texts -/
def CDivG (i j : Int) : Prop := j ≠ 0 ∧ j.natAbs.log2 < 9000
theorem op_fdivG : OpR X (binaryOp .FloorDiv) (rI CDivG fun i j => .int (i.fdiv j)) := opI fun i j _ _ _ _ _ hc q => PyProof.Rows.floordiv_int hc.1 q (.inl (PyProof.noPylong_of_log2 hc.2))
theorem od_fdiv {i j : Int} (hc : CDivG i j) (q : Q (.int (i.fdiv j))) : OD X (binaryOp .FloorDiv) (.int i) (.int j) Q := od_I op_fdivG hc (fun _ _ => .int _) q
theorem od_mul {i j : Int} (hc : CMulX i j) (q : Q (.int (i * j))) : OD X (binaryOp .Mult) (.int i) (.int j) Q := od_I op_mulX hc (fun _ _ => .int _) q
theorem od_mulS {i j : Int} (hc : (-(2 ^ 64) < i ∧ i < 2 ^ 64) ∨ (-(2 ^ 64) < j ∧ j < 2 ^ 64)) (q : Q (.int (i * j))) : OD X (binaryOp .Mult) (.int i) (.int j) Q := od_I op_mul hc (fun _ _ => .int _) q
theorem od_mod {i j : Int} (hc : 0 < j) (q : Q (.int (i % j))) : OD X (binaryOp .Mod) (.int i) (.int j) Q := od_I op_mod hc (fun _ _ => .int _) q
theorem od_pow {i j : Int} (hc : CPow i j) (q : Q (.int (i ^ j.toNat))) : OD X (binaryOp .Pow) (.int i) (.int j) Q := od_I op_pow hc (fun _ _ => .int _) q
theorem od_adds {s t : Str} (hl : s.length + t.length ≤ sizeLine) (q : Q (.str (s ++ t))) : OD X (binaryOp .Add) (.str s) (.str t) Q := by
  refine od_of op_add_str fun v u W H ok h1 h2 R c => ?_
  cases h1; cases h2
  exact ⟨s, t, rfl, rfl, hl, c.now ok (.str _) q⟩
/-- == and != of ints, of texts, of bools, of None -/
def scD : D → D → Bool
  | .int _, .int _ => true
  | .str _, .str _ => true
  | .bl _, .bl _ => true
  | _, _ => false
theorem od_eqi {i j : Int} (q : Q (.bl (decide (i = j)))) : OD X (compareOp .Eq) (.int i) (.int j) Q := by
  refine od_of op_eq fun v u W H ok h1 h2 R c => ?_
  cases h1; cases h2
  refine ⟨rfl, c.now ok (.bl _) ?_⟩
  have e : decide (V.int i = V.int j) = decide (i = j) := by by_cases z : i = j <;> simp [z]
  rw [e]
  exact q
theorem od_nei {i j : Int} (q : Q (.bl (!decide (i = j)))) : OD X (compareOp .NotEq) (.int i) (.int j) Q := by
  refine od_of op_ne fun v u W H ok h1 h2 R c => ?_
  cases h1; cases h2
  refine ⟨rfl, c.now ok (.bl _) ?_⟩
  have e : decide (V.int i = V.int j) = decide (i = j) := by by_cases z : i = j <;> simp [z]
  rw [e]
  exact q
theorem od_eqs {i j : Str} (q : Q (.bl (decide (i = j)))) : OD X (compareOp .Eq) (.str i) (.str j) Q := by
  refine od_of op_eq fun v u W H ok h1 h2 R c => ?_
  cases h1; cases h2
  refine ⟨rfl, c.now ok (.bl _) ?_⟩
  have e : decide (V.str i = V.str j) = decide (i = j) := by by_cases z : i = j <;> simp [z]
  rw [e]
  exact q
theorem od_nes {i j : Str} (q : Q (.bl (!decide (i = j)))) : OD X (compareOp .NotEq) (.str i) (.str j) Q := by
  refine od_of op_ne fun v u W H ok h1 h2 R c => ?_
  cases h1; cases h2
  refine ⟨rfl, c.now ok (.bl _) ?_⟩
  have e : decide (V.str i = V.str j) = decide (i = j) := by by_cases z : i = j <;> simp [z]
  rw [e]
  exact q
theorem od_isN {x : D} (q : Q (.bl (match x with | .non => true | _ => false))) : OD X (compareOp .Is) x .non Q := by
  refine od_of op_isN fun v u W H ok h1 h2 R c => ?_
  cases h2
  refine ⟨rfl, c.now ok (.bl _) ?_⟩
  cases h1 <;> exact q
theorem od_notN {x : D} (q : Q (.bl (match x with | .non => false | _ => true))) : OD X (compareOp .IsNot) x .non Q := by
  refine od_of op_notN fun v u W H ok h1 h2 R c => ?_
  cases h2
  refine ⟨rfl, c.now ok (.bl _) ?_⟩
  cases h1 <;> exact q
/-- lists joined, repeated -/
theorem od_catL {l m : List D} (hl : l.length + m.length ≤ 100000) (q : Q (.lst (l ++ m))) : OD X (binaryOp .Add) (.lst l) (.lst m) Q := by
  refine od_of op_cat fun v u W H ok h1 h2 R c => ?_
  cases h1 with
  | @lst _ _ xs a1 d1 => cases h2 with
    | @lst _ _ ys a2 d2 =>
      refine ⟨_, _, _, _, rfl, rfl, ok.ex _ _ a1, ok.ex _ _ a2, Nat.le_trans (by rw [← d1.length, ← d2.length]; exact hl) (by decide), fun p hp => ?_⟩
      have st := Stp.new (o := .lst (xs ++ ys)) ok hp
      exact c (.lst (l ++ m)) (.ref p) _ _ st (ok.new hp) (.lst (show upd W.I p _ p = _ from upd_same) ((d1.append d2).mono st.I)) q
end
end DL

set_option Elab.async false
set_option linter.all false
set_option maxRecDepth 100000
set_option maxHeartbeats 4000000
namespace DL
open PySem L2

/-! ### == and != of plain data -/
mutual
inductive PyD : D → PyData → Prop
  | non : PyD .non .none
  | bl (b) : PyD (.bl b) (.bool b)
  | int (i) : PyD (.int i) (.int i)
  | str (s) : PyD (.str s) (.str s)
  | lst {l ds} : PyDs l ds → PyD (.lst l) (.list ds)
  | tup {l ds} : PyDs l ds → PyD (.tup l) (.tuple ds)
inductive PyDs : List D → List PyData → Prop
  | nil : PyDs [] []
  | cons {d l p ps} : PyD d p → PyDs l ps → PyDs (d :: l) (p :: ps)
end
section
variable {K : PySem.W.Frag} {g : List Code} {W : Wd} {H : Hp}
mutual
theorem PyD.dp (ok : Ok g W H) : ∀ {d : D} {p : PyData} {v : V}, PyD d p → Dn K W.I d v → Dp K H v p
  | _, _, _, .non, .non => .non
  | _, _, _, .bl b, .bl _ => .bl b
  | _, _, _, .int i, .int _ => .int i
  | _, _, _, .str s, .str _ => .str s
  | _, _, _, .lst h, .lst a n => .lst (SqL.of (ok.ex _ _ a)) (PyDs.dp ok h n)
  | _, _, _, .tup h, .tup a n => .tup (SqT.of (ok.ex _ _ a)) (PyDs.dp ok h n)
theorem PyDs.dp (ok : Ok g W H) : ∀ {l : List D} {ps : List PyData} {xs : List V}, PyDs l ps → Dns K W.I l xs → DpAll K H xs ps
  | _, _, _, .nil, .nil => .nil
  | _, _, _, .cons h r, .cons n m => .cons (PyD.dp ok h n) (PyDs.dp ok r m)
end
end
section
variable {X : Cx} {B : Hp} {S : En} {pos p apos : Pos} {Q : D → Prop} {x y : D} {d e : PyData}
theorem od_eqd (hu : X.A.units + 64 < cLine) (h1 : PyD x d) (h2 : PyD y e) (s1 : SeqAt.shaped d = true) (s2 : SeqAt.shaped e = true) (q : Q (.bl (PyData.eqv d e))) : OD X (compareOp .Eq) x y Q :=
  od_of (op_eqD hu) fun v u W H ok n1 n2 R c => ⟨d, e, h1.dp ok n1, h2.dp ok n2, s1, s2, c.now ok (.bl _) q⟩
theorem od_ned (hu : X.A.units + 64 < cLine) (h1 : PyD x d) (h2 : PyD y e) (s1 : SeqAt.shaped d = true) (s2 : SeqAt.shaped e = true) (q : Q (.bl (!PyData.eqv d e))) : OD X (compareOp .NotEq) x y Q :=
  od_of (op_neD hu) fun v u W H ok n1 n2 R c => ⟨d, e, h1.dp ok n1, h2.dp ok n2, s1, s2, c.now ok (.bl _) q⟩
end

/-! ### operators of own classes -/
theorem back {X : Cx} {pins : List (Addr × Obj)} {σ : L2.St} {R : VK} {v : Value} {s : Shared} (h : EP X pins σ R v s) : PySem.W.CmpBack (EP X pins σ R) v s := by
  obtain ⟨z, H, I, r, q⟩ := id h
  cases z with
  | non => cases (show v = Value.none from r); exact h
  | bl b => cases (show v = Value.bool b from r); exact h
  | int i => obtain ⟨t, e⟩ := (show ∃ t, v = Value.int i t from r); cases e; exact h
  | str x => obtain ⟨t, e⟩ := (show ∃ t, v = Value.str x t from r); cases e; exact h
  | byt b => obtain ⟨t, e⟩ := (show ∃ t, v = Value.bytes b t from r); cases e; exact h
  | flt b => obtain ⟨t, e⟩ := (show ∃ t, v = Value.float b t from r); cases e; exact h
  | ref a => cases (show v = Value.ref a from r); exact h
  | ty n => cases (show v = Value.type n from r); exact h
/-- a class whose instances stand beside ints -/
structure Num (K : PySem.W.Frag) (C : Addr) : Prop where
  cl : Cls K C
  sf : PySem.W.selfFirst K C = true
  nf : PySem.W.notFirst K C (.ref C) = true
  ni : PySem.W.notFirst K C (.type "int") = true
  si : PySem.W.subIn K (.type "int") (.ref C) = some false
  is : PySem.W.subIn K (.ref C) (.type "int") = some false
  ob : PySem.W.subIn K (.ref C) (.type "object") = some true
/-- a special method of the class at C -/
structure Sm (P : Program) (w : World) (K : PySem.W.Frag) (mg : Str → Option Value) (base : Heap) (C : Addr) (m : Str) (k : Nat) (sp : SpD) : Prop where
  ex : ∃ f fd ps, GnOk P w K mg base k f fd ps (lift K sp) ∧ PySem.W.findIn K (.ref C) m = some (some (.ref f)) ∧ PySem.W.isFn K (.ref f) = true ∧ Binds K fd ps []
section
variable {X : Cx} {B : Hp} {S : En} {pos p apos : Pos} {Q : D → Prop} {C : Addr} {k k' : Nat} {sp sp' : SpD} {fs gs : List (Str × D)}
theorem inst_at {pins : List (Addr × Obj)} {σ : L2.St} {H : Hp} {s : Shared} {a dx : Addr} {vs : List (Str × V)} (I : Inv X pins σ H s) (ha : H a = some (.ins C dx vs)) : ∃ ox od, PySem.W.InstAt s.heap a ox C (some od) := by
  obtain ⟨mA, O, _⟩ := ins_get I.hok ha
  obtain ⟨od, J, _⟩ := O.look
  exact ⟨_, od, J⟩
theorem args2 {K : PySem.W.Frag} {W : Wd} {d d' : D} {v u : V} (h : Dn K W.I d v) (h' : Dn K W.I d' u) : Args K W [.val d, .val d'] [v, u] := .cons h (.cons h' .nil)
theorem vals2 {v u : V} {v' u' : Value} (h : RelV v v') (h' : RelV u u') : Vals [v, u] [v', u'] := .cons h (.cons h' .nil)
/-- the def of a special method runs -/
theorem run_sm {m : Str} (F : Sm X.prog X.w X.K X.mg X.base C m k sp) (hr : Room k X.A) (hG : X.A.guards = some (gOf X)) {as : List Sl} {W : Wd} {H : Hp} (ok : Ok (gOf X) W H) {vs : List V} {us : List Value} (n : Args X.K W as vs) (q : sp as Q) {R : VK} (c : Cont X.K (gOf X) W H Q R)
    {pins : List (Addr × Obj)} {σ : L2.St} {s : Shared} (I : Inv X pins σ H s) (r : Vals vs us) : ∃ f, PySem.W.findIn X.K (.ref C) m = some (some (.ref f)) ∧ PySem.W.isFn X.K (.ref f) = true ∧ wpAny (model X.prog X.w) X.A (call (.ref f) us) (EP X pins σ R) X.xe s := by
  obtain ⟨f, fd, ps, F, hf, hi, hb⟩ := F.ex
  refine ⟨f, hf, hi, call_gn F hr hG hb .nil I r ?_⟩
  rw [List.append_nil]
  exact ⟨as, W, Q, ok, n, q, c⟩
/-- both of the class -/
theorem od_oo {op : Operator} (N : Num X.K C) (F : Sm X.prog X.w X.K X.mg X.base C (PySem.dunder op.info.2) k sp) (hr : Room k X.A) (hG : X.A.guards = some (gOf X)) (q : sp [.val (.obj C fs), .val (.obj C gs)] Q) : OD X (binaryOp op) (.obj C fs) (.obj C gs) Q := fun v u W H ok h1 h2 R c pins s σ v' u' I r1 r2 => by
  have aa := args2 h1 h2
  have rr := vals2 r1 r2
  cases id h1 with
  | obj a1 _ => cases id h2 with
    | obj a2 _ =>
      cases (show v' = Value.ref _ from r1)
      cases (show u' = Value.ref _ from r2)
      obtain ⟨ox, od, J⟩ := inst_at I (ok.ex _ _ a1)
      obtain ⟨oy, oe, J2⟩ := inst_at I (ok.ex _ _ a2)
      obtain ⟨f, hf, hi, hw⟩ := run_sm F hr hG ok aa q c I rr
      obtain ⟨mm, hF⟩ := I.fr
      exact PySem.W.binop_K hF I.ok.mod.kin J J2.type N.sf hf hi (wpAny_mono hw (fun _ _ h => back h) fun _ _ h => h)
/-- an int on the right -/
theorem od_oi {op : Operator} {i : Int} (N : Num X.K C) (F : Sm X.prog X.w X.K X.mg X.base C (PySem.dunder op.info.2) k sp) (G : Sm X.prog X.w X.K X.mg X.base C (dunderR op.info.2) k' sp') (hr : Room k X.A) (hG : X.A.guards = some (gOf X)) (q : sp [.val (.obj C fs), .val (.int i)] Q)
    (hint : fillsNumberSlot (.type "int") op.info.2 = pure true) (hl : ∃ r, PySem.W.findIn X.K (.type "int") (dunderR op.info.2) = some r) : OD X (binaryOp op) (.obj C fs) (.int i) Q := fun v u W H ok h1 h2 R c pins s σ v' u' I r1 r2 => by
  have aa := args2 h1 h2
  have rr := vals2 r1 r2
  cases id h1 with
  | obj a1 _ =>
    cases id h2
    cases (show v' = Value.ref _ from r1)
    obtain ⟨t, rfl⟩ := (show ∃ t, u' = Value.int i t from r2)
    obtain ⟨ox, od, J⟩ := inst_at I (ok.ex _ _ a1)
    obtain ⟨f, hf, hi, hw⟩ := run_sm F hr hG ok aa q c I rr
    obtain ⟨g, gd, ps, _, hg, _⟩ := G.ex
    exact OwnOps.own_int I.kIn J N.sf hf hg hi N.si hint hl (wpAny_mono hw (fun _ _ h => back h) fun _ _ h => h)
end
end DL

set_option Elab.async false
set_option linter.all false
set_option maxRecDepth 100000
set_option maxHeartbeats 4000000
namespace DL
open PySem L2
section
variable {X : Cx} {B : Hp} {S : En} {pos p apos : Pos} {Q : D → Prop} {C : Addr} {k k' : Nat} {sp sp' : SpD} {fs gs : List (Str × D)} {e a : Expr} {es : List Expr} {x m : Str}
end
end DL

set_option Elab.async false
set_option linter.all false
set_option maxRecDepth 100000
set_option maxHeartbeats 2000000
/-! calls by keywords, class methods, calls of a class that a local name holds, the guards known -/
namespace DL
open PySem PySem.Spec PyProof.Rows L2 ClX
section
variable {X : Cx} {k n : Nat} {f C p0 : Addr} {fd : FuncData} {ps ks : List Str} {sp : SpG} {x m : Str} {p pos apos : Pos} {e o : Expr} {es : List Expr} {kws : List Keyword} {g : List Code} {gf : List Value → List Value → List Value} {gV : List V → List V → List V} {mc : Value}
/-- the weakest reading of keywords -/
def WK (X : Cx) (kws : List Keyword) : TA := fun σ H Q => ∀ pos pins s, Inv X pins σ H s → wpAny (model X.prog X.w) X.A (evalAll ((backToKw pos (keywordEach kws X.env)).map (·.2))) (AP X pins σ Q) X.xe s
theorem wk_pk : PK X kws (WK X kws) := ⟨fun pos pins s _ _ _ I h => h pos pins s I⟩
theorem PK.w {t : TA} (h : PK X kws t) {σ : L2.St} {H : Hp} {Q : List V → Hp → Prop} (q : t σ H Q) : WK X kws σ H Q := fun pos pins s I => h.run pos pins s σ H Q I q
/-- an instance, made by positional values and keywords -/
theorem run_gmakeK {pins : List (Addr × Obj)} {σ : L2.St} {H : Hp} {s : Shared} {Q : VK} {us ws : List Value} {vs zs : List V} {E : Value → Shared → Prop} (M : Mk X.K C f) (F : GnOk X.prog X.w X.K X.mg X.base k f fd ps sp) (hr : Room (k + 1) X.A) (hG : X.A.guards = some g) (hb : KBn X.K fd ps (n + 1) ks gf gV)
    (I : Inv X pins σ H s) (r : Vals vs us) (rz : Vals zs ws) (l1 : vs.length = n) (l2 : zs.length = ks.length) (h : ∀ x dx, H x = none → H dx = none → dx ≠ x → sp g (gV (.ref x :: vs) zs) (upd (upd H dx (.own x)) x (.ins C dx [])) (fun v H2 => v = .non ∧ Q (.ref x) H2)) : wpAny (model X.prog X.w) X.A (call (.ref C) us (ks.zip ws)) (EP X pins σ Q) E s := by
  have hq := h (s.heap.objs.size + 1) s.heap.objs.size (I.hok.fresh (Nat.le_succ _)) (I.hok.fresh (Nat.le_refl _)) (Nat.ne_of_lt (Nat.lt_succ_self _))
  have I2 := Inv.made (C := C) I
  have n1 : (Value.ref (s.heap.objs.size + 1) :: us).length = n + 1 := by rw [List.length_cons, ← r.length, l1]
  have n2 : ws.length = ks.length := by rw [← rz.length, l2]
  have hg2 : (X.A.under (.builtin "type.__call__" ⟨.ref C :: us, ks.zip ws⟩)).guards = some g := by
    have e : (Code.builtin "type.__call__" ⟨.ref C :: us, ks.zip ws⟩).guards = [] := by
      unfold Code.guards Code.isGuard
      have h0 : guardIds.contains "type.__call__" = false := by decide +kernel
      rw [if_neg (by show ¬ (guardIds.contains "type.__call__" = true); rw [h0]; exact Bool.false_ne_true)]
    show pushGuards (Code.builtin "type.__call__" ⟨.ref C :: us, ks.zip ws⟩).guards X.A.guards = some g
    rw [e]
    exact hG
  refine wpAny_call (make_map (f := f) I.kIn M.makes M.init (beq_iff_eq.mp M.fn) ?_)
  refine run_gb F (hr.make C us (ks.zip ws)) hg2 (I2.env0.make C us (ks.zip ws)) (hb.to _ (Value.ref (s.heap.objs.size + 1) :: us) ws I2.kIn n1 n2) I2 (hb.rel (vs := V.ref (s.heap.objs.size + 1) :: vs) (us := Value.ref (s.heap.objs.size + 1) :: us) (.cons rfl r) rz) hq fun v s' hv => ?_
  obtain ⟨z, H', I3, rv, ez, q3⟩ := hv
  subst ez
  exact ⟨rv, ⟨V.ref (s.heap.objs.size + 1), H', I3, rfl, q3⟩⟩
/-- C(k = v, ..) -/
theorem we_makeK0 {σ : L2.St} {H : Hp} {Q : VK} (M : Mk X.K C f) (F : GnOk X.prog X.w X.K X.mg X.base k f fd ps sp) (hr : Room (k + 1) X.A) (hG : X.A.guards = some g) (hg : Gl X x) (hm : X.mg x = some (.ref C)) (hb : KBn X.K fd ps 1 ks gf gV)
    (h : WK X kws σ H fun zs H1 => zs.length = ks.length ∧ ∀ y dy, H1 y = none → H1 dy = none → dy ≠ y → sp g (gV [.ref y] zs) (upd (upd H1 dy (.own y)) y (.ins C dy [])) (fun v H2 => v = .non ∧ Q (.ref y) H2))
    (hall : (backToKw pos (keywordEach kws X.env)).all (·.1.isSome) = true) (hks : (backToKw pos (keywordEach kws X.env)).filterMap (·.1) = ks) (hdb : (x == ("__debug__" : Str)) = false)
    (hpl : ((backTo pos (starEach [] X.env)).any (·.1) || (backToKw pos (keywordEach kws X.env)).any (·.1.isNone)) = false) : WE X (.Call (.Name x p) [] kws pos) σ H Q := fun pins s I => by
  refine wpAny_Call_Name_kw (ld_glob I hg hm ?_ hdb)
  refine PySem.W.callWith_KW0 (h₀ := X.base) I.ok.mod.kin M.kp hall (thn (h pos pins s I) fun ws s2 ⟨zs, H2, I2, rz, l2, q2⟩ => ⟨I2.kIn, ?_⟩) hpl
  rw [hks]
  exact run_gmakeK (us := []) (vs := []) (n := 0) M F hr hG hb I2 .nil rz rfl l2 q2
end
end DL

set_option Elab.async false
set_option linter.all false
set_option maxRecDepth 100000
set_option maxHeartbeats 4000000
namespace DL
open PySem L2

/-! ### keywords -/
def KD (X : Cx) (B : Hp) (S : En) (kws : List Keyword) (Q : List Sl → Prop) : Prop := ∀ σ W H, Rep X.K (gOf X) B S σ W H → ∀ R, ContA X.K (gOf X) W H Q R → WK X kws σ H R
/-- C's __init__ by keywords ks alone: mid brings their values, and the defaults, into the parameters' order -/
structure KlK (P : Program) (w : World) (K : PySem.W.Frag) (mg : Str → Option Value) (base : Heap) (x : Str) (C : Addr) (k : Nat) (ks : List Str) (midD : List Sl → List Sl) (sp : SpI) : Prop where
  ex : ∃ f fd ps gf, ∃ mid : List V → List V, GnOk P w K mg base k f fd ps (liftI K C sp) ∧ Mk K C f ∧ mg x = some (.ref C) ∧ KBn K fd ps 1 ks gf (fun vs zs => vs ++ mid zs) ∧ ∀ W bs zs, Args K W bs zs → Args K W (midD bs) (mid zs)
structure MtK (P : Program) (w : World) (K : PySem.W.Frag) (mg : Str → Option Value) (base : Heap) (C : Addr) (m : Str) (k : Nat) (ks : List Str) (midD : List Sl → List Sl) (sp : SpD) : Prop where
  ex : ∃ f fd ps gf, ∃ mid : List V → List V, GnOk P w K mg base k f fd ps (lift K sp) ∧ Meth K C m f ∧ KBn K fd ps 1 ks gf (fun vs zs => vs ++ mid zs) ∧ ∀ W bs zs, Args K W bs zs → Args K W (midD bs) (mid zs)
/-- a class method -/
structure Cm (P : Program) (w : World) (K : PySem.W.Frag) (mg : Str → Option Value) (base : Heap) (C : Addr) (m : Str) (k : Nat) (sp : SpD) : Prop where
  ex : ∃ f fd ps p0 mc, GnOk P w K mg base k f fd ps (lift K sp) ∧ ClX.CRead K C mc ∧ ClX.CMet K C mc m p0 f ∧ Binds K fd ps []
structure CmK (P : Program) (w : World) (K : PySem.W.Frag) (mg : Str → Option Value) (base : Heap) (C : Addr) (m : Str) (k : Nat) (ks : List Str) (midD : List Sl → List Sl) (sp : SpD) : Prop where
  ex : ∃ f fd ps p0 mc gf, ∃ mid : List V → List V, GnOk P w K mg base k f fd ps (lift K sp) ∧ ClX.CRead K C mc ∧ ClX.CMet K C mc m p0 f ∧ KBn K fd ps 1 ks gf (fun vs zs => vs ++ mid zs) ∧ ∀ W bs zs, Args K W bs zs → Args K W (midD bs) (mid zs)
section
variable {X : Cx} {B : Hp} {S : En} {pos p apos kpos : Pos} {Q : D → Prop} {e o : Expr} {es : List Expr} {kws : List Keyword} {x m : Str} {nm : Option Str} {k : Nat} {C : Addr} {ks : List Str} {midD : List Sl → List Sl}
theorem kd_nil {Q : List Sl → Prop} (q : Q []) : KD X B S [] Q := fun σ W H r R c => PK.w pk_nil (c [] [] W H Stp.refl r.ok .nil q)
theorem kd_cons {Q : List Sl → Prop} (h : ED X B S e fun d => KD X B S kws fun as => Q (.val d :: as)) : KD X B S (⟨nm, e, kpos⟩ :: kws) Q := fun σ W H r R c => by
  refine PK.w (pk_cons we_pe wk_pk) ?_
  refine h σ W H r _ fun d v W1 H1 s1 ok1 n1 q1 => ?_
  refine q1 σ W1 H1 (r.step s1 ok1) _ fun as vs W2 H2 s2 ok2 n2 q2 => ?_
  exact c (.val d :: as) (v :: vs) W2 H2 (s1.trans ok1 s2) ok2 (.cons (show Arg X.K W2 (.val d) v from n1.mono s2.I) n2) q2
theorem ed_makeK0 {sp : SpI} (F : KlK X.prog X.w X.K X.mg X.base x C k ks midD sp) (hr : Room (k + 1) X.A) (hG : X.A.guards = some (gOf X)) (h : KD X B S kws fun bs => bs.length = ks.length ∧ sp (midD bs) fun fs => Q (.obj C fs)) (hg : Gl X x := by rfl)
    (hall : (backToKw pos (keywordEach kws X.env)).all (·.1.isSome) = true := by rfl) (hks : (backToKw pos (keywordEach kws X.env)).filterMap (·.1) = ks := by rfl) (hdb : (x == ("__debug__" : Str)) = false := by decide)
    (hpl : ((backTo pos (starEach [] X.env)).any (·.1) || (backToKw pos (keywordEach kws X.env)).any (·.1.isNone)) = false := by rfl) : ED X B S (.Call (.Name x p) [] kws pos) Q := fun σ W H r R c => by
  obtain ⟨f, fd, ps, gf, mid, F, M, hm, hb, hc⟩ := F.ex
  refine we_makeK0 M F hr hG hg hm hb ?_ hall hks hdb hpl
  refine h σ W H r _ fun bs zs W1 H1 s1 ok1 n1 q1 => ?_
  obtain ⟨l, q1⟩ := q1
  refine ⟨by rw [← l]; exact (Paired.length n1).symm, fun y dy hy hdy ne => ?_⟩
  exact cont_make (c.step s1 ok1) ok1 (hc _ _ _ n1) q1 y dy hy hdy ne
end

/-! ### texts of data -/
open Classical in
/-- the heap cut down to what never changes -/
noncomputable def cut (I : Hp) (h : Heap) : Heap := { h with objs := h.objs.mapIdx fun i o => if I i = none then { o with data := .freed } else o }
theorem cut_get {I : Hp} {h : Heap} {b : Addr} (n : I b ≠ none) : (cut I h).get? b = h.get? b := by
  unfold cut Heap.get?
  simp only [Array.getElem?_mapIdx]
  cases h.objs[b]? with
  | none => rfl
  | some o => simp only [Option.map_some, if_neg n]
theorem cut_in {I : Hp} {h : Heap} {b : Addr} {o : Obj} (e : (cut I h).get? b = some o) : h.get? b = some o ∧ I b ≠ none := by
  by_cases n : I b = none
  · exfalso
    unfold cut Heap.get? at e
    simp only [Array.getElem?_mapIdx] at e
    cases q : h.objs[b]? with
    | none => rw [q] at e; cases e
    | some o => rw [q] at e; simp only [Option.map_some, if_pos n] at e; cases e
  · exact ⟨by rw [← cut_get n]; exact e, n⟩
section
variable {X : Cx} {pins : List (Addr × Obj)} {σ : L2.St} {W : Wd} {H : Hp} {s : Shared} {g : List Code}
mutual
theorem PyD.reads (I : Inv X pins σ H s) (ok : Ok g W H) : ∀ {d : D} {p : PyData} {v : V} {u : Value}, PyD d p → Dn X.K W.I d v → RelV v u → ∃ as, Reads (cut W.I s.heap) u p as
  | _, _, _, _, .non, .non, r => by cases r; exact ⟨_, .none⟩
  | _, _, _, _, .bl b, .bl _, r => by cases r; exact ⟨_, .bool b⟩
  | _, _, _, _, .int i, .int _, r => by obtain ⟨t, rfl⟩ := r; exact ⟨_, .int i t⟩
  | _, _, _, _, .str x, .str _, r => by obtain ⟨t, rfl⟩ := r; exact ⟨_, .str x t⟩
  | _, _, _, _, .lst h, .lst (a := a) e m, r => by
    cases r
    obtain ⟨its, rv, ⟨o, n, ho, hc, _, hd⟩, _⟩ := I.list (SqL.of (ok.ex _ _ e))
    obtain ⟨as, q⟩ := PyDs.reads I ok h m rv
    exact ⟨_, Reads.list (by rw [cut_get (by rw [e]; exact fun z => by cases z)]; exact ho) hc hd q⟩
  | _, _, _, _, .tup h, .tup (a := a) e m, r => by
    cases r
    obtain ⟨its, rv, ⟨o, ho, hc, n, hd⟩, _⟩ := I.tuple (SqT.of (ok.ex _ _ e))
    obtain ⟨as, q⟩ := PyDs.reads I ok h m rv
    exact ⟨_, Reads.tuple (by rw [cut_get (by rw [e]; exact fun z => by cases z)]; exact ho) hc hd q⟩
theorem PyDs.reads (I : Inv X pins σ H s) (ok : Ok g W H) : ∀ {l : List D} {ps : List PyData} {xs : List V} {us : List Value}, PyDs l ps → Dns X.K W.I l xs → Vals xs us → ∃ as, ReadsAll (cut W.I s.heap) us ps as
  | _, _, _, _, .nil, .nil, r => by cases r; exact ⟨_, .nil⟩
  | _, _, _, _, .cons h t, .cons n m, r => by
    cases r with
    | cons r1 r2 =>
      obtain ⟨as, q1⟩ := PyD.reads I ok h n r1
      obtain ⟨bs, q2⟩ := PyDs.reads I ok t m r2
      exact ⟨_, .cons q1 q2⟩
end
mutual
theorem PyD.nodict : ∀ {d : D} {p : PyData}, PyD d p → p.hasDict = false
  | _, _, .non => rfl
  | _, _, .bl _ => rfl
  | _, _, .int _ => rfl
  | _, _, .str _ => rfl
  | _, _, .lst h => by simp only [PyData.hasDict]; exact PyDs.nodict h
  | _, _, .tup h => by simp only [PyData.hasDict]; exact PyDs.nodict h
theorem PyDs.nodict : ∀ {l : List D} {ps : List PyData}, PyDs l ps → PyData.hasDictAll ps = false
  | _, _, .nil => rfl
  | _, _, .cons h r => by simp only [PyData.hasDictAll, PyD.nodict h, PyDs.nodict r, Bool.or_self]
end
/-- what stands in the cut heap is no guard -/
theorem clears (ok : Ok g W H) {n : Nat} {bs : List Addr} (h : ReadAtMost (cut W.I s.heap) n bs) : ∀ b ∈ bs, Clear g b := fun b hb => by
  obtain ⟨d, as, r, _⟩ := h b hb
  refine clear_of fun z => ?_
  have n0 := (ok.gd b z).1
  cases r with
  | list e => exact (cut_in e).2 n0
  | tuple e => exact (cut_in e).2 n0
  | dict e => exact (cut_in e).2 n0
/-- repr of plain data -/
theorem repr_pl {A : Around} {E : Value → Shared → Prop} {Q : Value → Shared → Prop} {d : D} {p : PyData} {v : V} {u : Value} (I : Inv X pins σ H s) (ok : Ok g W H) (hG : A.guards = some g) (hu : A.units + (p.depth + 3) < cLine) (hp : PyD d p) (n : Dn X.K W.I d v) (r : RelV v u) (hs : p.showable = true) (hz : p.shown.length ≤ sizeLine)
    (q : ∀ h' t tk, (∀ b o, s.heap.get? b = some o → h'.get? b = some o) → Q (.str p.shown t) { s with heap := h', toks := tk }) : wpAny (model X.prog X.w) A (call (.builtin "repr") [u]) Q E s := by
  have kp : ∀ b o, (cut W.I s.heap).get? b = some o → s.heap.get? b = some o := fun b o e => (cut_in e).1
  obtain ⟨as, rd⟩ := hp.reads I ok n r
  have nd := hp.nodict
  cases rd with
  | none => exact PySem.P.repr_of_none (by simpa only [PyData.shown] using q s.heap _ _ fun _ _ e => e)
  | bool b => exact PySem.P.repr_of_bool (by simpa only [PyData.shown] using q s.heap _ _ fun _ _ e => e)
  | int i t => exact PySem.P.repr_of_int (by simpa [PyData.showable] using hs) (by simpa only [PyData.shown] using q s.heap _ _ fun _ _ e => e)
  | str x t => exact PySem.P.repr_of_str (by simpa only [PyData.shown] using q s.heap _ _ fun _ _ e => e) (by simpa only [PyData.shown] using hz)
  | @list a o vs n xs as h1 h2 h3 h4 =>
    simp only [PyData.shown] at hz q
    simp only [PyData.depth] at hu
    obtain ⟨bs, hb, hk⟩ := ReprAllK.of_readsAll (prog := X.prog) (w := X.w) h4 (by simpa [PyData.showable] using hs) (fun z => absurd z (by rw [show PyData.hasDictAll xs = false by simpa [PyData.hasDict] using nd]; exact Bool.false_ne_true)) (fun t ht => Nat.le_trans (listText_mem_le ht) hz)
    have rl : Reads (cut W.I s.heap) (.ref a) (.list xs) (a :: as) := .list h1 h2 h3 h4
    have hna : a ∉ bs := not_mem_of_deeper rl (by simp only [PyData.depth]; omega) hb
    have ca := clears ok (ReadAtMost.cons rl (by simp only [PyData.depth]; omega) hb)
    refine call_repr_slot (by omega) ⟨o, kp _ _ h1, h2⟩ F.slot_list_repr.toG ?_
    obtain ⟨l⟩ := vs
    cases l with
    | nil =>
      have h4' : ReadsAll (cut W.I s.heap) [] xs as := h4
      cases h4'
      simp only [PyData.shownAll, listText_nil] at q
      exact call_list_repr_empty ⟨o, kp _ _ h1, h2⟩ (kp _ _ h1) h3 ⟨_, _, rfl, q s.heap _ _ fun _ _ e => e⟩
    | cons y l =>
      exact call_list_reprK (A := A.in1) h1 h2 h3 hna (by simpa using hk.length_eq) (fun i y e => hk.item i y (by simpa using e)) hG ca (by show A.units + 1 + _ < cLine; omega) kp (fun h' u tk hk => ⟨_, _, rfl, q h' u tk hk⟩) hz
  | @tuple a o vs n xs as h1 h2 h3 h4 =>
    simp only [PyData.shown] at hz q
    simp only [PyData.depth] at hu
    obtain ⟨bs, hb, hk⟩ := ReprAllK.of_readsAll (prog := X.prog) (w := X.w) h4 (by simpa [PyData.showable] using hs) (fun z => absurd z (by rw [show PyData.hasDictAll xs = false by simpa [PyData.hasDict] using nd]; exact Bool.false_ne_true)) (fun t ht => Nat.le_trans (tupleText_mem_le ht) hz)
    have rl : Reads (cut W.I s.heap) (.ref a) (.tuple xs) as := .tuple h1 h2 h3 h4
    have hna : a ∉ bs := not_mem_of_deeper rl (by simp only [PyData.depth]; omega) hb
    have ca := clears ok (ReadAtMost.cons rl (by simp only [PyData.depth]; omega) hb)
    refine call_repr_slot (by omega) ⟨o, kp _ _ h1, h2⟩ F.slot_tuple_repr ?_
    exact call_tuple_reprK (A := A.in1) h1 h2 h3 hna hk hG ca (by show A.units + 1 + _ < cLine; omega) kp (fun h' u tk hk => ⟨_, _, rfl, q h' u tk hk⟩) hz
  | dict _ _ _ _ _ => simp [PyData.hasDict] at nd
end
section
variable {X : Cx} {B : Hp} {S : En} {pos p apos : Pos} {Q : D → Prop} {e o : Expr} {es : List Expr} {C : Addr} {k : Nat} {sp : SpD} {fs : List (Str × D)}
theorem cd_repr {d : D} {p : PyData} (hG : X.A.guards = some (gOf X)) (hu : X.A.units + (p.depth + 3) < cLine) (hp : PyD d p) (hs : p.showable = true) (hz : p.shown.length ≤ sizeLine) (q : Q (.str p.shown)) : CD X (.builtin "repr") [.val d] Q := fun vs W H ok ha R c pins s σ us I rv => by
  obtain ⟨v, rfl, n⟩ := one_arg ha
  cases rv with
  | cons r1 r2 =>
    cases r2
    exact repr_pl I ok hG hu hp n r1 hs hz fun h' t tk kp => ⟨.str _, H, I.kept kp, ⟨t, rfl⟩, c.now ok (.str _) q⟩
/-- repr of an object by its own __repr__ -/
theorem cd_reprO (F : Sm X.prog X.w X.K X.mg X.base C "__repr__" k sp) (hr : Room (k + 1) X.A) (hG : X.A.guards = some (gOf X)) (q : sp [.val (.obj C fs)] fun d => ∃ t, d = .str t ∧ Q d) : CD X (.builtin "repr") [.val (.obj C fs)] Q := fun vs W H ok ha R c pins s σ us I rv => by
  obtain ⟨v, rfl, n⟩ := one_arg ha
  obtain ⟨f, fd, ps, F, hf, hi, hb⟩ := F.ex
  cases id n with
  | @obj _ _ p1 _ _ a1 _ =>
    cases rv with
    | cons r1 r2 =>
      cases r2
      have r1' := r1
      cases (show _ = Value.ref p1 from r1)
      obtain ⟨ox, od, J⟩ := inst_at I (ok.ex _ _ a1)
      obtain ⟨mm, hF⟩ := I.fr
      have hsp : lift X.K sp (gOf X) [.ref p1] H (fun z H' => ∃ t, z = .str t ∧ R (.str t) H') := by
        refine ⟨_, W, _, ok, ha, q, fun d v2 W' H' st ok' n' q' => ?_⟩
        obtain ⟨t, rfl, q'⟩ := q'
        cases n'
        exact ⟨t, rfl, c (.str t) _ W' H' st ok' (.str _) q'⟩
      refine PySem.W.repr_K hr.in1.units0 hF I.ok.mod.kin J hf hi ?_
      refine wpAny_call (run_gn (A := X.A.in1) (us := [.ref p1]) (vs := [.ref p1]) F hr.in1 hG I.env0.in1 hb .nil I (.cons r1' .nil) hsp fun u s' hv => ?_)
      obtain ⟨z, H', I3, rz, t, e, q3⟩ := hv
      subst e
      obtain ⟨tk, rfl⟩ := (show ∃ tk, u = Value.str t tk from rz)
      exact ⟨.str t, H', I3, ⟨tk, rfl⟩, q3⟩
end
end DL

set_option Elab.async false
set_option linter.all false
set_option maxRecDepth 100000
set_option maxHeartbeats 4000000
namespace DL
open PySem L2
section
variable {X : Cx} {B : Hp} {S : En} {pos p apos : Pos} {Q : D → Prop} {e o : Expr} {es : List Expr} {C : Addr} {k : Nat} {sp : SpD} {fs : List (Str × D)}
open Builtin Builtin.Str in
/-- f'..' -/
theorem ed_fmt (h : ED X B S e fun d => (∃ y, d = .str y ∧ y.length ≤ sizeLine ∧ Q (.str y)) ∨ ∃ i : Int, d = .int i ∧ i.natAbs.log2 < 1920 ∧ Q (.str (toString i))) : ED X B S (.FormattedValue e (-1) none pos) Q := fun σ W H r R c => by
  refine PE.w (pe_fmt we_pe) ?_
  refine h σ W H r _ fun d v W1 H1 s1 ok1 n1 q1 => ?_
  have c1 := c.step s1 ok1
  rcases q1 with ⟨y, rfl, l, q⟩ | ⟨i, rfl, l, q⟩
  · cases n1
    exact .inl ⟨y, rfl, l, c1.now ok1 (.str _) q⟩
  · cases n1
    exact .inr ⟨i, rfl, l, c1.now ok1 (.str _) q⟩
def JD (X : Cx) (B : Hp) (S : En) : List Expr → Str → (D → Prop) → Prop
  | [], acc, Q => Q (.str acc)
  | e :: es, acc, Q => ED X B S e fun d => ∃ y, d = .str y ∧ (acc ++ y).length ≤ sizeLine ∧ JD X B S es (acc ++ y) Q
theorem pj_all : ∀ es : List Expr, PJ X es (es.map (WE X))
  | [] => .nil
  | _ :: es => .cons we_pe (pj_all es)
theorem jd_run {σ : L2.St} {R : VK} : ∀ (es : List Expr) (acc : Str) (W : Wd) (H : Hp), JD X B S es acc Q → Rep X.K (gOf X) B S σ W H → Cont X.K (gOf X) W H Q R → tJs (es.map (WE X)) acc σ H fun out H1 => R (.str out) H1
  | [], acc, W, H, h, r, c => c.now r.ok (.str acc) h
  | e :: es, acc, W, H, h, r, c => by
    show WE X e σ H _
    refine h σ W H r _ fun d v W1 H1 s1 ok1 n1 q1 => ?_
    obtain ⟨y, rfl, l, q1⟩ := q1
    cases n1
    exact ⟨y, rfl, l, jd_run es (acc ++ y) W1 H1 q1 (r.step s1 ok1) (c.step s1 ok1)⟩
theorem ed_join {e1 e2 : Expr} (h : JD X B S (e1 :: e2 :: es) Str.empty Q) : ED X B S (.JoinedStr (e1 :: e2 :: es) pos) Q := fun σ W H r R c =>
  PE.w (pe_joined (pj_all _)) (jd_run _ _ W H h r c)
/-- tuple(x) of a list, of a tuple -/
theorem cd_tuple {l : List D} (q : Q (.tup l)) : CD X (.type "tuple") [.val (.lst l)] Q := cd_of call_tuple_of fun vs W H ok ha R c => by
  obtain ⟨v, rfl, h⟩ := one_arg ha
  cases h with
  | @lst _ a xs h m =>
    refine ⟨_, _, rfl, .inl ⟨SqL.of (ok.ex _ _ h), fun p hp => ?_⟩⟩
    have st := Stp.new (o := .tup xs) ok hp
    exact c (.tup l) (.ref p) _ _ st (ok.new hp) (.tup (show upd W.I p _ p = _ from upd_same) (m.mono st.I)) q
end

/-! ### a new list handed back; pots -/
abbrev SpN := List Sl → (List D → Prop) → Prop
def liftN (K : PySem.W.Frag) (sp : SpN) : SpG := fun g vs H R => ∃ as W Q, Ok g W H ∧ Args K W as vs ∧ sp as Q ∧ ContF K g W H Q R
structure Nf (P : Program) (w : World) (K : PySem.W.Frag) (mg : Str → Option Value) (base : Heap) (x : Str) (k : Nat) (sp : SpN) : Prop where
  ex : ∃ f fd ps, GnOk P w K mg base k f fd ps (liftN K sp) ∧ mg x = some (.ref f) ∧ PySem.W.keepIn K (.ref f) = true ∧ Binds K fd ps []
section
variable {X : Cx} {B : Hp} {W0 : Wd} {S : En} {pos p apos : Pos} {e o : Expr} {es : List Expr} {x : Str} {k : Nat}
theorem ContF.step {K : PySem.W.Frag} {g : List Code} {W W1 : Wd} {H H1 : Hp} {Q : List D → Prop} {R : VK} (c : ContF K g W H Q R) (a : Stp W H W1 H1) (ok : Ok g W1 H1) : ContF K g W1 H1 Q R := fun l p xs W' H' s ok' hp n i hl d q => c l p xs W' H' (a.trans ok s) ok' (a.free ok hp) n i hl d q
theorem fd_callN {sp : SpN} {Q : List D → Prop} (F : Nf X.prog X.w X.K X.mg X.base x k sp) (hr : Room k X.A) (hG : X.A.guards = some (gOf X)) (h : AD X B S (e :: es) fun as => sp as Q) (hg : Gl X x := by rfl) (hdb : (x == ("__debug__" : Str)) = false := by decide)
    (he : starEach (e :: es) X.env = (false, eval e X.env) :: starEach es X.env := by rfl) (hpl : (backTo pos (starEach es X.env)).any (·.1) = false := by rfl) : FD X B S (.Call (.Name x p) (e :: es) [] pos) Q := fun σ W H r R c => by
  obtain ⟨f, fd, ps, F, hm, hk, hb⟩ := F.ex
  refine we_call F hr hG hg hm hk hb .nil ?_ hdb he hpl
  refine h σ W H r _ fun as vs W1 H1 s1 ok1 n1 q1 => ?_
  rw [List.append_nil]
  exact ⟨as, W1, Q, ok1, n1, q1, c.step s1 ok1⟩
/-- two ints in a list of one's own: a pot -/
theorem Ok.pot2 {g : List Code} {W : Wd} {H : Hp} {q : Addr} {x y : Int} (ok : Ok g W H) (i : W.I q = none) (h : H q = some (.lst [.int x, .int y])) (hy : 0 ≤ y ∧ y < 2 ^ 31) : Ok g ⟨W.I, fun b => W.P b ∨ b = q⟩ H :=
  ⟨ok.gd, ok.ex, fun a pa => pa.elim (ok.pot a) fun z => by subst z; exact ⟨i, x, y, h, hy⟩⟩
theorem Stp.pot2 {W W1 : Wd} {H H1 : Hp} {q : Addr} (a : Stp W H W1 H1) (hq : H q = none) : Stp W H ⟨W1.I, fun b => W1.P b ∨ b = q⟩ H1 :=
  ⟨a.I, fun b h => .inl (a.P b h), a.keep, a.old, fun b o hb z => z.elim (a.oldP b o hb) fun e => by rw [e, hq] at hb; cases hb⟩
theorem dns_two {K : PySem.W.Frag} {I : Hp} {a b : Int} {xs : List V} (h : Dns K I [.int a, .int b] xs) : xs = [.int a, .int b] := by
  cases h with
  | cons h r => cases h; cases r with
    | cons h r => cases h; cases r; rfl
theorem ad_newpot {Q : List Sl → Prop} (h : FD X B S e fun l => ∃ a b : Int, l = [.int a, .int b] ∧ (0 ≤ b ∧ b < 2 ^ 31) ∧ AD X B S es fun as => Q (.pot :: as)) (hs : starEach (e :: es) X.env = (false, eval e X.env) :: starEach es X.env := by rfl) : AD X B S (e :: es) Q := fun σ W H r R k => by
  refine PA.w (pa_cons we_pe wa_pa hs) ?_
  refine h σ W H r _ fun l q xs W1 H1 s1 ok1 hp n i hl d q1 => ?_
  obtain ⟨a, b, rfl, hab, q1⟩ := q1
  rw [dns_two d] at hl
  have ok2 := ok1.pot2 i hl hab
  have st2 := s1.pot2 hp
  refine q1 σ _ H1 (r.step st2 ok2) _ fun as vs W3 H3 s3 ok3 n3 q3 => ?_
  exact k (.pot :: as) (.ref q :: vs) W3 H3 (st2.trans ok2 s3) ok3 (.cons ⟨q, rfl, s3.P q (.inr rfl)⟩ n3) q3
end
/-- a block that ends by handing a new list back -/
def SN (X : Cx) (B : Hp) (W0 : Wd) (S : En) (sts : List Stmt) (Q : List D → Prop) : Prop := ∀ σ W H, Rep X.K (gOf X) B S σ W H → Stp W0 B W H → ∀ R, ContF X.K (gOf X) W0 B Q R → WSs X sts { nx := fun _ H' => R .non H', rt := R } σ H
section
variable {X : Cx} {B : Hp} {W0 : Wd} {S : En} {pos : Pos} {e : Expr} {st : Stmt} {sts : List Stmt} {Q : List D → Prop}
theorem sn_ret (h : FD X B S e Q) : SN X B W0 S [.Return (some e) pos] Q := fun σ W H r z R c => by
  refine PSs.w (pss_cons (ps_ret we_pe) pss_nil) ?_
  exact h σ W H r R fun l p xs W2 H2 s2 ok2 hp n i hl d q2 => c l p xs W2 H2 (z.trans r.ok s2) ok2 (z.free r.ok hp) n i hl d q2
theorem sn_cons (h : SD X B W0 S st { nx := fun S' => SN X B W0 S' sts Q, rt := fun _ => False }) : SN X B W0 S (st :: sts) Q := fun σ W H r z R c => by
  refine PSs.w (pss_cons ws_ps wss_pss) ?_
  exact h σ W H r z _ ⟨fun S' σ' W' H' r' z' _ q => q σ' W' H' r' z' R c, fun _ _ _ _ _ _ _ _ q => q.elim, fun _ _ _ _ _ _ _ q => q.elim, fun _ _ _ _ _ _ _ q => q.elim⟩
end
section
variable {P : Program} {w : World} {K : PySem.W.Frag} {mg : Str → Option Value} {base : Heap}
/-- a def that ends by handing a new list back -/
theorem gn_new {x qual : Str} {st : Stmt} {f : Addr} {fd : FuncData} {N ps : List Str} {k : Nat} {sp : SpN} (F : FunS K x qual st f fd) (hS : FnScope N ps (defScope st)) (len : ∀ as Q, sp as Q → as.length = ps.length)
    (body : ∀ cdv A outer s H, Room k (A.deeper (PyProof.Rows.envOfC qual (defScope st) s.heap.objs.size f cdv)) → (Bx P w K mg base N qual st f cdv A outer s H).A.guards = some (gOf (Bx P w K mg base N qual st f cdv A outer s H)) → ∀ W as Q, sp as Q →
      SN (Bx P w K mg base N qual st f cdv A outer s H) H W (startE N as) (defBody st) Q) : GnOk P w K mg base (k + 1) f fd ps (liftN K sp) := by
  refine gn_of F hS (fun g vs H Q h => ?_) (fun cdv A outer s H g vs R hr hG h => ?_)
  · obtain ⟨as, W, Qd, _, ha, hsp, _⟩ := h
    rw [← len _ _ hsp]
    exact (Paired.length ha).symm
  · obtain ⟨as, W, Qd, ok, ha, hsp, c⟩ := h
    obtain ⟨e1, e2⟩ := gOf_bx (P := P) (w := w) (K := K) (mg := mg) (base := base) (N := N) (qual := qual) (st := st) (f := f) (cdv := cdv) (outer := outer) (s := s) (H := H) hG
    refine ⟨WSs _ _, wss_pss, body cdv A outer s H hr (by rw [e2]; exact e1) W as Qd hsp (L2.start N vs) W H (by rw [e2]; exact rep_start ok ha) Stp.refl R ?_⟩
    rw [e2]
    exact c
end
section
variable {X : Cx} {B : Hp} {W0 : Wd} {S : En} {e a b : Expr} {es : List Expr} {pos : Pos} {E : Ends'}
/-- x.extend(e), e a new list -/
theorem sd_extend {x : Str} {px apos cpos : Pos} (i : Nat) (l : List D) (hN : X.N[i]? = some x) (h : S[i]? = some (some (.own l))) (he : FD X B S e fun m => l.length + m.length ≤ 100000 ∧ E.nx (S.set i (some (.own (l ++ m)))))
    (hv : Vis X.env.scope x := by first | exact Or.inl rfl | exact Or.inr (Or.inl rfl) | exact Or.inr (Or.inr rfl)) (hd : (x == ("__debug__" : Str)) = false := by decide) (hcd : (x == ("__classdict__" : Str)) = false := by decide)
    (hps : PE X (.Call (.Attribute (.Name x px) "extend" apos) [e] [] cpos) (tBM X.K "list" rExtend (tVar i) (tCons (WE X e) tNil)) := by
      exact pe_bm PySem.F.plainAttrs_list PySem.F.slot_list_extend PySem.F.type_list_extend mt_extend (pe_var (by rfl) (by first | exact Or.inl rfl | exact Or.inr (Or.inl rfl) | exact Or.inr (Or.inr rfl))) (pa_cons DL.we_pe pa_nil))
    (hs : swapsWith (.Call (.Attribute (.Name x px) "extend" apos) [e] [] cpos) none pos.line X.env = pure false := by rfl) : SD X B W0 S (.Expr (.Call (.Attribute (.Name x px) "extend" apos) [e] [] cpos) pos) E := fun σ W H r z D' k => by
  refine PS.w (ps_expr hps hs) ?_
  obtain ⟨v, e1, p, xs, ev, hB, n, hI, hH, d0⟩ := r.sl i _ h
  subst ev
  refine ⟨_, e1, .inl ⟨rfl, _, SqL.of hH⟩, ?_⟩
  refine he σ W H r _ fun m p1 zs W1 H1 s1 ok1 hp1 nP1 i1 hl1 n1 q1 => ?_
  obtain ⟨hl, q1⟩ := q1
  have hH1 : H1 p = some (.lst xs) := s1.keep _ _ hH n
  have nP : ¬ W1.P p := fun q => n (s1.oldP p _ hH q)
  have hI1 : W1.I p = none := s1.old p _ hH (fun _ z => by cases z) hI
  refine ⟨p, p1, xs, zs, rfl, rfl, hH1, hl1, Nat.le_trans (by rw [← d0.length, ← n1.length]; exact hl) (by decide), ?_⟩
  have ok2 : Ok (gOf X) W1 (upd H1 p (.lst (xs ++ zs))) := {
    gd := fun b hb => by
      obtain ⟨n1, n2⟩ := ok1.gd b hb
      refine ⟨n1, ?_⟩
      by_cases q : b = p
      · subst q
        rw [upd_same]
        exact ⟨(fun z => by cases z), (fun _ z => by cases z)⟩
      · rw [upd_ne q]
        exact n2
    ex := fun b o hb => by
      rw [upd_ne (fun y => by rw [y, hI1] at hb; cases hb)]
      exact ok1.ex b o hb
    pot := fun b hb => by
      obtain ⟨nb, y2, w2, h2⟩ := ok1.pot b hb
      have ne : b ≠ p := fun y => nP (y ▸ hb)
      exact ⟨nb, y2, w2, by rw [upd_ne ne]; exact h2⟩ }
  have z1 := z.trans r.ok s1
  have z2 : Stp W0 B W1 (upd H1 p (.lst (xs ++ zs))) := ⟨z1.I, z1.P, fun b o hb hn => by rw [upd_ne (ne_of_none hb hB)]; exact z1.keep b o hb hn, z1.old, z1.oldP⟩
  have r1 := r.step s1 ok1
  have lt : i < S.length := (List.getElem?_eq_some_iff.mp h).1
  refine k.nx _ σ W1 _ ?_ z2 s1.I q1
  refine ⟨ok2, r.gb, by simpa using r.len, fun j s ej => ?_, fun a b la lb q ne e2 e3 e4 => ?_, r1.distT.setS i fun l z => by cases z⟩
  · by_cases q : i = j
    · subst q
      rw [List.getElem?_set_self lt] at ej
      cases ej
      exact ⟨_, e1, p, _, rfl, hB, nP, hI1, upd_same, (d0.mono s1.I).append n1⟩
    · rw [List.getElem?_set_ne q] at ej
      obtain ⟨v2, e2, h2⟩ := r1.sl j s ej
      refine ⟨v2, e2, ?_⟩
      cases s with
      | val d2 => exact h2
      | pot => exact h2
      | own m =>
        obtain ⟨p2, ys, rfl, b1, b2, b3, b4, b5⟩ := h2
        refine ⟨p2, ys, rfl, b1, b2, b3, ?_, b5⟩
        rw [upd_ne (fun y => by
          rw [y] at e2
          exact r.dist i j l m p q h ej e1 e2)]
        exact b4
      | ownT m =>
        obtain ⟨p2, ys, rfl, b1, b2, b3, b4, b5⟩ := h2
        refine ⟨p2, ys, rfl, b1, b2, b3, ?_, b5⟩
        rw [upd_ne (fun y => by rw [y, hH1] at b4; cases b4)]
        exact b4
      | inst C p2 dx fs =>
        obtain ⟨vs, rfl, b1, b2, b3, b4, b5, b6, b7, b8, b9, b10⟩ := h2
        refine ⟨vs, rfl, b1, b2, b3, b4, b5, b6, b7, ?_, ?_, b10⟩
        · rw [upd_ne (fun y => by rw [y, hH1] at b8; cases b8)]
          exact b8
        · rw [upd_ne (fun y => by rw [y, hH1] at b9; cases b9)]
          exact b9
  · have g : ∀ {c : Nat} {m0 : List D}, (S.set i (some (.own (l ++ m))))[c]? = some (some (.own m0)) → ∃ m', S[c]? = some (some (.own m')) := fun {c m0} ec => by
      by_cases q2 : i = c
      · subst q2
        exact ⟨l, h⟩
      · rw [List.getElem?_set_ne q2] at ec
        exact ⟨m0, ec⟩
    obtain ⟨m1, g1⟩ := g e2
    obtain ⟨m2, g2⟩ := g e3
    exact r.dist a b m1 m2 q ne g1 g2 e4
end
/-- x[j], x the script -/
theorem ed_ixF {X : Cx} {B : Hp} {S : En} {a b : Expr} {pos : Pos} {Q : D → Prop} (h : ED X B S a fun x => ED X B S b fun y => ∃ (l : List Int) (j : Nat) (z : Int), x = .frl l ∧ y = .int (j : Int) ∧ l[j]? = some z ∧ Q (.int z)) (hs : PlainIx b := by exact fun _ _ => rfl) : ED X B S (.Subscript a b pos) Q := fun σ W H r R k => by
  refine PE.w (pe_ix ix_list we_pe we_pe hs) ?_
  refine h σ W H r _ fun d v W1 H1 s1 ok1 n1 q1 => ?_
  refine q1 σ W1 H1 (r.step s1 ok1) _ fun d2 u W2 H2 s2 ok2 n2 q2 => ?_
  obtain ⟨l, j, z, rfl, rfl, e, q⟩ := q2
  have k2 := (k.step s1 ok1).step s2 ok2
  cases n2
  cases n1 with
  | frl h => exact ⟨_, _, (j : Int), .int z, rfl, rfl, ok2.ex.l (s2.I.l h), atI_nat (by rw [List.getElem?_map, e]; rfl), k2.now ok2 (.int z) q⟩
end DL

set_option Elab.async false
set_option linter.all false
set_option maxRecDepth 100000
set_option maxHeartbeats 4000000
/-! a comprehension whose list goes to a name at once -/
namespace DL
open PySem L2
def LC (X : Cx) (B : Hp) (S : En) (t : TE) (Q : List D → Prop) : Prop := ∀ σ W H, Rep X.K (gOf X) B S σ W H → ∀ R, ContF X.K (gOf X) W H Q R → t σ H R
section
variable {X : Cx} {B : Hp} {W0 : Wd} {S : En} {e a b : Expr} {es : List Expr} {pos : Pos} {E : Ends'}
/-- [elt for g in a list], without a test -/
theorem lc_L {elt iter : Expr} {scope : Scope} {own : List (Str × Nat)} {g : TG} {l : List D} {Q : List D → Prop} (J : Nat → List D → Prop) (S' : D → En) 
    (h : ED X B S iter fun d => d = .lst l ∧ l.length ≤ 50000 ∧ J 0 []) (hp : ∀ d ∈ l, Pat X.K g (own.map (·.2)) S d (S' d))
    (he : ∀ (i : Nat) d acc, l[i]? = some d → acc.length = i → J i acc → ∀ (s : Shared) (H0 : Hp) (C : Addr) (cl : List (Str × Addr)) (fp : List Addr), ED (X.blk s H0 scope (compEnvC scope cl C X.env) fp) B (S' d) elt fun y => J (i + 1) (acc ++ [y]))
    (hd : ∀ acc, acc.length = l.length → J l.length acc → Q acc) : LC X B S (tLc (iList X.K (WE X iter)) g tYes (WEb X scope elt) (own.map (·.2))) Q := fun σ W H r R k => by
  refine h σ W H r _ fun d v W1 H1 s1 ok1 n1 q1 => ?_
  obtain ⟨rfl, hz, j0⟩ := q1
  cases n1 with
  | @lst _ a xs ha m =>
    refine ⟨a, rfl, ⟨xs, SqL.of (ok1.ex _ _ ha)⟩, fun p hp0 => ?_⟩
    have r1 := r.step s1 ok1
    refine lc_list (K := X.K) (a := a) (xs := xs) (fun i H' => ∃ acc W', Mid X.K (gOf X) W1 H1 p acc W' H' ∧ acc.length = i ∧ J i acc) ⟨[], W1, ⟨Stp.own hp0, ok1.own hp0, ok1.notP hp0, ok1.free hp0, [], upd_same, .nil⟩, rfl, j0⟩
      (fun i H' _ ⟨acc, W', mm, _⟩ => SqL.of (mm.ok.ex _ _ (mm.st.I _ _ ha))) ?_ ?_
    · rintro i x H' hx ⟨acc, W', mm, hl, j⟩
      obtain ⟨d, hd', nd⟩ := m.get hx
      have r2 := r1.step mm.st mm.ok
      refine hp d (List.mem_of_getElem? hd') (gOf X) B σ W' H' x r2 (nd.mono mm.st.I) _ fun σ2 e2 r3 => ⟨e2, ?_⟩
      show WEb X scope elt σ2 H' _
      intro s H0 C cl fp
      refine he i d acc hd' hl j s H0 C cl fp σ2 W' H' r3 _ fun y v W2 H2 s2 ok2 n2 q2 => ?_
      have lt : i < l.length := (List.getElem?_eq_some_iff.mp hd').1
      obtain ⟨xs', e1, e3, m3⟩ := (mm.step s2 ok2).more hp0 n2 (by omega)
      exact ⟨xs', e1, e3, _, W2, m3, by simp [hl], q2⟩
    · rintro H' ⟨acc, W', mm, hl, j⟩
      obtain ⟨ys, hH, ds⟩ := mm.h
      rw [← m.length] at hl j
      exact k acc p ys W' H' (s1.trans ok1 mm.st) mm.ok (s1.free ok1 hp0) mm.n mm.i hH ds (hd acc hl j)
theorem sd_ownLc {i : Nat} {y : Str} {py spos : Pos} {elt tg iter : Expr} {scope : Scope} {own : List (Str × Nat)} {wi : TI} {g : TG} (hc : X.calm = true) (hN : X.N.Nodup) (hy : X.N[i]? = some y) (hyl : X.env.scope.names.lookup y = some .local) (hi : PI X tg iter wi) (ok : BlkOk X.N X.env.scope scope own)
    (hg : ∀ (s : Shared) (H : Hp) (C : Addr) (cl : List (Str × Addr)) (fp : List Addr), PG (X.blk s H scope (compEnvC scope cl C X.env) fp) tg g)
    (h : LC X B S (tLc wi g tYes (WEb X scope elt) (own.map (·.2))) fun l => E.nx (S.set i (some (.own l))))
    (hsw : swapsWith (.ListComp elt [⟨tg, iter, [], 0⟩] scope pos) (some (.Name y py)) spos.line X.env = pure true := by exact sw_true rfl rfl rfl rfl) (hs : ∀ x, foldedSetIterable iter X.env x = pure x := by intro _; rfl) :
    SD X B W0 S (.Assign [.Name y py] (.ListComp elt [⟨tg, iter, [], 0⟩] scope pos) spos) E := fun σ W H r z D' k => by
  refine PS.w (ps_setLc (i := i) hc hN hy hyl hsw hi ok hg (fun _ _ _ _ _ => pts_nil) web_pe hs) ?_
  exact h σ W H r _ fun l p xs W1 H1 s1 ok1 hp n i1 hl d q1 => k.nx _ _ W1 H1 ((r.step s1 ok1).setOwn (z.free r.ok hp) n i1 hl d fun j m e1 e2 => by
    obtain ⟨v, e3, p2, ys, e4, _, _, _, h4, _⟩ := r.sl j _ e1
    rw [e2] at e3
    cases e3
    cases e4
    rw [hp] at h4
    cases h4) (z.trans r.ok s1) s1.I q1
end
end DL

set_option Elab.async false
set_option linter.all false
set_option maxRecDepth 100000
set_option maxHeartbeats 4000000
/-! all, any; defs called by keywords; comprehensions with a test, with two ranges -/
namespace DL
open PySem PySem.Spec PyProof.Rows L2
theorem Dns.bls {K : PySem.W.Frag} {I : Hp} : ∀ {bs : List Bool} {xs : List V}, Dns K I (bs.map D.bl) xs → xs = bs.map V.bl
  | [], _, .nil => rfl
  | b :: bs, _, .cons (.bl _) r => by rw [List.map_cons, Dns.bls r]
theorem Dns.ints {K : PySem.W.Frag} {I : Hp} : ∀ {bs : List Int} {xs : List V}, Dns K I (bs.map D.int) xs → xs = bs.map V.int
  | [], _, .nil => rfl
  | b :: bs, _, .cons (.int _) r => by rw [List.map_cons, Dns.ints r]
section
variable {X : Cx} {B : Hp} {S : En} {pos p : Pos} {Q : D → Prop} {e : Expr} {es : List Expr} {x : Str} {k n : Nat} {kws : List Keyword}
theorem cd_all {bs : List Bool} (hc : X.calm = true) (q : Q (.bl (bs.all id))) : CD X (.builtin "all") [.val (.lst (bs.map D.bl))] Q := cd_of (cr_all hc) fun vs W H ok ha R c => by
  obtain ⟨v, rfl, h⟩ := one_arg ha
  cases h with
  | lst h z => exact ⟨_, bs, rfl, by rw [← z.bls]; exact SqL.of (ok.ex _ _ h), c.now ok (.bl _) q⟩
/-! a def called by keywords alone -/
theorem we_callK0 {f : Addr} {fd : FuncData} {ps ks : List Str} {sp : SpG} {g : List Code} {gf : List Value → List Value → List Value} {gV : List V → List V → List V} {σ : L2.St} {H : Hp} {Q : VK}
    (F : GnOk X.prog X.w X.K X.mg X.base k f fd ps sp) (hr : Room k X.A) (hG : X.A.guards = some g) (hg : Gl X x) (hm : X.mg x = some (.ref f)) (hk : PySem.W.keepIn X.K (.ref f) = true) (hb : KBn X.K fd ps 0 ks gf gV)
    (h : WK X kws σ H fun zs H1 => zs.length = ks.length ∧ sp g (gV [] zs) H1 Q)
    (hall : (backToKw pos (keywordEach kws X.env)).all (·.1.isSome) = true) (hks : (backToKw pos (keywordEach kws X.env)).filterMap (·.1) = ks) (hdb : (x == ("__debug__" : Str)) = false)
    (hpl : ((backTo pos (starEach [] X.env)).any (·.1) || (backToKw pos (keywordEach kws X.env)).any (·.1.isNone)) = false) : WE X (.Call (.Name x p) [] kws pos) σ H Q := fun pins s I => by
  refine wpAny_Call_Name_kw (ld_glob I hg hm ?_ hdb)
  refine PySem.W.callWith_KW0 (h₀ := X.base) I.ok.mod.kin hk hall (thn (h pos pins s I) fun ws s2 ⟨zs, H2, I2, rz, l2, q2⟩ => ⟨I2.kIn, ?_⟩) hpl
  rw [hks]
  have n2 : ws.length = ks.length := by rw [← rz.length, l2]
  exact wpAny_call (run_gb F hr hG I2.env0 (hb.to _ [] ws I2.kIn rfl n2) I2 (hb.rel (vs := []) (us := []) .nil rz) q2 fun _ _ z => z)
structure DfK (P : Program) (w : World) (K : PySem.W.Frag) (mg : Str → Option Value) (base : Heap) (x : Str) (k : Nat) (ks : List Str) (midD : List Sl → List Sl) (sp : SpD) : Prop where
  ex : ∃ f fd ps gf, ∃ mid : List V → List V, GnOk P w K mg base k f fd ps (lift K sp) ∧ mg x = some (.ref f) ∧ PySem.W.keepIn K (.ref f) = true ∧ KBn K fd ps 0 ks gf (fun vs zs => vs ++ mid zs) ∧ ∀ W bs zs, Args K W bs zs → Args K W (midD bs) (mid zs)
theorem ed_callK0 {ks : List Str} {midD : List Sl → List Sl} {sp : SpD} (F : DfK X.prog X.w X.K X.mg X.base x k ks midD sp) (hr : Room k X.A) (hG : X.A.guards = some (gOf X)) (h : KD X B S kws fun bs => bs.length = ks.length ∧ sp (midD bs) Q) (hg : Gl X x := by rfl)
    (hall : (backToKw pos (keywordEach kws X.env)).all (·.1.isSome) = true := by rfl) (hks : (backToKw pos (keywordEach kws X.env)).filterMap (·.1) = ks := by rfl) (hdb : (x == ("__debug__" : Str)) = false := by decide)
    (hpl : ((backTo pos (starEach [] X.env)).any (·.1) || (backToKw pos (keywordEach kws X.env)).any (·.1.isNone)) = false := by rfl) : ED X B S (.Call (.Name x p) [] kws pos) Q := fun σ W H r R c => by
  obtain ⟨f, fd, ps, gf, mid, F, hm, hk, hb, hc⟩ := F.ex
  refine we_callK0 F hr hG hg hm hk hb ?_ hall hks hdb hpl
  refine h σ W H r _ fun bs zs W1 H1 s1 ok1 n1 q1 => ?_
  obtain ⟨l, q1⟩ := q1
  exact ⟨by rw [← l]; exact (Paired.length n1).symm, midD bs, W1, Q, ok1, hc _ _ _ n1, q1, c.step s1 ok1⟩
/-! comprehensions with a test -/
/-- [elt for g in a tuple] -/
theorem fd_lcT {elt tg iter : Expr} {scope : Scope} {own : List (Str × Nat)} {g : TG} {l : List D} {Q : List D → Prop} (J : Nat → List D → Prop) (S' : D → En) (hc : X.calm = true) (hN : X.N.Nodup) (ok : BlkOk X.N X.env.scope scope own)
    (hg : ∀ (s : Shared) (H : Hp) (C : Addr) (cl : List (Str × Addr)) (fp : List Addr), PG (X.blk s H scope (compEnvC scope cl C X.env) fp) tg g)
    (h : ED X B S iter fun d => d = .tup l ∧ l.length ≤ 50000 ∧ J 0 []) (hp : ∀ d ∈ l, Pat X.K g (own.map (·.2)) S d (S' d))
    (he : ∀ (i : Nat) d acc, l[i]? = some d → acc.length = i → J i acc → ∀ (s : Shared) (H0 : Hp) (C : Addr) (cl : List (Str × Addr)) (fp : List Addr), ED (X.blk s H0 scope (compEnvC scope cl C X.env) fp) B (S' d) elt fun y => J (i + 1) (acc ++ [y]))
    (hd : ∀ acc, acc.length = l.length → J l.length acc → Q acc) (hs : ∀ x, foldedSetIterable iter X.env x = pure x := by intro _; rfl) : FD X B S (.ListComp elt [⟨tg, iter, [], 0⟩] scope pos) Q := fun σ W H r R k => by
  refine PE.w (pe_lc (te := WEb X scope elt) hc hN (pi_tup we_pe) ok hg (fun _ _ _ _ _ => pts_nil) web_pe hs) ?_
  refine h σ W H r _ fun d v W1 H1 s1 ok1 n1 q1 => ?_
  obtain ⟨rfl, hz, j0⟩ := q1
  cases n1 with
  | @tup _ a xs ha m =>
    refine ⟨a, rfl, ⟨xs, SqT.of (ok1.ex _ _ ha)⟩, fun p hp0 => ?_⟩
    have r1 := r.step s1 ok1
    refine lc_tup (K := X.K) (a := a) (xs := xs) (fun i H' => ∃ acc W', Mid X.K (gOf X) W1 H1 p acc W' H' ∧ acc.length = i ∧ J i acc) ⟨[], W1, ⟨Stp.own hp0, ok1.own hp0, ok1.notP hp0, ok1.free hp0, [], upd_same, .nil⟩, rfl, j0⟩
      (fun i H' _ ⟨acc, W', mm, _⟩ => SqT.of (mm.ok.ex _ _ (mm.st.I _ _ ha))) ?_ ?_
    · rintro i x H' hx ⟨acc, W', mm, hl, j⟩
      obtain ⟨d, hd', nd⟩ := m.get hx
      have r2 := r1.step mm.st mm.ok
      refine hp d (List.mem_of_getElem? hd') (gOf X) B σ W' H' x r2 (nd.mono mm.st.I) _ fun σ2 e2 r3 => ?_
      refine ⟨e2, ?_⟩
      show WEb X scope elt σ2 H' _
      intro s H0 C cl fp
      have lt : i < l.length := (List.getElem?_eq_some_iff.mp hd').1
      refine he i d acc hd' hl j s H0 C cl fp σ2 W' H' r3 _ fun y v W2 H2 s2 ok2 n2 q2 => ?_
      obtain ⟨xs', e1, e3, m3⟩ := (mm.step s2 ok2).more hp0 n2 (by omega)
      exact ⟨xs', e1, e3, _, W2, m3, by simp [hl], q2⟩
    · rintro H' ⟨acc, W', mm, hl, j⟩
      obtain ⟨ys, hH, ds⟩ := mm.h
      rw [← m.length] at hl j
      exact k acc p ys W' H' (s1.trans ok1 mm.st) mm.ok (s1.free ok1 hp0) mm.n mm.i hH ds (hd acc hl j)
end
end DL

set_option Elab.async false
set_option linter.all false
set_option maxRecDepth 100000
set_option maxHeartbeats 2000000
/-! zip of a list or a tuple with a list or a tuple, whichever each is -/
namespace ZX
open PySem PySem.Spec PyProof.Rows
/-- an iterator at `it` that goes through the items of what stands at `l` -/
structure Feed where
  it : Addr
  l : Addr
  xs : Array Value
  st : Nat → Heap → Prop
  src : Heap → Prop
  stE : ∀ {h h' : Heap} {b : Addr} {k : Nat}, st k h → Heap.ExtBut b h h' → it ≠ b → st k h'
  srcE : ∀ {h h' : Heap} {b : Addr}, src h → Heap.ExtBut b h h' → l ≠ b → src h'
  item : ∀ {p : Program} {w : World} {A : Around} {E : Value → Shared → Prop} {s : Shared} {k : Nat} {x : Value} {Q : Value → Shared → Prop}, st k s.heap → src s.heap → xs[k]? = some x →
    (∀ h', st (k + 1) h' → Heap.SameBut it s.heap h' → Q x { s with heap := h' }) → wpAny (model p w) A (Builtin.SmallTypes.nextOf (.ref it)) Q E s
  done : ∀ {p : Program} {w : World} {A : Around} {E : Value → Shared → Prop} {s : Shared} {k : Nat} {Q : Value → Shared → Prop}, A.handled = none → st k s.heap → src s.heap → xs[k]? = none →
    (∀ h' e, Heap.ExtBut it s.heap h' → (∃ o, h'.get? e = some o ∧ o.cls = .type "StopIteration") → E (.ref e) { s with heap := h' }) → wpAny (model p w) A (Builtin.SmallTypes.nextOf (.ref it)) Q E s
  obj : ∀ {h : Heap} {k : Nat}, st k h → ∃ o, h.get? it = some o ∧ ∀ v, o.data ≠ .cell v
  same : ∀ {h h' : Heap} {k : Nat}, st k h → (∀ o, h.get? it = some o → h'.get? it = some o) → st k h'
def feedL (it l : Addr) (xs : Array Value) : Feed where
  it := it
  l := l
  xs := xs
  st := fun k h => h.IsListIter it l k
  src := fun h => h.IsList l xs
  stE := fun a b c => a.extBut b c
  srcE := fun a b c => a.extBut b c
  item := fun a b c d => wpAny_nextOf_list_item a b c d
  done := fun a b c d e => wpAny_nextOf_list_end a b c d e
  obj := fun ⟨o, e, _, d⟩ => ⟨o, e, fun v q => by rw [d] at q; cases q⟩
  same := fun a b => a.at b
def feedT (it l : Addr) (xs : Array Value) : Feed where
  it := it
  l := l
  xs := xs
  st := fun k h => h.IsTupleIter it l k
  src := fun h => h.IsTuple l xs
  stE := fun a b c => a.extBut b c
  srcE := fun a b c => a.extBut b c
  item := fun a b c d => RZ.nextOf_tuple_item a b c d
  done := fun a b c d e => RZ.nextOf_tuple_end a b c d e
  obj := fun ⟨o, e, _, d⟩ => ⟨o, e, fun v q => by rw [d] at q; cases q⟩
  same := fun a b => a.at b
section
variable {p : Program} {w : World} {A : Around} {E : Value → Shared → Prop} {s : Shared} {M N : Feed} {z TI TO : Addr} {i j : Nat} {a b : Value}
/-- how the zip stands ahead of a turn -/
structure Stands (M N : Feed) (z TI TO : Addr) (i j : Nat) (h : Heap) : Prop where
  z : IsZip h z TI TO .none
  ti : IsPair h TI (.ref M.it) (.ref N.it)
  to : ∃ a b, IsPair h TO a b
  f : M.st i h
  g : N.st j h
theorem next_item {x y : Value} {Q : Value → Shared → Prop} (D : ZipApart z TI TO M.it N.it M.l N.l) (st : Stands M N z TI TO i j s.heap) (sf : M.src s.heap) (sg : N.src s.heap) (hx : M.xs[i]? = some x) (hy : N.xs[j]? = some y)
    (hQ : ∀ h', IsZip h' z TI TO (rawInt s.heap.objs.size) → IsPair h' TO x y → M.st (i + 1) h' → N.st (j + 1) h' → IsPair h' s.heap.objs.size x y → h'.objs.size = s.heap.objs.size + 1 →
      (∀ c o, c ≠ z → c ≠ TO → c ≠ M.it → c ≠ N.it → s.heap.get? c = some o → h'.get? c = some o) → Q (.ref s.heap.objs.size) { s with heap := h' }) :
    wpAny (model p w) A (Builtin.«zip.__next__» ⟨[.ref z], []⟩) (fun fin s' => ∃ v, fin = .done (.ret v) ∧ Q v s') E s := by
  obtain ⟨hz, hTI, ⟨a, b, hTO⟩, f0, g0⟩ := st
  show wpAny _ _ (field (.ref z) 2 >>= _) _ _ _
  refine wpAny_bind (wpAny_field hz rfl (x := .bool false) rfl ?_); show wpAny _ _ (field (.ref z) 3 >>= _) _ _ _
  refine wpAny_bind (wpAny_field hz rfl (x := .ref TI) rfl ?_); refine wpAny_bind (wpAny_seqItems hTI rfl ?_)
  show wpAny _ _ (Builtin.SmallTypes.ownedTupleIsFree (.ref z) >>= _) _ _ _
  refine wpAny_bind ?_; unfold Builtin.SmallTypes.ownedTupleIsFree
  refine wpAny_bind (wpAny_field hz rfl (x := .none) rfl (wpAny_pure ?_)); simp only [if_true]
  refine wpAny_bind (wpAny_rule ?_); refine wpAny_bind (wpAny_field hz rfl (x := .ref TO) rfl ?_)
  refine wpAny_bind (wpAny_setField_rec hz (by simp) fun m1 z1 e1 => ?_)
  have z1' : IsZip m1 z TI TO .ellipsis := z1
  refine wpAny_bind ?_; simp only [List.zipIdx_cons, List.zipIdx_nil, List.forIn_cons, List.forIn_nil]
  have x1 := e1.extBut
  refine wpAny_bind (wpAny_bind (wpAny_onRaise ?_)); show wpAny _ _ (Builtin.SmallTypes.nextOf (.ref M.it) >>= _) _ _ _
  refine wpAny_bind (M.item (M.stE f0 x1 D.i1z) (M.srcE sf x1 D.l1z) hx fun m2 f2 e2 => wpAny_pure ?_)
  have x2 := e2.extBut
  have t2 : IsPair m2 TO a b := x2 _ _ D.TOi1 (x1 _ _ D.TOz hTO)
  refine wpAny_bind (wpAny_seqItems t2 rfl ?_); refine wpAny_bind (wpAny_updateSeq_pair t2 fun m3 t3 e3 => ?_)
  have x3 := e3.extBut
  have t3' : IsPair m3 TO x b := t3
  refine wpAny_bind (wpAny_letGo (wpAny_pure ?_)); refine wpAny_bind (wpAny_bind (wpAny_onRaise ?_))
  show wpAny _ _ (Builtin.SmallTypes.nextOf (.ref N.it) >>= _) _ _ _
  refine wpAny_bind (N.item (N.stE (N.stE (N.stE g0 x1 D.i2z) x2 D.i12.symm) x3 D.TOi2.symm) (N.srcE (N.srcE (N.srcE sg x1 D.l2z) x2 D.l2i1) x3 D.l2TO) hy fun m4 g4 e4 => wpAny_pure ?_)
  have x4 := e4.extBut
  have t4 : IsPair m4 TO x b := x4 _ _ D.TOi2 t3'
  refine wpAny_bind (wpAny_seqItems t4 rfl ?_); refine wpAny_bind (wpAny_updateSeq_pair t4 fun m5 t5 e5 => ?_)
  have x5 := e5.extBut
  have t5' : IsPair m5 TO x y := t5
  refine wpAny_bind (wpAny_letGo (wpAny_pure (wpAny_pure ?_))); refine wpAny_bind (wpAny_seqItems t5' rfl ?_)
  refine wpAny_bind (wpAny_newTuple ?_)
  have size5 : m5.objs.size = s.heap.objs.size := by rw [e5.1, e4.1, e3.1, e2.1, e1.1]
  have z5 : IsZip m5 z TI TO .ellipsis := x5 _ _ D.TOz.symm (x4 _ _ D.i2z.symm (x3 _ _ D.TOz.symm (x2 _ _ D.i1z.symm z1')))
  have old5 : ∀ c o, c ≠ z → c ≠ TO → c ≠ M.it → c ≠ N.it → s.heap.get? c = some o → m5.get? c = some o := fun c o n1 n2 n3 n4 e => x5 _ _ n2 (x4 _ _ n4 (x3 _ _ n2 (x2 _ _ n3 (x1 _ _ n1 e))))
  have f5 : M.st (i + 1) m5 := M.stE (M.stE (M.stE f2 x3 D.TOi1.symm) x4 D.i12) x5 D.TOi1.symm
  have g5 : N.st (j + 1) m5 := N.stE g4 x5 D.TOi2.symm
  have zlt : z < m5.objs.size := Heap.lt_size z5
  show wpAny _ _ (Builtin.SmallTypes.ownedTupleHandOut (.ref z) (.ref m5.objs.size) >>= _) _ _ _
  refine wpAny_bind ?_; unfold Builtin.SmallTypes.ownedTupleHandOut
  have z6 : IsZip (m5.push { cls := .type "tuple", data := .seq #[x, y] }) z TI TO .ellipsis := Heap.get?_push_of_some _ z5
  refine wpAny_bind (wpAny_setField_rec z6 (by simp) fun m7 z7 e7 => ?_)
  have z7' : IsZip m7 z TI TO (rawInt m5.objs.size) := z7
  refine wpAny_setField_rec z7' (by simp) fun m8 z8 e8 => ?_
  have z8' : IsZip m8 z TI TO (rawInt m5.objs.size) := z8
  have up : ∀ c o, c ≠ z → m5.get? c = some o → m8.get? c = some o := fun c o n e => e8.extBut _ _ n (e7.extBut _ _ n (Heap.get?_push_of_some _ e))
  have nz : m5.objs.size ≠ z := Nat.ne_of_gt zlt
  have T8 : IsPair m8 m5.objs.size x y := e8.extBut _ _ nz (e7.extBut _ _ nz (Heap.get?_push_size _ rfl))
  have size8 : m8.objs.size = m5.objs.size + 1 := by rw [e8.1, e7.1, Heap.size_push]
  rw [size5] at z8' T8 size8
  refine wpAny_pure ⟨_, rfl, ?_⟩
  show Q (.ref m5.objs.size) _
  rw [size5]
  exact hQ m8 z8' (up _ _ D.TOz t5') (M.same f5 fun o e => up _ o D.i1z e) (N.same g5 fun o e => up _ o D.i2z e) T8 size8 fun c o n1 n2 n3 n4 e => up c o n1 (old5 c o n1 n2 n3 n4 e)
theorem next_end {Q : Fin → Shared → Prop} (hh : A.handled = none) (D : ZipApart z TI TO M.it N.it M.l N.l) (st : Stands M N z TI TO i j s.heap) (sf : M.src s.heap) (sg : N.src s.heap) (hend : M.xs[i]? = none ∨ N.xs[j]? = none)
    (hE : ∀ h' e, (∀ c o, c ≠ z → c ≠ TO → c ≠ M.it → c ≠ N.it → s.heap.get? c = some o → h'.get? c = some o) → (∃ o, h'.get? e = some o ∧ o.cls = .type "StopIteration") → E (.ref e) { s with heap := h' }) :
    wpAny (model p w) A (Builtin.«zip.__next__» ⟨[.ref z], []⟩) Q E s := by
  obtain ⟨hz, hTI, ⟨a, b, hTO⟩, f0, g0⟩ := st
  show wpAny _ _ (field (.ref z) 2 >>= _) _ _ _
  refine wpAny_bind (wpAny_field hz rfl (x := .bool false) rfl ?_); show wpAny _ _ (field (.ref z) 3 >>= _) _ _ _
  refine wpAny_bind (wpAny_field hz rfl (x := .ref TI) rfl ?_); refine wpAny_bind (wpAny_seqItems hTI rfl ?_)
  show wpAny _ _ (Builtin.SmallTypes.ownedTupleIsFree (.ref z) >>= _) _ _ _
  refine wpAny_bind ?_; unfold Builtin.SmallTypes.ownedTupleIsFree
  refine wpAny_bind (wpAny_field hz rfl (x := .none) rfl (wpAny_pure ?_)); simp only [if_true]
  refine wpAny_bind (wpAny_rule ?_); refine wpAny_bind (wpAny_field hz rfl (x := .ref TO) rfl ?_)
  refine wpAny_bind (wpAny_setField_rec hz (by simp) fun m1 z1 e1 => ?_)
  have z1' : IsZip m1 z TI TO .ellipsis := z1
  refine wpAny_bind ?_; simp only [List.zipIdx_cons, List.zipIdx_nil, List.forIn_cons, List.forIn_nil]
  have x1 := e1.extBut
  refine wpAny_bind (wpAny_bind (wpAny_onRaise ?_)); show wpAny _ _ (Builtin.SmallTypes.nextOf (.ref M.it) >>= _) _ _ _
  cases hx : M.xs[i]? with
  | none =>
    refine wpAny_bind (M.done hh (M.stE f0 x1 D.i1z) (M.srcE sf x1 D.l1z) hx fun m2 e x2 he => ?_)
    obtain ⟨oe, h1, h2⟩ := he
    have z2 : IsZip m2 z TI TO .ellipsis := x2 _ _ D.i1z.symm z1'
    have ez : e ≠ z := fun q => by rw [q, z2] at h1; cases h1; simp at h2
    exact wpAny_setField_rec z2 (by simp) fun m3 _ e3 => hE m3 e (fun c o n1 _ n3 _ q => e3.extBut _ _ n1 (x2 _ _ n3 (x1 _ _ n1 q))) ⟨oe, e3.extBut _ _ ez h1, h2⟩
  | some x =>
    have hy : N.xs[j]? = none := by rcases hend with h | h; rw [hx] at h; cases h; exact h
    refine wpAny_bind (M.item (M.stE f0 x1 D.i1z) (M.srcE sf x1 D.l1z) hx fun m2 f2 e2 => wpAny_pure ?_)
    have x2 := e2.extBut
    have t2 : IsPair m2 TO a b := x2 _ _ D.TOi1 (x1 _ _ D.TOz hTO)
    refine wpAny_bind (wpAny_seqItems t2 rfl ?_); refine wpAny_bind (wpAny_updateSeq_pair t2 fun m3 t3 e3 => ?_)
    have x3 := e3.extBut
    refine wpAny_bind (wpAny_letGo (wpAny_pure ?_)); refine wpAny_bind (wpAny_bind (wpAny_onRaise ?_))
    show wpAny _ _ (Builtin.SmallTypes.nextOf (.ref N.it) >>= _) _ _ _
    refine wpAny_bind (N.done hh (N.stE (N.stE (N.stE g0 x1 D.i2z) x2 D.i12.symm) x3 D.TOi2.symm) (N.srcE (N.srcE (N.srcE sg x1 D.l2z) x2 D.l2i1) x3 D.l2TO) hy fun m4 e x4 he => ?_)
    obtain ⟨oe, h1, h2⟩ := he
    have z4 : IsZip m4 z TI TO .ellipsis := x4 _ _ D.i2z.symm (x3 _ _ D.TOz.symm (x2 _ _ D.i1z.symm z1'))
    have ez : e ≠ z := fun q => by rw [q, z4] at h1; cases h1; simp at h2
    exact wpAny_setField_rec z4 (by simp) fun m5 _ e5 => hE m5 e (fun c o n1 n2 n3 n4 q => e5.extBut _ _ n1 (x4 _ _ n4 (x3 _ _ n2 (x2 _ _ n3 (x1 _ _ n1 q))))) ⟨oe, e5.extBut _ _ ez h1, h2⟩
end
end ZX
namespace ZX
open PySem PySem.Spec PyProof.Rows
/-- t: a tuple, else a list -/
def Stand : Bool → Heap → Addr → Array Value → Prop
  | true => fun h l xs => h.IsTuple l xs
  | false => fun h l xs => h.IsList l xs
def feed (t : Bool) (it l : Addr) (xs : Array Value) : Feed := match t with
  | true => feedT it l xs
  | false => feedL it l xs
theorem feed_it {t : Bool} {it l : Addr} {xs : Array Value} : (feed t it l xs).it = it := by cases t <;> rfl
theorem feed_l {t : Bool} {it l : Addr} {xs : Array Value} : (feed t it l xs).l = l := by cases t <;> rfl
theorem feed_xs {t : Bool} {it l : Addr} {xs : Array Value} : (feed t it l xs).xs = xs := by cases t <;> rfl
theorem feed_src {t : Bool} {it l : Addr} {xs : Array Value} {h : Heap} (e : Stand t h l xs) : (feed t it l xs).src h := by cases t <;> exact e
abbrev io (t : Bool) (l : Addr) : Obj := { cls := .type (match t with | true => "tuple_iterator" | false => "list_iterator"), data := .fields #[.ref l, .int 0 0] }
theorem feed_new {t : Bool} {it l : Addr} {xs : Array Value} {h : Heap} (e : h.get? it = some (io t l)) : (feed t it l xs).st 0 h := by cases t <;> exact ⟨_, e, rfl, rfl⟩
abbrev n1 (t1 : Bool) (h : Heap) (l1 : Addr) : Heap := h.push (io t1 l1)
abbrev n2 (t1 t2 : Bool) (h : Heap) (l1 l2 : Addr) : Heap := (n1 t1 h l1).push (io t2 l2)
abbrev n3 (t1 t2 : Bool) (h : Heap) (l1 l2 : Addr) : Heap := (n2 t1 t2 h l1 l2).push { cls := .type "tuple", data := .seq #[.ref h.objs.size, .ref (n1 t1 h l1).objs.size] }
abbrev n4 (t1 t2 : Bool) (h : Heap) (l1 l2 : Addr) : Heap := (n3 t1 t2 h l1 l2).push { cls := .type "tuple", data := .seq #[.none, .none] }
abbrev n5 (t1 t2 : Bool) (h : Heap) (l1 l2 : Addr) : Heap := (n4 t1 t2 h l1 l2).push { cls := .type "zip", data := .fields #[.none, .bool false, .bool false, .ref (n2 t1 t2 h l1 l2).objs.size, .ref (n3 t1 t2 h l1 l2).objs.size] }
theorem new_tf (l1 l2 : Addr) (xs ys : Array Value) : Meets (Builtin.«zip.__new__» ⟨[.type "zip", .ref l1, .ref l2], []⟩) (fun _ R s => s.heap.IsTuple l1 xs ∧ s.heap.IsList l2 ys ∧ R (.ok (.ret (.ref (n4 true false s.heap l1 l2).objs.size))) { s with heap := n5 true false s.heap l1 l2 }) :=
  .of_wp fun prog w A R s h => by
    obtain ⟨hp, g, d, tk, os⟩ := s; obtain ⟨a1, a2, h⟩ := h; have hsub := sub_zip
    have b1 : (Shared.heap ⟨hp, g, d, tk, os⟩).IsTuple l1 xs := a1
    have b2 : (Shared.heap ⟨hp.push (io true l1), g, d, tk, os⟩).IsList l2 ys := Heap.IsList.push a2 _
    wp_walk using wpAny_pyIter_tuple b1, wpAny_pyIter_list b2
    exact ⟨_, rfl, h⟩
theorem new_ft (l1 l2 : Addr) (xs ys : Array Value) : Meets (Builtin.«zip.__new__» ⟨[.type "zip", .ref l1, .ref l2], []⟩) (fun _ R s => s.heap.IsList l1 xs ∧ s.heap.IsTuple l2 ys ∧ R (.ok (.ret (.ref (n4 false true s.heap l1 l2).objs.size))) { s with heap := n5 false true s.heap l1 l2 }) :=
  .of_wp fun prog w A R s h => by
    obtain ⟨hp, g, d, tk, os⟩ := s; obtain ⟨a1, a2, h⟩ := h; have hsub := sub_zip
    have b1 : (Shared.heap ⟨hp, g, d, tk, os⟩).IsList l1 xs := a1
    have b2 : (Shared.heap ⟨hp.push (io false l1), g, d, tk, os⟩).IsTuple l2 ys := Heap.IsTuple.push a2 _
    wp_walk using wpAny_pyIter_list b1, wpAny_pyIter_tuple b2
    exact ⟨_, rfl, h⟩
theorem new_any (t1 t2 : Bool) (l1 l2 : Addr) (xs ys : Array Value) : Meets (Builtin.«zip.__new__» ⟨[.type "zip", .ref l1, .ref l2], []⟩) (fun _ R s => Stand t1 s.heap l1 xs ∧ Stand t2 s.heap l2 ys ∧ R (.ok (.ret (.ref (n4 t1 t2 s.heap l1 l2).objs.size))) { s with heap := n5 t1 t2 s.heap l1 l2 }) := by
  cases t1 <;> cases t2
  · exact meets_zip_new l1 l2 xs ys
  · exact new_ft l1 l2 xs ys
  · exact new_tf l1 l2 xs ys
  · exact RZ.meets_zipT_new l1 l2 xs ys
section
variable {p : Program} {w : World} {A : Around} {E : Value → Shared → Prop} {s : Shared} {M N : Feed} {z TI TO : Addr} {i j : Nat} {a b : Value}
theorem zip_new {t1 t2 : Bool} {l1 l2 : Addr} {xs ys : Array Value} {Q : Value → Shared → Prop} (h1 : Stand t1 s.heap l1 xs) (h2 : Stand t2 s.heap l2 ys)
    (h : ∀ h', Stands (feed t1 s.heap.objs.size l1 xs) (feed t2 (s.heap.objs.size + 1) l2 ys) (s.heap.objs.size + 4) (s.heap.objs.size + 2) (s.heap.objs.size + 3) 0 0 h' → (∀ c o, s.heap.get? c = some o → h'.get? c = some o) → Q (.ref (s.heap.objs.size + 4)) { s with heap := h' }) :
    wpAny (model p w) A (call (.type "zip") [.ref l1, .ref l2]) Q E s := by
  refine callType_new F.called_zip (by decide) (F.typeCall_zip_2 _ _) (F.newCall_zip_2 _ _) (fun obj => F.args_object_init_3 obj _ _) F.entry_zip_new (new_any t1 t2 l1 l2 xs ys) ⟨h1, h2, ?_⟩
  have c1 : (n1 t1 s.heap l1).objs.size = s.heap.objs.size + 1 := Heap.size_push ..
  have c2 : (n2 t1 t2 s.heap l1 l2).objs.size = s.heap.objs.size + 2 := by rw [Heap.size_push, c1]
  have c3 : (n3 t1 t2 s.heap l1 l2).objs.size = s.heap.objs.size + 3 := by rw [Heap.size_push, c2]
  have c4 : (n4 t1 t2 s.heap l1 l2).objs.size = s.heap.objs.size + 4 := by rw [Heap.size_push, c3]
  have e5 : (n5 t1 t2 s.heap l1 l2).get? (n4 t1 t2 s.heap l1 l2).objs.size = some _ := Heap.get?_push_size _ rfl
  have e4 : (n5 t1 t2 s.heap l1 l2).get? (n3 t1 t2 s.heap l1 l2).objs.size = some _ := Heap.get?_push_of_some _ (Heap.get?_push_size _ rfl)
  have e3 : (n5 t1 t2 s.heap l1 l2).get? (n2 t1 t2 s.heap l1 l2).objs.size = some _ := Heap.get?_push_of_some _ (Heap.get?_push_of_some _ (Heap.get?_push_size _ rfl))
  have e2 : (n5 t1 t2 s.heap l1 l2).get? (n1 t1 s.heap l1).objs.size = some _ := Heap.get?_push_of_some _ (Heap.get?_push_of_some _ (Heap.get?_push_of_some _ (Heap.get?_push_size _ rfl)))
  have e1 : (n5 t1 t2 s.heap l1 l2).get? s.heap.objs.size = some _ := Heap.get?_push_of_some _ (Heap.get?_push_of_some _ (Heap.get?_push_of_some _ (Heap.get?_push_of_some _ (Heap.get?_push_size _ rfl))))
  show _ ∧ _
  rw [c2, c3, c4] at e5; rw [c1, c2] at e3; rw [c3] at e4; rw [c1] at e2; rw [c4]
  refine ⟨⟨_, e5, rfl⟩, h _ ⟨e5, by rw [feed_it, feed_it]; exact e3, ⟨_, _, e4⟩, feed_new e1, feed_new e2⟩ fun c o x => ?_⟩
  exact Heap.get?_push_of_some _ (Heap.get?_push_of_some _ (Heap.get?_push_of_some _ (Heap.get?_push_of_some _ (Heap.get?_push_of_some _ x))))
theorem turn_item {x y : Value} {Q : Option Value → Shared → Prop} (D : ZipApart z TI TO M.it N.it M.l N.l) (st : Stands M N z TI TO i j s.heap) (sf : M.src s.heap) (sg : N.src s.heap) (hx : M.xs[i]? = some x) (hy : N.xs[j]? = some y)
    (hQ : ∀ h', IsZip h' z TI TO (rawInt s.heap.objs.size) → IsPair h' TO x y → M.st (i + 1) h' → N.st (j + 1) h' → IsPair h' s.heap.objs.size x y → h'.objs.size = s.heap.objs.size + 1 →
      (∀ c o, c ≠ z → c ≠ TO → c ≠ M.it → c ≠ N.it → s.heap.get? c = some o → h'.get? c = some o) → Q (some (.ref s.heap.objs.size)) { s with heap := h' }) : wpAny (model p w) A (pyNext (.ref z)) Q E s := by
  have ty : s.TypeIs (.ref z) "zip" := ⟨_, st.z, rfl⟩
  unfold pyNext
  refine wpAny_bind (wpAny_attempt (wpAny_callSpecial?_slot (name := Str.ofString "__next__") ty F.slot_zip_next (wpAny_call_entry F.slot_zip_next ty F.entry_zip_next ?_ (F.args_zip_next_1 _))))
  exact next_item D st sf sg hx hy fun h' a1 a2 a3 a4 a5 a6 a7 => wpAny_pure (hQ h' a1 a2 a3 a4 a5 a6 a7)
theorem turn_end {Q : Option Value → Shared → Prop} (hh : A.handled = none) (D : ZipApart z TI TO M.it N.it M.l N.l) (st : Stands M N z TI TO i j s.heap) (sf : M.src s.heap) (sg : N.src s.heap) (hend : M.xs[i]? = none ∨ N.xs[j]? = none)
    (hQ : ∀ h', (∀ c o, c ≠ z → c ≠ TO → c ≠ M.it → c ≠ N.it → s.heap.get? c = some o → h'.get? c = some o) → Q none { s with heap := h' }) : wpAny (model p w) A (pyNext (.ref z)) Q E s := by
  have ty : s.TypeIs (.ref z) "zip" := ⟨_, st.z, rfl⟩
  unfold pyNext
  refine wpAny_bind (wpAny_attempt (wpAny_callSpecial?_slot (name := Str.ofString "__next__") ty F.slot_zip_next (wpAny_call_entry F.slot_zip_next ty F.entry_zip_next (next_end hh D st sf sg hend fun h' e k he => ?_) (F.args_zip_next_1 _))))
  obtain ⟨o, h1, h2⟩ := he
  exact wpAny_bind (wpAny_isInstance (T := "StopIteration") (b := true) ⟨o, h1, h2⟩ isSubtype_stop (wpAny_pure (hQ _ k)))
end
end ZX

set_option Elab.async false
set_option linter.all false
set_option maxRecDepth 100000
set_option maxHeartbeats 4000000
/-! comprehensions over zip -/
namespace DL
open PySem PySem.Spec PyProof.Rows L2 ZX
/-- t: a tuple, else a list -/
def SqB (K : PySem.W.Frag) : Bool → Hp → Addr → List V → Prop
  | true => fun H a xs => SqT K H a xs
  | false => fun H a xs => SqL K H a xs
theorem SqB.stand {X : Cx} {pins : List (Addr × Obj)} {σ : L2.St} {H : Hp} {s : Shared} {t : Bool} {a : Addr} {xs : List V} (I : Inv X pins σ H s) (h : SqB X.K t H a xs) : ∃ its : List Value, Vals xs its ∧ Stand t s.heap a its.toArray := by
  cases t with
  | true =>
    obtain ⟨its, rv, q, _⟩ := I.tuple h
    exact ⟨its, rv, q⟩
  | false =>
    obtain ⟨its, rv, q, _⟩ := I.list h
    exact ⟨its, rv, q.isList⟩
theorem SqB.inj {X : Cx} {pins : List (Addr × Obj)} {σ : L2.St} {H : Hp} {s : Shared} {t : Bool} {a : Addr} {xs ys : List V} (I : Inv X pins σ H s) (h : SqB X.K t H a xs) (h' : SqB X.K t H a ys) : xs = ys := by
  cases t with
  | true => exact I.tuple_inj h h'
  | false => exact I.list_inj h h'
theorem stand_lt {t : Bool} {h : Heap} {a : Addr} {xs : Array Value} (e : Stand t h a xs) : a < h.objs.size := by
  cases t <;> obtain ⟨o, e, _⟩ := e <;> exact Heap.lt_size e
/-- the two sequences as they stand at each turn, the items in new pairs -/
def Itm (K : PySem.W.Frag) (t u : Bool) (a b : Addr) : It where
  go := fun i H => ∃ (xs ys : List V) (x y : V), SqB K t H a xs ∧ SqB K u H b ys ∧ xs[i]? = some x ∧ ys[i]? = some y
  yld := fun i H v H' => ∃ T x y, v = .ref T ∧ H T = none ∧ H' = upd H T (.tup [x, y]) ∧ (∀ xs, SqB K t H a xs → xs[i]? = some x) ∧ ∀ ys, SqB K u H b ys → ys[i]? = some y
  stop := fun i H => ∃ xs ys : List V, SqB K t H a xs ∧ SqB K u H b ys ∧ (xs.length ≤ i ∨ ys.length ≤ i)
/-- the iterators go through a, b, whatever these hold -/
def Goes (t u : Bool) (i1 i2 a b z TI TO : Addr) (i : Nat) (h : Heap) : Prop := Stands (feed t i1 a #[]) (feed u i2 b #[]) z TI TO i i h
theorem feed_st {t : Bool} {it l : Addr} {xs ys : Array Value} {k : Nat} {h : Heap} : (feed t it l xs).st k h ↔ (feed t it l ys).st k h := by cases t <;> exact Iff.rfl
theorem stands_of {t u : Bool} {i1 i2 a b z TI TO : Addr} {i : Nat} {h : Heap} {xs ys xs' ys' : Array Value} (s : Stands (feed t i1 a xs) (feed u i2 b ys) z TI TO i i h) : Stands (feed t i1 a xs') (feed u i2 b ys') z TI TO i i h :=
  ⟨s.z, by have q := s.ti; rw [feed_it, feed_it] at q ⊢; exact q, s.to, feed_st.mp s.f, feed_st.mp s.g⟩
theorem apart_of {t u : Bool} {i1 i2 a b z TI TO : Addr} {xs ys : Array Value} (D : ZipApart z TI TO i1 i2 a b) : ZipApart z TI TO (feed t i1 a xs).it (feed u i2 b ys).it (feed t i1 a xs).l (feed u i2 b ys).l := by
  rw [feed_it, feed_it, feed_l, feed_l]
  exact D
theorem turn_m {P : Program} {w : World} {K : PySem.W.Frag} {elts : List Expr} {kk : Nat} {tpos : Pos} {t u : Bool} {a b z TI TO i1 i2 : Addr} (D : ZipApart z TI TO i1 i2 a b) : Turn P w K (.Tuple elts kk tpos) (Itm K t u a b) [z, TI, TO, i1, i2] z (Goes t u i1 i2 a b z TI TO) where
  mem := by simp
  obj := fun i h st c hc => by
    obtain ⟨x, y, hTO⟩ := st.to
    have e' : c = z ∨ c = TI ∨ c = TO ∨ c = i1 ∨ c = i2 := by simpa using hc
    rcases e' with q | q | q | q | q
    · subst q; exact ⟨_, st.z, fun v q => nomatch q⟩
    · subst q; exact ⟨_, st.ti, fun v q => nomatch q⟩
    · subst q; exact ⟨_, hTO, fun v q => nomatch q⟩
    · subst q; have r := (feed t c a #[]).obj st.f; rw [feed_it] at r; exact r
    · subst q; have r := (feed u c b #[]).obj st.g; rw [feed_it] at r; exact r
  keep := fun i h h' st k => by
    obtain ⟨x, y, hTO⟩ := st.to
    refine ⟨k z (by simp) _ st.z, k TI (by simp) _ st.ti, ⟨x, y, k TO (by simp) _ hTO⟩, (feed t i1 a #[]).same st.f fun o q => ?_, (feed u i2 b #[]).same st.g fun o q => ?_⟩
    · rw [feed_it] at q ⊢; exact k i1 (by simp) o q
    · rw [feed_it] at q ⊢; exact k i2 (by simp) o q
  item := by
    intro X hP hw hK hc i pins s σ H E I hf st hg
    subst hP hw hK
    obtain ⟨xs, ys, x, y, qx, qy, hx, hy⟩ := hg
    obtain ⟨m1, r1, p1⟩ := qx.stand I
    obtain ⟨m2, r2, p2⟩ := qy.stand I
    obtain ⟨v1, e1, rv1⟩ := r1.get hx
    obtain ⟨v2, e2, rv2⟩ := r2.get hy
    have st' : Stands (feed t i1 a m1.toArray) (feed u i2 b m2.toArray) z TI TO i i s.heap := stands_of st
    have zlt : z < s.heap.objs.size := Heap.lt_size st.z
    refine turn_item (apart_of D) st' (feed_src p1) (feed_src p2) (x := v1) (y := v2) (by rw [feed_xs]; simpa using e1) (by rw [feed_xs]; simpa using e2) fun h' z' t' f' g' T' size' keep => ?_
    rw [feed_it, feed_it] at keep
    refine ⟨_, rfl, wpAny_letOwnedTupleGo_zip (s := { s with heap := h' }) z' fun h'' z'' sb => ?_⟩
    have T2 : h''.get? s.heap.objs.size = some { cls := .type "tuple", data := .seq #[v1, v2] } := (sb.2 _ (Nat.ne_of_gt zlt)).trans T'
    have new : ObjOk X.prog X.w (upd H s.heap.objs.size (.tup [x, y])) h'' s.heap.objs.size (.tup [x, y]) := ⟨by show 2 ≤ sizeLine; decide, [v1, v2], .cons rv1 (.cons rv2 .nil), ⟨_, T2, rfl, _, rfl⟩⟩
    have far : ∀ c, c ∉ [z, TI, TO, i1, i2] → c ≠ z ∧ c ≠ TO ∧ c ≠ i1 ∧ c ≠ i2 := fun c hb => ⟨fun q => hb (by simp [q]), fun q => hb (by simp [q]), fun q => hb (by simp [q]), fun q => hb (by simp [q])⟩
    have I1 : Inv X pins σ (upd H s.heap.objs.size (.tup [x, y])) { s with heap := h'' } :=
      I.turnedNew (t' := s.toks) (ch := [z, TI, TO, i1, i2]) (fun c o hb q => let ⟨q1, q2, q3, q4⟩ := far c hb; (sb.2 c q1).trans (keep c o q1 q2 q3 q4 q)) hf (Nat.le_refl _) new
    refine ⟨.ref s.heap.objs.size, _, I1, rfl, ⟨_, x, y, rfl, I.hok.fresh (Nat.le_refl _), rfl, fun l hl => by rw [hl.inj I qx]; exact hx, fun l hl => by rw [hl.inj I qy]; exact hy⟩, ⟨z'', ?_, ⟨v1, v2, ?_⟩, ?_, ?_⟩, fun c hcm => ?_⟩
    · have e := keep _ _ D.TIz D.TITO D.TIi1 D.TIi2 st.ti
      exact (sb.2 _ D.TIz).trans e
    · exact (sb.2 _ D.TOz).trans t'
    · refine feed_st.mp ((feed t i1 a m1.toArray).same f' fun o q => ?_)
      rw [feed_it] at q ⊢
      exact (sb.2 _ D.i1z).trans q
    · refine feed_st.mp ((feed u i2 b m2.toArray).same g' fun o q => ?_)
      rw [feed_it] at q ⊢
      exact (sb.2 _ D.i2z).trans q
    · have lt : c < s.heap.objs.size := by
        have e' : c = z ∨ c = TI ∨ c = TO ∨ c = i1 ∨ c = i2 := by simpa using hcm
        rcases e' with q | q | q | q | q
        · rw [q]; exact zlt
        · rw [q]; exact Heap.lt_size st.ti
        · obtain ⟨_, _, e⟩ := st.to; rw [q]; exact Heap.lt_size e
        · obtain ⟨_, e, _⟩ := (feed t i1 a #[]).obj st.f; rw [feed_it] at e; rw [q]; exact Heap.lt_size e
        · obtain ⟨_, e, _⟩ := (feed u i2 b #[]).obj st.g; rw [feed_it] at e; rw [q]; exact Heap.lt_size e
      rw [upd_ne (Nat.ne_of_lt lt)]
      exact (hf c hcm).1
  done := by
    intro X hP hw hK hc i pins s σ H E I hf st hg
    subst hP hw hK
    obtain ⟨xs, ys, qx, qy, hend⟩ := hg
    obtain ⟨m1, r1, p1⟩ := qx.stand I
    obtain ⟨m2, r2, p2⟩ := qy.stand I
    have l1 := r1.length
    have l2 := r2.length
    have st' : Stands (feed t i1 a m1.toArray) (feed u i2 b m2.toArray) z TI TO i i s.heap := stands_of st
    refine turn_end (I.ok.hd hc) (apart_of D) st' (feed_src p1) (feed_src p2) ?_ fun h' keep => ?_
    · rw [feed_xs, feed_xs]
      rcases hend with q | q
      · exact .inl (by simp; omega)
      · exact .inr (by simp; omega)
    · rw [feed_it, feed_it] at keep
      exact ⟨rfl, I.turnedL (t' := s.toks) (ch := [z, TI, TO, i1, i2]) (fun c o hb q => keep c o (fun q' => hb (by simp [q'])) (fun q' => hb (by simp [q'])) (fun q' => hb (by simp [q'])) (fun q' => hb (by simp [q'])) q) hf⟩
  self := fun A i s Q E st h => wpAny_pyIter_zip st.z h
def iZm (K : PySem.W.Frag) (ta : TA) : TI := fun σ H R => ta σ H fun vs H1 => ∃ t u a b xs ys, vs = [.ref a, .ref b] ∧ SqB K t H1 a xs ∧ SqB K u H1 b ys ∧ R (Itm K t u a b) H1
theorem pi_zm {X : Cx} {e e2 : Expr} {ta : TA} {p pos tpos : Pos} {elts : List Expr} {kk : Nat} (hg : Gl X "zip") (hm : X.mg "zip" = none) (ha : PA X [e, e2] ta)
    (hs : starEach [e, e2] X.env = (false, eval e X.env) :: starEach [e2] X.env) (hpl : (backTo pos (starEach [e2] X.env)).any (·.1) = false) : PI X (.Tuple elts kk tpos) (.Call (.Name "zip" p) [e, e2] [] pos) (iZm X.K ta) := by
  refine ⟨fun pins s σ H R I h => Call_ (ld_blt I hg hm PyProof.Rows.boot_zip (PyProof.Rows.callWith_type1 (thn (ha.run pos pins s σ H _ I h) fun us s1 ⟨vs, H1, I1, rv, q1⟩ => ?_) hs hpl))⟩
  obtain ⟨t, u, a, b, xs, ys, rfl, qx, qy, q⟩ := q1
  obtain ⟨v1, v2, rfl, r1, r2⟩ := (show ∃ v1 v2, us = [v1, v2] ∧ RelV (.ref a) v1 ∧ RelV (.ref b) v2 from by
    cases rv with
    | cons r rr => cases rr with
      | cons r' rr => cases rr; exact ⟨_, _, rfl, r, r'⟩)
  cases r1
  cases r2
  obtain ⟨m1, w1, p1⟩ := qx.stand I1
  obtain ⟨m2, w2, p2⟩ := qy.stand I1
  refine zip_new p1 p2 fun h' st hk => wpAny_pyIter_zip st.z ?_
  have I2 : Inv X pins σ H1 { s1 with heap := h' } := I1.kept (t' := s1.toks) hk
  refine ⟨s1.heap.objs.size + 4, [s1.heap.objs.size + 4, s1.heap.objs.size + 2, s1.heap.objs.size + 3, s1.heap.objs.size, s1.heap.objs.size + 1], _, _, H1, rfl, I2, turn_m (PySem.W.ktu_apart s1.heap.objs.size a b (stand_lt p1) (stand_lt p2)), stands_of st, fun c hc => ?_, q⟩
  have le : s1.heap.objs.size ≤ c := by
    have e' : c = s1.heap.objs.size + 4 ∨ c = s1.heap.objs.size + 2 ∨ c = s1.heap.objs.size + 3 ∨ c = s1.heap.objs.size ∨ c = s1.heap.objs.size + 1 := by simpa using hc
    rcases e' with q | q | q | q | q <;> rw [q]
    · exact Nat.le_add_right _ _
    · exact Nat.le_add_right _ _
    · exact Nat.le_add_right _ _
    · exact Nat.le_refl _
    · exact Nat.le_add_right _ _
  exact I1.fpOk le (I1.hok.fresh le)

/-- a list or a tuple of these -/
def SeqD (d : D) (l : List D) : Prop := d = .lst l ∨ d = .tup l
theorem SeqD.at {K : PySem.W.Frag} {I : Hp} {d : D} {l : List D} {v : V} (s : SeqD d l) (n : Dn K I d v) : ∃ t a xs, v = .ref a ∧ Dns K I l xs ∧ ∀ H, Ex I H → SqB K t H a xs := by
  rcases s with rfl | rfl
  · cases n with
    | lst h m => exact ⟨false, _, _, rfl, m, fun H e => SqL.of (e _ _ h)⟩
  · cases n with
    | tup h m => exact ⟨true, _, _, rfl, m, fun H e => SqT.of (e _ _ h)⟩
section
variable {X : Cx} {B : Hp} {S : En} {pos : Pos} {e e2 : Expr}
/-- [elt for g in zip(e, e2)] -/
theorem fd_lcZ {elt : Expr} {elts : List Expr} {kk : Nat} {tpos p1 pos1 : Pos} {scope : Scope} {own : List (Str × Nat)} {g : TG} {Q : List D → Prop} (l l' : List D) (J : Nat → List D → Prop) (S' : D → D → En) (hc : X.calm = true) (hN : X.N.Nodup) (hm : X.mg "zip" = none) (ok : BlkOk X.N X.env.scope scope own)
    (hg : ∀ (s : Shared) (H : Hp) (C : Addr) (cl : List (Str × Addr)) (fp : List Addr), PG (X.blk s H scope (compEnvC scope cl C X.env) fp) (.Tuple elts kk tpos) g)
    (h : AD X B S [e, e2] fun as => ∃ d d', as = [.val d, .val d'] ∧ SeqD d l ∧ SeqD d' l' ∧ l.length ≤ 50000 ∧ J 0 []) (hp : ∀ d d', Pat X.K g (own.map (·.2)) S (.tup [d, d']) (S' d d'))
    (he : ∀ (i : Nat) d d' acc, l[i]? = some d → l'[i]? = some d' → acc.length = i → J i acc → ∀ (s : Shared) (H0 : Hp) (C : Addr) (cl : List (Str × Addr)) (fp : List Addr), ED (X.blk s H0 scope (compEnvC scope cl C X.env) fp) B (S' d d') elt fun y => J (i + 1) (acc ++ [y]))
    (hd : ∀ acc i, acc.length = i → J i acc → i ≤ l.length → i ≤ l'.length → (l.length ≤ i ∨ l'.length ≤ i) → Q acc) (hgl : Gl X "zip" := by rfl)
    (hst : starEach [e, e2] X.env = (false, eval e X.env) :: starEach [e2] X.env := by rfl) (hpl : (backTo pos1 (starEach [e2] X.env)).any (·.1) = false := by rfl)
    (hs : ∀ x, foldedSetIterable (.Call (.Name "zip" p1) [e, e2] [] pos1) X.env x = pure x := by intro _; rfl) : FD X B S (.ListComp elt [⟨.Tuple elts kk tpos, .Call (.Name "zip" p1) [e, e2] [] pos1, [], 0⟩] scope pos) Q := fun σ W H r R k => by
  refine PE.w (pe_lc (te := WEb X scope elt) hc hN (pi_zm hgl hm wa_pa hst hpl) ok hg (fun _ _ _ _ _ => pts_nil) web_pe hs) ?_
  refine h σ W H r _ fun as vs W1 H1 s1 ok1 n1 q1 => ?_
  obtain ⟨d, d', rfl, sd, sd', hz, j0⟩ := q1
  obtain ⟨v, v', rfl, m, m'⟩ := two_args n1
  obtain ⟨t, a, xs, rfl, w, hx⟩ := sd.at m
  obtain ⟨u, b, ys, rfl, w', hy⟩ := sd'.at m'
  refine ⟨t, u, a, b, xs, ys, rfl, hx _ ok1.ex, hy _ ok1.ex, fun p hp0 => ?_⟩
  have r1 := r.step s1 ok1
  refine ⟨fun i n H' => n = xs.length - i ∧ i ≤ xs.length ∧ i ≤ ys.length ∧ ∃ acc W', Mid X.K (gOf X) W1 H1 p acc W' H' ∧ acc.length = i ∧ J i acc, ⟨xs.length, rfl, Nat.zero_le _, Nat.zero_le _, [], W1, ⟨Stp.own hp0, ok1.own hp0, ok1.notP hp0, ok1.free hp0, [], upd_same, .nil⟩, rfl, j0⟩, ?_⟩
  rintro i n H' ⟨rfl, lx, ly, acc, W', mm, hl, j⟩
  have qx := hx H' fun c o z => mm.ok.ex _ _ (mm.st.I _ _ z)
  have qy := hy H' fun c o z => mm.ok.ex _ _ (mm.st.I _ _ z)
  by_cases c : i < xs.length ∧ i < ys.length
  · have ex : xs[i]? = some xs[i] := List.getElem?_eq_getElem c.1
    have ey : ys[i]? = some ys[i] := List.getElem?_eq_getElem c.2
    refine .inr ⟨⟨xs, ys, _, _, qx, qy, ex, ey⟩, fun H' => ∃ acc W', Mid X.K (gOf X) W1 H1 p acc W' H' ∧ acc.length = i + 1 ∧ J (i + 1) acc, fun H2 z => ⟨xs.length - (i + 1), by omega, rfl, c.1, c.2, z⟩, ?_⟩
    rintro x H2 ⟨T, x1, y1, rfl, hT, rfl, f1, f2⟩
    have e1 := f1 xs qx
    have e2 := f2 ys qy
    obtain ⟨d1, hd1, nd1⟩ := w.get e1
    obtain ⟨d2, hd2, nd2⟩ := w'.get e2
    have sn := Stp.new (o := .tup [x1, y1]) mm.ok hT
    have okn := mm.ok.new (o := .tup [x1, y1]) hT
    have mn := mm.step sn okn
    have nt : Dn X.K (W'.new T (.tup [x1, y1])).I (.tup [d1, d2]) (.ref T) := .tup upd_same (.cons ((nd1.mono mm.st.I).mono sn.I) (.cons ((nd2.mono mm.st.I).mono sn.I) .nil))
    refine hp d1 d2 (gOf X) B σ _ _ _ ((r1.step mm.st mm.ok).step sn okn) nt _ fun σ2 e3 r3 => ⟨e3, ?_⟩
    show WEb X scope elt σ2 _ _
    intro s H0 C cl fp
    refine he i d1 d2 acc hd1 hd2 hl j s H0 C cl fp σ2 _ _ r3 _ fun y v W2 H3 s2 ok2 n2 q2 => ?_
    have li : i < l.length := by rw [w.length]; exact c.1
    obtain ⟨xs', g1, g3, m3⟩ := (mn.step s2 ok2).more hp0 n2 (by omega)
    exact ⟨xs', g1, g3, _, W2, m3, by simp [hl], q2⟩
  · refine .inl ⟨⟨xs, ys, qx, qy, by omega⟩, ?_⟩
    obtain ⟨zs, hH, ds⟩ := mm.h
    refine k acc p zs W' H' (s1.trans ok1 mm.st) mm.ok (s1.free ok1 hp0) mm.n mm.i hH ds (hd acc i hl j ?_ ?_ ?_)
    · rw [w.length]; exact lx
    · rw [w'.length]; exact ly
    · rw [w.length, w'.length]; omega
end
end DL

set_option Elab.async false
set_option linter.all false
set_option maxRecDepth 100000
set_option maxHeartbeats 4000000
/-! a list of lists that change -/
namespace DL
open PySem PySem.Spec PyProof.Rows L2
theorem ok_upd {g : List Code} {W : Wd} {H : Hp} {q : Addr} {o : HO} (ok : Ok g W H) (n : ¬ W.P q) (i : W.I q = none) (ht : ∀ xs, o ≠ .tup xs := by exact fun _ z => by cases z) : Ok g W (upd H q o) where
  gd := fun b hb => by
    obtain ⟨n1, n2⟩ := ok.gd b hb
    refine ⟨n1, ?_⟩
    by_cases z : b = q
    · subst z
      rw [upd_same]
      exact ⟨(fun z => by cases z), (fun _ z => ht _ (Option.some.inj z))⟩
    · rw [upd_ne z]
      exact n2
  ex := fun b u hb => by
    rw [upd_ne (fun y => by rw [y, i] at hb; cases hb)]
    exact ok.ex b u hb
  pot := fun b hb => by
    obtain ⟨nb, y2, w2, h2⟩ := ok.pot b hb
    have ne : b ≠ q := fun y => n (y ▸ hb)
    exact ⟨nb, y2, w2, by rw [upd_ne ne]; exact h2⟩
theorem stp_upd {W W0 : Wd} {B H : Hp} {q : Addr} {o : HO} (z : Stp W0 B W H) (hB : B q = none) : Stp W0 B W (upd H q o) :=
  ⟨z.I, z.P, fun b u hb hn => by rw [upd_ne (ne_of_none hb hB)]; exact z.keep b u hb hn, z.old, z.oldP⟩
theorem ixN_lt {n j : Nat} (hj : j < n) : ixN n (j : Int) = some j := by
  unfold ixN
  rw [if_pos (by omega), if_pos (by omega), Int.toNat_natCast]
/-- a new list at p of new lists at qs: each at one place alone -/
structure Nest (K : PySem.W.Frag) (B : Hp) (W : Wd) (H : Hp) (p : Addr) (qs : List Addr) (rows : List (List D)) : Prop where
  b : B p = none
  n : ¬ W.P p
  i : W.I p = none
  h : H p = some (.lst (qs.map V.ref))
  nd : (p :: qs).Nodup
  len : qs.length = rows.length
  row : ∀ (j : Nat) q l, qs[j]? = some q → rows[j]? = some l → B q = none ∧ ¬ W.P q ∧ W.I q = none ∧ ∃ xs, H q = some (.lst xs) ∧ Dns K W.I l xs
section
variable {K : PySem.W.Frag} {B : Hp} {W W1 : Wd} {H H1 : Hp} {p : Addr} {qs : List Addr} {rows : List (List D)}
end
def plainS : Option Sl → Bool
  | some (.own _) => false
  | some (.ownT _) => false
  | some (.inst _ _ _ _) => false
  | _ => true
def PlainE (S : En) : Bool := S.all plainS
structure NEnds where
  nx : En → List (List D) → Prop
  rt : D → Prop
structure NSub (K : PySem.W.Frag) (g : List Code) (B : Hp) (W0 : Wd) (I : Hp) (p : Addr) (qs : List Addr) (E : NEnds) (D' : Ends) : Prop where
  nx : ∀ S σ W H rows, Rep K g B S σ W H → PlainE S = true → Nest K B W H p qs rows → Stp W0 B W H → Ex I W.I → E.nx S rows → D'.nx σ H
  rt : ∀ d v W H, Ok g W H → Stp W0 B W H → Ex I W.I → Dn K W.I d v → E.rt d → D'.rt v H
section
variable (X : Cx) (B : Hp) (W0 : Wd) (p : Addr) (qs : List Addr) (S : En) (rows : List (List D))
def NED (e : Expr) (Q : D → Prop) : Prop := ∀ σ W H, Rep X.K (gOf X) B S σ W H → Nest X.K B W H p qs rows → ∀ R, Cont X.K (gOf X) W H Q R → WE X e σ H R
def NGD (tg : Expr) (d : D) (Q : List (List D) → Prop) : Prop := ∀ σ W H v, Rep X.K (gOf X) B S σ W H → PlainE S = true → Nest X.K B W H p qs rows → Stp W0 B W H → Dn X.K W.I d v → ∀ R, (∀ rows' H', Rep X.K (gOf X) B S σ W H' → Nest X.K B W H' p qs rows' → Stp W0 B W H' → Q rows' → R σ H') → WG X tg v σ H R
def NSD (st : Stmt) (E : NEnds) : Prop := ∀ σ W H, Rep X.K (gOf X) B S σ W H → PlainE S = true → Nest X.K B W H p qs rows → Stp W0 B W H → ∀ D', NSub X.K (gOf X) B W0 W.I p qs E D' → WS X st D' σ H
def NSDs (sts : List Stmt) (E : NEnds) : Prop := ∀ σ W H, Rep X.K (gOf X) B S σ W H → PlainE S = true → Nest X.K B W H p qs rows → Stp W0 B W H → ∀ D', NSub X.K (gOf X) B W0 W.I p qs E D' → WSs X sts D' σ H
end
section
variable {X : Cx} {B : Hp} {W0 : Wd} {p : Addr} {qs : List Addr} {S : En} {rows : List (List D)} {st : Stmt} {sts : List Stmt} {E : NEnds} {pos : Pos} {e a b c : Expr} {Q : D → Prop}
end
end DL

set_option Elab.async false
set_option linter.all false
set_option maxRecDepth 100000
set_option maxHeartbeats 4000000
/-! lists of lists: made, given away; an owned list changed at a place, shortened -/
namespace DL
open PySem PySem.Spec PyProof.Rows L2
theorem Rep.putOwn {K : PySem.W.Frag} {g : List Code} {B : Hp} {S : En} {σ : L2.St} {W : Wd} {H : Hp} {i : Nat} {l l' : List D} {p : Addr} {xs xs' : List V} (r : Rep K g B S σ W H) (h : S[i]? = some (some (.own l))) (e1 : σ[i]? = some (some (.ref p))) (hB : B p = none) (n : ¬ W.P p) (hI : W.I p = none) (hH : H p = some (.lst xs)) (d : Dns K W.I l' xs') :
    Rep K g B (S.set i (some (.own l'))) σ W (upd H p (.lst xs')) := by
  have lt : i < S.length := (List.getElem?_eq_some_iff.mp h).1
  refine ⟨ok_upd r.ok n hI, r.gb, by simpa using r.len, fun j s ej => ?_, fun a b la lb q ne e2 e3 e4 => ?_, r.distT.setS i fun l z => by cases z⟩
  · by_cases q : i = j
    · subst q
      rw [List.getElem?_set_self lt] at ej
      cases ej
      exact ⟨_, e1, p, _, rfl, hB, n, hI, upd_same, d⟩
    · rw [List.getElem?_set_ne q] at ej
      obtain ⟨v2, e2, h2⟩ := r.sl j s ej
      refine ⟨v2, e2, ?_⟩
      cases s with
      | val d2 => exact h2
      | pot => exact h2
      | own m =>
        obtain ⟨p2, ys, rfl, b1, b2, b3, b4, b5⟩ := h2
        refine ⟨p2, ys, rfl, b1, b2, b3, ?_, b5⟩
        rw [upd_ne (fun y => by
          rw [y] at e2
          exact r.dist i j l m p q h ej e1 e2)]
        exact b4
      | ownT m =>
        obtain ⟨p2, ys, rfl, b1, b2, b3, b4, b5⟩ := h2
        refine ⟨p2, ys, rfl, b1, b2, b3, ?_, b5⟩
        rw [upd_ne (fun y => by rw [y, hH] at b4; cases b4)]
        exact b4
      | inst C p2 dx fs =>
        obtain ⟨vs, rfl, b1, b2, b3, b4, b5, b6, b7, b8, b9, b10⟩ := h2
        refine ⟨vs, rfl, b1, b2, b3, b4, b5, b6, b7, ?_, ?_, b10⟩
        · rw [upd_ne (fun y => by rw [y, hH] at b8; cases b8)]
          exact b8
        · rw [upd_ne (fun y => by rw [y, hH] at b9; cases b9)]
          exact b9
  · have g : ∀ {c : Nat} {m : List D}, (S.set i (some (.own l')))[c]? = some (some (.own m)) → ∃ m', S[c]? = some (some (.own m')) := fun {c m} ec => by
      by_cases q2 : i = c
      · subst q2
        exact ⟨l, h⟩
      · rw [List.getElem?_set_ne q2] at ec
        exact ⟨m, ec⟩
    obtain ⟨m1, g1⟩ := g e2
    obtain ⟨m2, g2⟩ := g e3
    exact r.dist a b m1 m2 q ne g1 g2 e4
section
variable {K : PySem.W.Frag} {g : List Code} {B : Hp} {W0 W : Wd} {H : Hp} {p : Addr} {qs : List Addr} {rows : List (List D)}
end
section
variable (X : Cx) (B : Hp) (W0 : Wd) (p : Addr) (qs : List Addr) (S : En) (rows : List (List D))
/-- from lists of lists on, to where they are given away -/
def NF (st : Stmt) (E : Ends') : Prop := ∀ σ W H, Rep X.K (gOf X) B S σ W H → PlainE S = true → Nest X.K B W H p qs rows → Stp W0 B W H → ∀ D', Sub X.K (gOf X) B W0 W.I E D' → WS X st D' σ H
def NFs (sts : List Stmt) (E : Ends') : Prop := ∀ σ W H, Rep X.K (gOf X) B S σ W H → PlainE S = true → Nest X.K B W H p qs rows → Stp W0 B W H → ∀ D', Sub X.K (gOf X) B W0 W.I E D' → WSs X sts D' σ H
/-- an expression that makes such lists -/
def NE (S : En) (e : Expr) (Q : List (List D) → Prop) : Prop := ∀ σ W H, Rep X.K (gOf X) B S σ W H → ∀ R : VK, (∀ p qs rows W' H', Stp W H W' H' → Ok (gOf X) W' H' → Nest X.K H W' H' p qs rows → Q rows → R (.ref p) H') → WE X e σ H R
end
section
variable {X : Cx} {B : Hp} {W0 : Wd} {p : Addr} {qs : List Addr} {S : En} {rows : List (List D)} {st : Stmt} {sts : List Stmt} {E : Ends'} {pos : Pos} {e e2 a b c : Expr}
end
end DL

set_option Elab.async false
set_option linter.all false
set_option maxRecDepth 100000
set_option maxHeartbeats 4000000
/-! lists of lists by comprehensions; x[i].append, x.pop(i), x[i] = .. -/
namespace DL
open PySem PySem.Spec PyProof.Rows L2
theorem dns_take {K : PySem.W.Frag} {I : Hp} : ∀ (n : Nat) {l : List D} {xs : List V}, Dns K I l xs → Dns K I (l.take n) (xs.take n)
  | 0, _, _, _ => .nil
  | _ + 1, _, _, .nil => .nil
  | n + 1, _, _, .cons h r => .cons h (dns_take n r)
theorem dns_drop {K : PySem.W.Frag} {I : Hp} : ∀ (n : Nat) {l : List D} {xs : List V}, Dns K I l xs → Dns K I (l.drop n) (xs.drop n)
  | 0, _, _, h => h
  | _ + 1, _, _, .nil => .nil
  | n + 1, _, _, .cons h r => dns_drop n r
def NLC (X : Cx) (B : Hp) (S : En) (t : TE) (Q : List (List D) → Prop) : Prop := ∀ σ W H, Rep X.K (gOf X) B S σ W H → ∀ R : VK, (∀ p qs rows W' H', Stp W H W' H' → Ok (gOf X) W' H' → Nest X.K H W' H' p qs rows → Q rows → R (.ref p) H') → t σ H R
structure Mid2 (K : PySem.W.Frag) (g : List Code) (W1 : Wd) (H1 : Hp) (p : Addr) (qs : List Addr) (rows : List (List D)) (W : Wd) (H : Hp) : Prop where
  st : Stp W1 H1 W H
  ok : Ok g W H
  m : Nest K H1 W H p qs rows
section
variable {X : Cx} {B : Hp} {W0 : Wd} {S : En} {st : Stmt} {sts : List Stmt} {E : Ends'} {pos : Pos} {e e2 a b c : Expr}
/-- list(e), e a list or a tuple -/
theorem fd_list {p : Pos} {Q : List D → Prop} (hm : X.mg "list" = none) (h : ED X B S e fun d => ∃ l, SeqD d l ∧ Q l) (hv : bootBuiltins "list" = some (.type "list") := by first | rfl | decide +kernel) (hg : Gl X "list" := by rfl)
    (he : starEach [e] X.env = (false, eval e X.env) :: starEach [] X.env := by rfl) (hpl : (backTo pos (starEach [] X.env)).any (·.1) = false := by rfl) : FD X B S (.Call (.Name "list" p) [e] [] pos) Q := fun σ W H r R k => by
  refine PE.w (pe_callTy call_list_of hg hm hv (pa_cons we_pe pa_nil he) (by decide) (by decide) he hpl) ?_
  refine h σ W H r _ fun d v W1 H1 s1 ok1 n1 q1 => ?_
  obtain ⟨l, sd, q1⟩ := q1
  obtain ⟨t, a, xs, rfl, w, hx⟩ := sd.at n1
  refine ⟨a, xs, rfl, ?_, fun p hp => ?_⟩
  · cases t with
    | false => exact .inl (hx _ ok1.ex)
    | true => exact .inr (hx _ ok1.ex)
  · exact k l p xs W1 _ (s1.trans ok1 (Stp.own hp)) (ok1.own hp) (s1.free ok1 hp) (ok1.notP hp) (ok1.free hp) upd_same w q1
/-- x[y] = .., x the owner of its list -/
theorem gd_ownAt {x y : Str} {px py : Pos} {d : D} {Q : En → Prop} (ix iy : Nat) (l : List D) {i : Nat} (hx : X.N[ix]? = some x) (hy : X.N[iy]? = some y) (sx : S[ix]? = some (some (.own l))) (sy : S[iy]? = some (some (.val (.int i)))) (hi : i < l.length) (q : Q (S.set ix (some (.own (l.set i d)))))
    (vx : Vis X.env.scope x := by first | exact Or.inl rfl | exact Or.inr (Or.inl rfl)) (vy : Vis X.env.scope y := by first | exact Or.inl rfl | exact Or.inr (Or.inl rfl))
    (x1 : (x == ("__debug__" : Str)) = false := by decide) (x2 : (x == ("__classdict__" : Str)) = false := by decide) (y1 : (y == ("__debug__" : Str)) = false := by decide) (y2 : (y == ("__classdict__" : Str)) = false := by decide)
    (ha : ∀ v, assign (.Subscript (.Name x px) (.Name y py) pos) X.env v = (do
      let ov ← holding [v] (eval (.Name x px) X.env)
      let iv ← holding [v, ov] (eval (.Name y py) X.env)
      standAt pos
      holding [v, ov, iv] (setItem ov iv v)
      release [v, ov, iv] []) := by intro _; rfl) : GD X B W0 S (.Subscript (.Name x px) (.Name y py) pos) d Q := fun σ W H v r z nd R k => by
  obtain ⟨v1, e1, p, xs, ev, hB, n, hI, hH, d0⟩ := r.sl ix _ sx
  subst ev
  obtain ⟨v2, e2, w2⟩ := r.sl iy _ sy
  cases (show Dn X.K W.I _ _ from w2)
  refine PG.w (pg_sub (pe_var hx vx x1 x2) (pe_var hy vy y1 y2) set_list ha) ⟨_, e1, _, e2, p, xs, i, i, rfl, rfl, hH, ixN_lt (by rw [← d0.length]; exact hi), ?_⟩
  exact k _ σ W _ (r.putOwn sx e1 hB n hI hH (Dns.set nd i d0)) (stp_upd z hB) (Ex.refl _) q
end
end DL

set_option Elab.async false
set_option linter.all false
set_option maxRecDepth 100000
set_option maxHeartbeats 4000000
/-! a dict literal, constants of the module, comprehensions over two ranges -/
namespace DL
open PySem PySem.Spec PyProof.Rows L2
section
variable {X : Cx} {B : Hp} {S : En} {pos : Pos} {Q : D → Prop} {e e1 : Expr} {x : Str}
end
end DL

set_option Elab.async false
set_option linter.all false
set_option maxRecDepth 100000
set_option maxHeartbeats 4000000
/-! comprehensions told by what each item must be -/
namespace DL
open PySem PySem.Spec PyProof.Rows L2
theorem Paired.snoc {α β : Type} {R : α → β → Prop} {x : α} {y : β} (h : R x y) : ∀ {l : List α} {m : List β}, Paired R l m → Paired R (l ++ [x]) (m ++ [y])
  | _, _, .nil => .cons h .nil
  | _, _, .cons a b => .cons a (Paired.snoc h b)
/-- what stands in the slots when the item d has come to the name in slot j -/
abbrev itE (S : En) (own : List (Str × Nat)) (j : Nat) (d : D) : En := (wipeE S (own.map (·.2))).set j (some (.val d))
abbrev AllBlk (X : Cx) (scope : Scope) (R : Cx → Prop) : Prop := ∀ (s : Shared) (H0 : Hp) (C : Addr) (cl : List (Str × Addr)) (fp : List Addr), R (X.blk s H0 scope (compEnvC scope cl C X.env) fp)
section
variable {X : Cx} {B : Hp} {W0 : Wd} {S : En} {pos : Pos} {e e2 elt iter : Expr} {x : Str} {px : Pos} {scope : Scope} {own : List (Str × Nat)} {l l' : List D} {d0 : D} {Q : List D → Prop}
/-- [elt for x in a list or a tuple] -/
theorem fd_relS (G : D → D → Prop) (j : Nat) (hc : X.calm = true) (hN : X.N.Nodup) (ok : BlkOk X.N X.env.scope scope own) (hg : AllBlk X scope fun Y => PG Y (.Name x px) (gName j)) (sd : SeqD d0 l) (hl : l.length ≤ 50000) (hit : ED X B S iter fun d => d = d0) (hj : j ∈ own.map (·.2))
    (he : ∀ d ∈ l, AllBlk X scope fun Y => ED Y B (itE S own j d) elt (G d)) (hd : ∀ out, Paired G l out → Q out) (hs : ∀ x, foldedSetIterable iter X.env x = pure x := by intro _; rfl) : FD X B S (.ListComp elt [⟨.Name x px, iter, [], 0⟩] scope pos) Q := by
  have step : ∀ (i : Nat) d acc, l[i]? = some d → acc.length = i → Paired G (l.take i) acc → ∀ (s : Shared) (H0 : Hp) (C : Addr) (cl : List (Str × Addr)) (fp : List Addr), ED (X.blk s H0 scope (compEnvC scope cl C X.env) fp) B (itE S own j d) elt fun y => Paired G (l.take (i + 1)) (acc ++ [y]) := fun i d acc hi ha hp s H0 C cl fp => by
    intro σ W H r R k
    refine he d (List.mem_of_getElem? hi) s H0 C cl fp σ W H r R fun y v W' H' st ok n q => k y v W' H' st ok n ?_
    rw [List.take_add_one, hi]
    exact Paired.snoc q hp
  have fin : ∀ acc, acc.length = l.length → Paired G (l.take l.length) acc → Q acc := fun acc _ h => hd acc (by rw [List.take_length] at h; exact h)
  have start : ED X B S iter fun d => d = d0 ∧ l.length ≤ 50000 ∧ Paired G (l.take 0) [] := fun σ W H r R k => hit σ W H r R fun d v W' H' st ok n q => k d v W' H' st ok n ⟨q, hl, .nil⟩
  rcases sd with rfl | rfl
  · exact fd_lcL (fun i acc => Paired G (l.take i) acc) (fun d => itE S own j d) hc hN ok hg start (fun d _ => pat_name j hj) step fin hs
  · exact fd_lcT (fun i acc => Paired G (l.take i) acc) (fun d => itE S own j d) hc hN ok hg start (fun d _ => pat_name j hj) step fin hs
/-- what a range brings -/
def Outs (G : Nat → D → Prop) (n : Nat) (out : List D) : Prop := out.length = n ∧ ∀ i, i < n → ∃ y, out[i]? = some y ∧ G i y
theorem Outs.nil {G : Nat → D → Prop} : Outs G 0 [] := ⟨rfl, fun i h => absurd h (Nat.not_lt_zero _)⟩
theorem Outs.snoc {G : Nat → D → Prop} {n : Nat} {out : List D} {y : D} (h : Outs G n out) (g : G n y) : Outs G (n + 1) (out ++ [y]) := ⟨by simp [h.1], fun i hi => by
  by_cases c : i < n
  · obtain ⟨z, e, gz⟩ := h.2 i c
    exact ⟨z, by rw [List.getElem?_append_left (by rw [h.1]; exact c)]; exact e, gz⟩
  · have : i = n := by omega
    subst this
    exact ⟨y, by rw [List.getElem?_append_right (by rw [h.1]; exact Nat.le_refl _), h.1, Nat.sub_self]; rfl, g⟩⟩
/-- [elt for x in range(e)] -/
theorem fd_relR {p1 pos1 : Pos} {n : Nat} (G : Nat → D → Prop) (j : Nat) (hc : X.calm = true) (hN : X.N.Nodup) (hm : X.mg "range" = none) (ok : BlkOk X.N X.env.scope scope own) (hg : AllBlk X scope fun Y => PG Y (.Name x px) (gName j)) (hn : n ≤ 50000) (h : AD X B S [e] fun as => as = [.val (.int (n : Int))]) (hj : j ∈ own.map (·.2))
    (he : ∀ i, i < n → AllBlk X scope fun Y => ED Y B (itE S own j (.int (i : Int))) elt (G i)) (hd : ∀ out, Outs G n out → Q out) (hgl : Gl X "range" := by rfl) (hst : starEach [e] X.env = [(false, eval e X.env)] := by rfl)
    (hs : ∀ x, foldedSetIterable (.Call (.Name "range" p1) [e] [] pos1) X.env x = pure x := by intro _; rfl) : FD X B S (.ListComp elt [⟨.Name x px, .Call (.Name "range" p1) [e] [] pos1, [], 0⟩] scope pos) Q := by
  refine fd_lcR (n := (n : Int)) (fun i acc => Outs G i acc) (fun d => itE S own j d) hc hN hm ok hg ?_ (fun d => pat_name j hj) ?_ ?_ hgl hst hs
  · exact fun σ W H r R k => h σ W H r R fun as vs W' H' st ok n q => k as vs W' H' st ok n ⟨q, by omega, by omega, .nil⟩
  · intro i acc hi ha o s H0 C cl fp σ W H r R k
    exact he i (by omega) s H0 C cl fp σ W H r R fun y v W' H' st ok n q => k y v W' H' st ok n (o.snoc q)
  · intro acc _ o
    exact hd acc (by rw [Int.toNat_natCast] at o; exact o)
/-- [elt for x, y in zip(e, e2)], both as long -/
theorem fd_relZ {y : Str} {py tpos p1 pos1 : Pos} {kk : Nat} {d1 : D} (G : D → D → D → Prop) (i j : Nat) (hc : X.calm = true) (hN : X.N.Nodup) (hm : X.mg "zip" = none) (ok : BlkOk X.N X.env.scope scope own) (hg : AllBlk X scope fun Y => PG Y (.Tuple [.Name x px, .Name y py] kk tpos) (gTup X.K 2 (gCons (gName i) (gCons (gName j) gNil)))) (hll : l.length = l'.length) (hl : l.length ≤ 50000) (sd : SeqD d0 l) (sd1 : SeqD d1 l')
    (h : AD X B S [e, e2] fun as => as = [.val d0, .val d1]) (hi : i ∈ own.map (·.2)) (hj : j ∈ own.map (·.2)) (he : ∀ (n : Nat) d d', l[n]? = some d → l'[n]? = some d' → AllBlk X scope fun Y => ED Y B ((itE S own i d).set j (some (.val d'))) elt (G d d'))
    (hd : ∀ out, out.length = l.length → (∀ (n : Nat) d d' z, l[n]? = some d → l'[n]? = some d' → out[n]? = some z → G d d' z) → Q out) (hgl : Gl X "zip" := by rfl)
    (hst : starEach [e, e2] X.env = (false, eval e X.env) :: starEach [e2] X.env := by rfl) (hpl : (backTo pos1 (starEach [e2] X.env)).any (·.1) = false := by rfl)
    (hs : ∀ x, foldedSetIterable (.Call (.Name "zip" p1) [e, e2] [] pos1) X.env x = pure x := by intro _; rfl) : FD X B S (.ListComp elt [⟨.Tuple [.Name x px, .Name y py] kk tpos, .Call (.Name "zip" p1) [e, e2] [] pos1, [], 0⟩] scope pos) Q := by
  refine fd_lcZ l l' (fun m acc => acc.length = m ∧ ∀ (n : Nat) d d' z, l[n]? = some d → l'[n]? = some d' → acc[n]? = some z → G d d' z) (fun d d' => (itE S own i d).set j (some (.val d'))) hc hN hm ok hg ?_ (fun d d' => pat_two i j hi hj) ?_ ?_ hgl hst hpl hs
  · exact fun σ W H r R k => h σ W H r R fun as vs W' H' st ok n q => k as vs W' H' st ok n ⟨d0, d1, q, sd, sd1, hl, rfl, fun n d d' z _ _ e => by simp at e⟩
  · intro m d d' acc h1 h2 ha ⟨_, o⟩ s H0 C cl fp σ W H r R k
    refine he m d d' h1 h2 s H0 C cl fp σ W H r R fun y v W' H' st ok n q => k y v W' H' st ok n ⟨by simp [ha], fun n a b z e1 e2 e3 => ?_⟩
    by_cases c : n < m
    · rw [List.getElem?_append_left (by omega)] at e3
      exact o n a b z e1 e2 e3
    · rw [List.getElem?_append_right (by omega)] at e3
      have : n = m := by
        rcases Nat.lt_or_ge m n with z | z
        · rw [List.getElem?_eq_none (show [y].length ≤ n - acc.length by show 1 ≤ _; omega)] at e3
          cases e3
        · omega
      subst this
      rw [ha, Nat.sub_self] at e3
      cases e3
      rw [h1] at e1
      rw [h2] at e2
      cases e1
      cases e2
      exact q
  · intro acc m ha ⟨_, o⟩ h1 h2 h3
    exact hd acc (by omega) o
theorem td_chain {op op' : CmpOp} {a b c : Expr} {QB : Bool → Prop} (h : ED X B S a fun x => ED X B S b fun y => OD X (compareOp op) x y fun z => ∃ k, z = .bl k ∧ if k = true then ED X B S c fun w => OD X (compareOp op') y w fun z => ∃ k, z = .bl k ∧ QB k else QB false)
    (hm : lastMarks [op, op'] [b, c] = false := by rfl) : TD X B S (.Compare a [op, op'] [b, c] pos) QB := fun σ W H r R k => by
  refine PT.w (pt_chain wo_op wo_op we_pe we_pe we_pe hm) ?_
  refine h σ W H r _ fun d v W1 H1 s1 ok1 n1 q1 => ?_
  refine q1 σ W1 H1 (r.step s1 ok1) _ fun d2 u W2 H2 s2 ok2 n2 q2 => ?_
  refine q2 v u W2 H2 ok2 (n1.mono s2.I) n2 _ fun d3 z W3 H3 s3 ok3 n3 q3 => ?_
  obtain ⟨t, e, q3⟩ := q3
  subst e
  cases n3
  have k3 := ((k.step s1 ok1).step s2 ok2).step s3 ok3
  refine ⟨t, rfl, ?_⟩
  cases t with
  | false => exact iteF ⟨false, rfl, k3.now ok3 (by simpa using q3)⟩
  | true =>
    have q3 : ED X B S c fun w => OD X (compareOp op') d2 w fun z => ∃ k, z = .bl k ∧ QB k := by simpa using q3
    refine iteT (q3 σ W3 H3 (((r.step s1 ok1).step s2 ok2).step s3 ok3) _ fun d4 w' W4 H4 s4 ok4 n4 q4 => ?_)
    refine q4 u w' W4 H4 ok4 ((n2.mono s3.I).mono s4.I) n4 _ fun d5 z W5 H5 s5 ok5 n5 q5 => ?_
    obtain ⟨t, e, q5⟩ := q5
    subst e
    cases n5
    exact ⟨t, rfl, ((k3.step s4 ok4).step s5 ok5).now ok5 q5⟩
end
end DL

set_option Elab.async false
set_option linter.all false
set_option maxRecDepth 100000
set_option maxHeartbeats 4000000
/-! a name = [.. for x, y in zip(..)] -/
namespace DL
open PySem PySem.Spec PyProof.Rows L2
section
variable {X : Cx} {B : Hp} {W0 : Wd} {S : En} {pos : Pos} {e e2 : Expr} {x : Str} {px : Pos} {own : List (Str × Nat)} {scope : Scope} {elt : Expr} {l l' : List D} {d0 : D}
end
end DL

set_option Elab.async false
set_option linter.all false
set_option maxRecDepth 100000
set_option maxHeartbeats 4000000
/-! a text times an int -/
namespace DL
open PySem PySem.Spec PyProof.Rows L2
end DL

set_option Elab.async false
set_option linter.all false
set_option maxRecDepth 100000
set_option maxHeartbeats 4000000
/-! dicts whose keys are tuples: owned by one name while they grow, data from then on -/
namespace DL
open PySem PySem.Spec PyProof.Rows L2
def kD : Key → D
  | .inl i => .int i
  | .inr s => .str s
abbrev tD (k : List Key) : D := .tup (k.map kD)
def has {α : Type} (kvs : List (List Key × α)) (k : List Key) : Bool := kvs.any fun kv => decide (kv.1 = k)
def look {α : Type} (kvs : List (List Key × α)) (k : List Key) : Option α := (kvs.find? fun kv => decide (kv.1 = k)).map (·.2)
/-- what stands at k from now on: in its place, or at the end -/
def putE (kvs : List (List Key × D)) (k : List Key) (d : D) : List (List Key × D) := if has kvs k = true then kvs.map (fun kv => if kv.1 = k then (kv.1, d) else kv) else kvs ++ [(k, d)]
section
variable {K : PySem.W.Frag} {I : Hp}
theorem dn_key {k : Key} {v : V} (n : Dn K I (kD k) v) : v = kV k := by
  cases k <;> cases n <;> rfl
theorem dns_keys : ∀ {ks : List Key} {xs : List V}, Dns K I (ks.map kD) xs → xs = ks.map kV
  | [], _, .nil => rfl
  | k :: ks, _, .cons h t => by rw [dn_key h, dns_keys t]; rfl
theorem key_dn : ∀ k : Key, Dn K I (kD k) (kV k)
  | .inl i => .int i
  | .inr s => .str s
theorem keys_dns : ∀ ks : List Key, Dns K I (ks.map kD) (ks.map kV)
  | [] => .nil
  | k :: ks => .cons (key_dn k) (keys_dns ks)
theorem Dnt.append : ∀ {l m : List (List Key × D)} {xs ys : List (List Key × V)}, Dnt K I l xs → Dnt K I m ys → Dnt K I (l ++ m) (xs ++ ys)
  | _, _, _, _, .nil, s => s
  | _, _, _, _, .cons h r, s => .cons h (Dnt.append r s)
theorem Dnt.length : ∀ {l : List (List Key × D)} {xs : List (List Key × V)}, Dnt K I l xs → l.length = xs.length
  | _, _, .nil => rfl
  | _, _, .cons _ r => congrArg (· + 1) (Dnt.length r)
theorem Dnt.keys : ∀ {l : List (List Key × D)} {xs : List (List Key × V)}, Dnt K I l xs → l.map (·.1) = xs.map (·.1)
  | _, _, .nil => rfl
  | _, _, .cons _ r => by simp [Dnt.keys r]
theorem Dnt.has {k : List Key} : ∀ {l : List (List Key × D)} {xs : List (List Key × V)}, Dnt K I l xs → has l k = (xs.any fun kv => decide (kv.1 = k))
  | _, _, .nil => rfl
  | _, _, .cons (f := f) _ r => by
    have := Dnt.has (k := k) r
    unfold DL.has at this ⊢
    rw [List.any_cons, List.any_cons, this]
theorem Dnt.mapK {k : List Key} {d : D} {v : V} (n : Dn K I d v) : ∀ {l : List (List Key × D)} {xs : List (List Key × V)}, Dnt K I l xs → Dnt K I (l.map fun kv => if kv.1 = k then (kv.1, d) else kv) (xs.map fun kv => if kv.1 = k then (kv.1, v) else kv)
  | _, _, .nil => .nil
  | _, _, .cons (f := f) h r => by
    rw [List.map_cons, List.map_cons]
    by_cases c : f = k
    · rw [if_pos c, if_pos c]
      exact .cons n (Dnt.mapK n r)
    · rw [if_neg c, if_neg c]
      exact .cons h (Dnt.mapK n r)
theorem Dnt.put {k : List Key} {d : D} {v : V} (n : Dn K I d v) {l : List (List Key × D)} {xs : List (List Key × V)} (m : Dnt K I l xs) : Dnt K I (putE l k d) (putK xs k v) := by
  unfold putE putK
  rw [← m.has]
  by_cases c : DL.has l k = true
  · rw [if_pos c, if_pos c]
    exact m.mapK n
  · rw [if_neg c, if_neg c]
    exact m.append (.cons n .nil)
theorem dnt_look {k : List Key} : ∀ {kvs : List (List Key × D)} {ws : List (List Key × V)}, Dnt K I kvs ws → (∀ d, look kvs k = some d → ∃ v, valV ws k = some v ∧ Dn K I d v) ∧ (look kvs k = none → valV ws k = none)
  | _, _, .nil => ⟨fun d e => by simp [look] at e, fun _ => rfl⟩
  | _, _, .cons (f := f) (d := d0) (v := v0) h t => by
    obtain ⟨a, b⟩ := dnt_look (k := k) t
    by_cases c : f = k
    · subst c
      refine ⟨fun d e => ⟨v0, valV_pos rfl, ?_⟩, fun e => by simp [look, List.find?_cons] at e⟩
      simp [look, List.find?_cons] at e
      rw [← e]
      exact h
    · refine ⟨fun d e => ?_, fun e => ?_⟩
      · rw [valV_neg c]
        refine a d ?_
        simpa [look, List.find?_cons, c] using e
      · rw [valV_neg c]
        refine b ?_
        simpa [look, List.find?_cons, c] using e
theorem look_some {kvs : List (List Key × D)} {ws : List (List Key × V)} (m : Dnt K I kvs ws) (k : List Key) : (valV ws k).isSome = (look kvs k).isSome := by
  cases e : look kvs k with
  | none => rw [(dnt_look m).2 e]; rfl
  | some d =>
    obtain ⟨v, ev, _⟩ := (dnt_look m).1 d e
    rw [ev]; rfl
theorem Dnt.get : ∀ {l : List (List Key × D)} {xs : List (List Key × V)} {i : Nat} {k : List Key} {v : V}, Dnt K I l xs → xs[i]? = some (k, v) → ∃ d, l[i]? = some (k, d) ∧ Dn K I d v
  | _, _, _, _, _, .nil, e => by simp at e
  | _, _, 0, _, _, .cons h _, e => by
    simp at e
    obtain ⟨rfl, rfl⟩ := e
    exact ⟨_, rfl, h⟩
  | _, _, i + 1, _, _, .cons _ r, e => by
    obtain ⟨d, h1, h2⟩ := Dnt.get (i := i) r (by simpa using e)
    exact ⟨d, by simpa using h1, h2⟩
end
theorem dget_of {H : Hp} {a b : Addr} {kvs : List (List Key × V)} {k : List Key} (e : Rd H a (.dT kvs)) (eb : H b = some (.tup (k.map kV))) : DGet H a (.ref b) (valV kvs k) := .inr ⟨kvs, k, b, e, rfl, eb, rfl⟩
theorem dn_tupkey {K : PySem.W.Frag} {W : Wd} {H : Hp} {g : List Code} {k : List Key} {v : V} (ok : Ok g W H) (n : Dn K W.I (tD k) v) : ∃ q, v = .ref q ∧ H q = some (.tup (k.map kV)) := by
  cases n with
  | tup h m =>
    rw [dns_keys m] at h
    exact ⟨_, rfl, ok.ex _ _ h⟩
/-! ### reading -/
/-- k in d -/
theorem op_dinT {X : Cx} (hu : X.A.units + 1 < cLine) : OpR X (compareOp .In) (fun x y H Q => ∃ p o, y = .ref p ∧ DGet H p x o ∧ Q (.bl o.isSome) H) := by
  intro pins s σ H x y v u Q I rx ry h
  obtain ⟨p, o, rfl, g, q⟩ := h
  obtain rfl : u = Value.ref p := ry
  exact d_in hu I g rx fun s3 I3 => ⟨.bl o.isSome, H, I3, rfl, q⟩
section
variable {X : Cx} {B : Hp} {W0 : Wd} {S : En} {pos px p1 : Pos} {Q : D → Prop} {QB : Bool → Prop} {a b c e value key : Expr} {es : List Expr} {E : Ends'} {x : Str} {st : Stmt} {sts : List Stmt}
/-- d[k], d data -/
theorem ed_dget (hu : X.A.units + 1 < cLine) (h : ED X B S a fun x => ED X B S b fun y => ∃ kvs k d, x = .dcT kvs ∧ y = tD k ∧ look kvs k = some d ∧ Q d) (hs : NoSl b := by exact fun _ _ => rfl) : ED X B S (.Subscript a b pos) Q := fun σ W H r R k0 => by
  refine PE.w (pe_dget hu we_pe we_pe hs) ?_
  refine h σ W H r _ fun x v W1 H1 s1 ok1 n1 q1 => ?_
  refine q1 σ W1 H1 (r.step s1 ok1) _ fun y u W2 H2 s2 ok2 n2 q2 => ?_
  obtain ⟨kvs, k, d, rfl, rfl, e, q⟩ := q2
  have n1' := n1.mono s2.I
  cases n1' with
  | @dcT _ p o ws hp m =>
    obtain ⟨bq, rfl, hb⟩ := dn_tupkey ok2 n2
    obtain ⟨z, ez, nz⟩ := (dnt_look m).1 d e
    refine ⟨p, z, rfl, ?_, ((k0.step s1 ok1).step s2 ok2).now ok2 nz q⟩
    rw [← ez]
    exact dget_of (.inr ⟨o, ok2.ex _ _ hp⟩) hb
theorem od_din {kvs : List (List Key × D)} {k : List Key} (hu : X.A.units + 1 < cLine) (q : Q (.bl (look kvs k).isSome)) : OD X (compareOp .In) (tD k) (.dcT kvs) Q := by
  refine od_of (op_dinT hu) fun v u W H ok h1 h2 R c => ?_
  obtain ⟨bq, rfl, hb⟩ := dn_tupkey ok h1
  cases h2 with
  | @dcT _ p o ws hp m =>
    refine ⟨p, _, rfl, dget_of (.inr ⟨o, ok.ex _ _ hp⟩) hb, ?_⟩
    rw [look_some m]
    exact c.now ok (.bl _) q
/-- x[k], x the owner of its dict -/
theorem ed_getT (i : Nat) (kvs : List (List Key × D)) (hu : X.A.units + 1 < cLine) (hN : X.N[i]? = some x) (h : S[i]? = some (some (.ownT kvs))) (he : ED X B S b fun y => ∃ k d, y = tD k ∧ look kvs k = some d ∧ Q d) (hs : NoSl b := by exact fun _ _ => rfl)
    (hv : Vis X.env.scope x := by first | exact Or.inl rfl | exact Or.inr (Or.inl rfl) | exact Or.inr (Or.inr rfl)) (hd : (x == ("__debug__" : Str)) = false := by decide) (hcd : (x == ("__classdict__" : Str)) = false := by decide) : ED X B S (.Subscript (.Name x px) b pos) Q := fun σ W H r R k0 => by
  refine PE.w (pe_dget hu (pe_var hN hv hd hcd) we_pe hs) ?_
  obtain ⟨v, e1, p, ws, rfl, hB, n, hI, hH, d0⟩ := r.sl i _ h
  refine ⟨_, e1, he σ W H r _ fun y u W2 H2 s2 ok2 n2 q2 => ?_⟩
  obtain ⟨k, d, rfl, e, q⟩ := q2
  obtain ⟨bq, rfl, hb⟩ := dn_tupkey ok2 n2
  obtain ⟨z, ez, nz⟩ := (dnt_look (d0.mono s2.I)).1 d e
  refine ⟨p, z, rfl, ?_, (k0.step s2 ok2).now ok2 nz q⟩
  rw [← ez]
  exact dget_of (.inl (s2.keep _ _ hH n)) hb
theorem td_inT (i : Nat) (kvs : List (List Key × D)) (hu : X.A.units + 1 < cLine) (hN : X.N[i]? = some x) (h : S[i]? = some (some (.ownT kvs))) (he : ED X B S a fun y => ∃ k, y = tD k ∧ QB (look kvs k).isSome)
    (hm : behindInMarks .In (.Name x px) = false := by first | exact nomark _ | rfl) (hv : Vis X.env.scope x := by first | exact Or.inl rfl | exact Or.inr (Or.inl rfl) | exact Or.inr (Or.inr rfl)) (hd : (x == ("__debug__" : Str)) = false := by decide) (hcd : (x == ("__classdict__" : Str)) = false := by decide) : TD X B S (.Compare a [.In] [.Name x px] pos) QB := fun σ W H r R k0 => by
  refine PT.w (pt_cmpR (op_dinT hu) we_pe (pe_var hN hv hd hcd) hm) ?_
  obtain ⟨v, e1, p, ws, rfl, hB, n, hI, hH, d0⟩ := r.sl i _ h
  refine he σ W H r _ fun y u W2 H2 s2 ok2 n2 q2 => ?_
  obtain ⟨k, rfl, q⟩ := q2
  obtain ⟨bq, rfl, hb⟩ := dn_tupkey ok2 n2
  refine ⟨_, e1, p, _, rfl, dget_of (.inl (s2.keep _ _ hH n)) hb, ?_⟩
  rw [look_some (d0.mono s2.I)]
  exact ⟨_, rfl, (k0.step s2 ok2).now ok2 q⟩
end
/-! ### owned -/
section
variable {K : PySem.W.Frag} {g : List Code} {B : Hp} {S : En} {σ : L2.St} {W : Wd} {H : Hp} {i : Nat} {kvs kvs' : List (List Key × D)} {p : Addr} {ws ws' : List (List Key × V)}
theorem Rep.newT (r : Rep K g B S σ W H) (hB : B p = none) (n : ¬ W.P p) (hi : W.I p = none) (hp : H p = some (.dT ws)) (d : Dnt K W.I kvs ws) (new : ∀ (j : Nat) (m : List (List Key × D)), S[j]? = some (some (.ownT m)) → σ[j]? ≠ some (some (.ref p))) :
    Rep K g B (S.set i (some (.ownT kvs))) (σ.set i (some (.ref p))) W H where
  ok := r.ok
  gb := r.gb
  len := by simpa using r.len
  sl := fun j s e => by
    by_cases q : i = j
    · subst q
      by_cases z : i < S.length
      · rw [List.getElem?_set_self z] at e
        cases e
        exact ⟨_, List.getElem?_set_self (r.len ▸ z), p, ws, rfl, hB, n, hi, hp, d⟩
      · rw [List.getElem?_eq_none (by simpa using z)] at e
        cases e
    · rw [List.getElem?_set_ne q] at e ⊢
      exact r.sl j s e
  dist := fun a b l m q ne e1 e2 e3 => by
    have key : ∀ c l, (S.set i (some (.ownT kvs)))[c]? = some (some (Sl.own l)) → i ≠ c := fun c l e z => by
      subst z
      by_cases y : i < S.length
      · rw [List.getElem?_set_self y] at e; cases e
      · rw [List.getElem?_eq_none (by simpa using y)] at e; cases e
    have qa := key a l e1
    have qb := key b m e2
    rw [List.getElem?_set_ne qa] at e1 e3
    rw [List.getElem?_set_ne qb] at e2 ⊢
    exact r.dist a b l m q ne e1 e2 e3
  distT := fun a b la lb q ne e1 e2 e3 => by
    by_cases qa : i = a
    · subst qa
      have lt : i < σ.length := by
        rcases Nat.lt_or_ge i σ.length with z | z
        · exact z
        · rw [List.getElem?_eq_none (by simpa using z)] at e3; cases e3
      rw [List.getElem?_set_self lt] at e3
      cases e3
      rw [List.getElem?_set_ne ne] at e2 ⊢
      exact new b lb e2
    · rw [List.getElem?_set_ne qa] at e1 e3
      by_cases qb : i = b
      · subst qb
        intro e4
        have lt : i < σ.length := by
          rcases Nat.lt_or_ge i σ.length with z | z
          · exact z
          · rw [List.getElem?_eq_none (by simpa using z)] at e4; cases e4
        rw [List.getElem?_set_self lt] at e4
        cases e4
        exact new a la e1 e3
      · rw [List.getElem?_set_ne qb] at e2 ⊢
        exact r.distT a b la lb q ne e1 e2 e3
theorem Rep.putT (r : Rep K g B S σ W H) (h : S[i]? = some (some (.ownT kvs))) (e1 : σ[i]? = some (some (.ref p))) (hB : B p = none) (n : ¬ W.P p) (hI : W.I p = none) (hH : H p = some (.dT ws)) (d : Dnt K W.I kvs' ws') :
    Rep K g B (S.set i (some (.ownT kvs'))) σ W (upd H p (.dT ws')) := by
  have lt : i < S.length := (List.getElem?_eq_some_iff.mp h).1
  have key : ∀ {c : Nat} {m : List D}, (S.set i (some (.ownT kvs')))[c]? = some (some (Sl.own m)) → S[c]? = some (some (Sl.own m)) := fun {c m} ec => by
    by_cases q2 : i = c
    · subst q2
      rw [List.getElem?_set_self lt] at ec
      cases ec
    · rw [List.getElem?_set_ne q2] at ec
      exact ec
  refine ⟨ok_upd r.ok n hI, r.gb, by simpa using r.len, fun j s ej => ?_, fun a b la lb q ne e2 e3 e4 => r.dist a b la lb q ne (key e2) (key e3) e4, r.distT.setS i fun l _ => ⟨kvs, h⟩⟩
  by_cases q : i = j
  · subst q
    rw [List.getElem?_set_self lt] at ej
    cases ej
    exact ⟨_, e1, p, _, rfl, hB, n, hI, upd_same, d⟩
  · rw [List.getElem?_set_ne q] at ej
    obtain ⟨v2, e2, h2⟩ := r.sl j s ej
    refine ⟨v2, e2, ?_⟩
    cases s with
    | val d2 => exact h2
    | pot => exact h2
    | own m =>
      obtain ⟨p2, ys, rfl, b1, b2, b3, b4, b5⟩ := h2
      refine ⟨p2, ys, rfl, b1, b2, b3, ?_, b5⟩
      rw [upd_ne (fun y => by rw [y, hH] at b4; cases b4)]
      exact b4
    | ownT m =>
      obtain ⟨p2, ys, rfl, b1, b2, b3, b4, b5⟩ := h2
      refine ⟨p2, ys, rfl, b1, b2, b3, ?_, b5⟩
      rw [upd_ne (fun y => by
        rw [y] at e2
        exact r.distT i j kvs m p q h ej e1 e2)]
      exact b4
    | inst C p2 dx fs =>
      obtain ⟨vs, rfl, b1, b2, b3, b4, b5, b6, b7, b8, b9, b10⟩ := h2
      refine ⟨vs, rfl, b1, b2, b3, b4, b5, b6, b7, ?_, ?_, b10⟩
      · rw [upd_ne (fun y => by rw [y, hH] at b8; cases b8)]
        exact b8
      · rw [upd_ne (fun y => by rw [y, hH] at b9; cases b9)]
        exact b9
/-- given away: known to its object from now on -/
theorem Rep.frzT {o : Obj} (r : Rep K g B S σ W H) (h : S[i]? = some (some (.ownT kvs))) (e1 : σ[i]? = some (some (.ref p))) (hB : B p = none) (n : ¬ W.P p) (hI : W.I p = none) (hH : H p = some (.dT ws)) (d : Dnt K W.I kvs ws) :
    Rep K g B (S.set i (some (.val (.dcT kvs)))) σ (W.new p (.frz o (.dT ws))) (upd H p (.frz o (.dT ws))) := by
  have lt : i < S.length := (List.getElem?_eq_some_iff.mp h).1
  have key : ∀ {c : Nat} {m : List D}, (S.set i (some (.val (.dcT kvs))))[c]? = some (some (Sl.own m)) → S[c]? = some (some (Sl.own m)) := fun {c m} ec => by
    by_cases q2 : i = c
    · subst q2
      rw [List.getElem?_set_self lt] at ec
      cases ec
    · rw [List.getElem?_set_ne q2] at ec
      exact ec
  have ok0 : Ok g W (upd H p (.frz o (.dT ws))) := ok_upd r.ok n hI
  have ok1 := ok0.frz (p := p) upd_same n fun z => r.gb _ z hB
  refine ⟨ok1, r.gb, by simpa using r.len, fun j s ej => ?_, fun a b la lb q ne e2 e3 e4 => r.dist a b la lb q ne (key e2) (key e3) e4, r.distT.setS i fun l z => by cases z⟩
  by_cases q : i = j
  · subst q
    rw [List.getElem?_set_self lt] at ej
    cases ej
    exact ⟨_, e1, .dcT (o := o) (show upd W.I p _ p = _ from upd_same) (d.mono (Ex.new hI))⟩
  · rw [List.getElem?_set_ne q] at ej
    obtain ⟨v2, e2, h2⟩ := r.sl j s ej
    refine ⟨v2, e2, ?_⟩
    cases s with
    | val d2 => exact Dn.mono (Ex.new hI) h2
    | pot => exact h2
    | own m =>
      obtain ⟨p2, ys, rfl, b1, b2, b3, b4, b5⟩ := h2
      have ne : p2 ≠ p := fun y => by rw [y, hH] at b4; cases b4
      refine ⟨p2, ys, rfl, b1, b2, ?_, by rw [upd_ne ne]; exact b4, b5.mono (Ex.new hI)⟩
      show upd W.I p _ p2 = none
      rw [upd_ne ne]
      exact b3
    | ownT m =>
      obtain ⟨p2, ys, rfl, b1, b2, b3, b4, b5⟩ := h2
      have ne : p2 ≠ p := fun y => by
        rw [y] at e2
        exact r.distT i j kvs m p q h ej e1 e2
      refine ⟨p2, ys, rfl, b1, b2, ?_, by rw [upd_ne ne]; exact b4, b5.mono (Ex.new hI)⟩
      show upd W.I p _ p2 = none
      rw [upd_ne ne]
      exact b3
    | inst C p2 dx fs =>
      obtain ⟨vs, rfl, b1, b2, b3, b4, b5, b6, b7, b8, b9, b10⟩ := h2
      have ne : p2 ≠ p := fun y => by rw [y, hH] at b8; cases b8
      have ne2 : dx ≠ p := fun y => by rw [y, hH] at b9; cases b9
      refine ⟨vs, rfl, b1, b2, b3, b4, b5, ?_, ?_, by rw [upd_ne ne]; exact b8, by rw [upd_ne ne2]; exact b9, b10.mono (Ex.new hI)⟩
      · show upd W.I p _ p2 = none
        rw [upd_ne ne]
        exact b6
      · show upd W.I p _ dx = none
        rw [upd_ne ne2]
        exact b7
theorem stp_frzT {W0 : Wd} {o : HO} (z : Stp W0 B W H) (hB : B p = none) (hI : W.I p = none) : Stp W0 B (W.new p o) (upd H p o) :=
  (stp_upd z hB).frz hB hI
end
section
variable {X : Cx} {B : Hp} {W0 : Wd} {S : En} {pos px p1 : Pos} {Q : D → Prop} {a b c e value key : Expr} {E : Ends'} {x : Str} {st : Stmt} {sts : List Stmt}
/-- x = {} -/
theorem sd_newT {dp : Pos} (i : Nat) (hN : X.N.Nodup) (hi : X.N[i]? = some x) (q : E.nx (S.set i (some (.ownT [])))) (hx : Loc X.env.scope x := by first | exact Or.inl rfl | exact Or.inr rfl)
    (hs : swapsWith (.Dict [] [] dp) (some (.Name x px)) pos.line X.env = pure false := by rfl) (hf : X.fn x = true ∨ X.env.scope.names.lookup x = some .local := by first | exact .inl rfl | exact .inr rfl) : SD X B W0 S (.Assign [.Name x px] (.Dict [] [] dp) pos) E := fun σ W H r z D' k =>
  PS.w (ps_set hN hi hx pe_dnewT hs hf) fun p hp => k.nx _ _ W _ ((r.step (Stp.own hp) (r.ok.own hp)).newT (z.free r.ok hp) (r.ok.notP hp) (r.ok.free hp) upd_same .nil fun j m e1 e2 => by
    obtain ⟨v, e3, p2, ys, e4, _, _, _, h4, _⟩ := r.sl j _ e1
    rw [e2] at e3
    cases e3
    cases e4
    rw [hp] at h4
    cases h4) (z.trans r.ok (Stp.own hp)) (Ex.refl _) q
/-- x[k] = v, x the owner of its dict -/
theorem sd_putT (i : Nat) (kvs : List (List Key × D)) (hu : X.A.units + 1 < cLine) (hN : X.N[i]? = some x) (h : S[i]? = some (some (.ownT kvs))) (hl : kvs.length < 50000) (he : ED X B S value fun d => ED X B S key fun y => ∃ k, y = tD k ∧ E.nx (S.set i (some (.ownT (putE kvs k d)))))
    (hv : Vis X.env.scope x := by first | exact Or.inl rfl | exact Or.inr (Or.inl rfl) | exact Or.inr (Or.inr rfl)) (hd : (x == ("__debug__" : Str)) = false := by decide) (hcd : (x == ("__classdict__" : Str)) = false := by decide)
    (hs : swapsWith value (some (.Subscript (.Name x px) key p1)) pos.line X.env = pure false := by rfl) : SD X B W0 S (.Assign [.Subscript (.Name x px) key p1] value pos) E := fun σ W H r z D' k0 => by
  refine PS.w (ps_dput hu (pe_var hN hv hd hcd) we_pe we_pe hs) ?_
  obtain ⟨v0, e1, p, ws, rfl, hB, n, hI, hH, d0⟩ := r.sl i _ h
  refine he σ W H r _ fun d v W1 H1 s1 ok1 n1 q1 => ⟨_, e1, ?_⟩
  refine q1 σ W1 H1 (r.step s1 ok1) _ fun y u W2 H2 s2 ok2 n2 q2 => ?_
  obtain ⟨ks, rfl, q⟩ := q2
  obtain ⟨bq, rfl, hb⟩ := dn_tupkey ok2 n2
  have st := s1.trans ok1 s2
  have hH2 : H2 p = some (.dT ws) := st.keep _ _ hH n
  have nP : ¬ W2.P p := fun q => n (st.oldP p _ hH q)
  have hI2 : W2.I p = none := st.old p _ hH (fun _ z => by cases z) hI
  refine ⟨p, _, rfl, DPut.t hH2 hb (Nat.lt_of_lt_of_le (show ws.length < 60000 by rw [← d0.length]; omega) (by decide)), ?_⟩
  exact k0.nx _ σ W2 _ ((r.step st ok2).putT h e1 hB nP hI2 hH2 ((d0.mono st.I).put (n1.mono s2.I))) (stp_upd (z.trans r.ok st) hB) st.I q
/-- what a name owns is given away -/
theorem sds_frzT (i : Nat) (kvs : List (List Key × D)) (h : S[i]? = some (some (.ownT kvs))) (k : SDs X B W0 (S.set i (some (.val (.dcT kvs)))) sts E) : SDs X B W0 S sts E := fun σ W H r z D' q => by
  obtain ⟨v, e1, p, ws, rfl, hB, n, hI, hH, d0⟩ := r.sl i _ h
  intro pins s J
  obtain ⟨od, J'⟩ := J.lock hH True.intro
  exact k σ _ _ (r.frzT (o := od) h e1 hB n hI hH d0) (stp_frzT z hB hI) D' (q.mono (Ex.new hI)) pins s J'
/-- a new dict, not yet part of what never changes -/
def ContT (K : PySem.W.Frag) (g : List Code) (W : Wd) (H : Hp) (Q : List (List Key × D) → Prop) (R : VK) : Prop := ∀ kvs p ws W' H', Stp W H W' H' → Ok g W' H' → H p = none → ¬ W'.P p → W'.I p = none → H' p = some (.dT ws) → Dnt K W'.I kvs ws → Q kvs → R (.ref p) H'
def FT (X : Cx) (B : Hp) (S : En) (e : Expr) (Q : List (List Key × D) → Prop) : Prop := ∀ σ W H, Rep X.K (gOf X) B S σ W H → ∀ R, ContT X.K (gOf X) W H Q R → WE X e σ H R
theorem we_lock {σ : L2.St} {H : Hp} {R : VK} (h : WE X e σ H fun v H' => ∃ p ws, v = .ref p ∧ H' p = some (.dT ws) ∧ ∀ od, R (.ref p) (upd H' p (.frz od (.dT ws)))) : WE X e σ H R := fun pins s I => by
  refine wpAny_mono (h pins s I) (fun u s' hq => ?_) fun _ _ q => q
  obtain ⟨v, H', I', rv, p, ws, rfl, hp, q⟩ := hq
  obtain ⟨od, J⟩ := I'.lock hp True.intro
  exact ⟨.ref p, _, J, rv, q od⟩
theorem ed_ft (h : FT X B S e fun kvs => Q (.dcT kvs)) : ED X B S e Q := fun σ W H r R k => we_lock (by
  refine h σ W H r _ fun kvs p ws W' H' st ok hp n i hl d q => ⟨p, ws, rfl, hl, fun od => ?_⟩
  have ok0 : Ok (gOf X) W' (upd H' p (.frz od (.dT ws))) := ok_upd ok n i
  have ok1 := ok0.frz (p := p) upd_same n fun z => (r.ok.gd _ z).2.1 hp
  exact k (.dcT kvs) (.ref p) _ _ ((stp_upd st hp).frz hp i) ok1 (.dcT (o := od) (show upd W'.I p _ p = _ from upd_same) (d.mono (Ex.new i))) q)
end
end DL

set_option Elab.async false
set_option linter.all false
set_option maxRecDepth 100000
set_option maxHeartbeats 4000000
/-! dicts that are data: walked, told as lists, sorted -/
namespace DL
open PySem PySem.Spec PyProof.Rows L2
section
variable {g : List Code} {W : Wd} {H : Hp}
/-- a tuple of plain things that stands in the heap may be told as data -/
theorem ext1 {q : Addr} {ks : List Key} (ok : Ok g W H) (h : H q = some (.tup (ks.map kV))) : ∃ W', Stp W H W' H ∧ Ok g W' H ∧ W'.I q = some (.tup (ks.map kV)) := by
  cases e : W.I q with
  | some o =>
    have := ok.ex q o e
    rw [h] at this
    cases this
    exact ⟨W, Stp.refl, ok, e⟩
  | none =>
    have nP : ¬ W.P q := fun z => by
      obtain ⟨x, y, e2, _⟩ := (ok.pot q z).2
      rw [h] at e2
      cases e2
    have ng : ¬ InG g q := fun z => (ok.gd q z).2.2 ks h
    refine ⟨W.new q (.tup (ks.map kV)), ⟨Ex.new e, fun _ z => z, fun _ _ hb _ => hb, fun b u hb t n => ?_, fun _ _ _ z => z⟩, ok.frz h nP ng, show upd W.I q _ q = _ from upd_same⟩
    show upd W.I q _ b = none
    rw [upd_ne (fun y => by
      subst y
      rw [h] at hb
      exact t _ (Option.some.inj hb).symm)]
    exact n
theorem extN {kvs : List (List Key × V)} {bs : List Addr} (hk : IsKeys H kvs bs) (ok : Ok g W H) : ∃ W', Stp W H W' H ∧ Ok g W' H ∧ Paired (fun p b => W'.I b = some (.tup (p.1.map kV))) kvs bs := by
  unfold IsKeys at hk
  induction hk generalizing W with
  | nil => exact ⟨W, Stp.refl, ok, .nil⟩
  | @cons p b kvs bs h t ih =>
    obtain ⟨W1, s1, ok1, e1⟩ := ext1 ok h
    obtain ⟨W2, s2, ok2, e2⟩ := ih ok1
    exact ⟨W2, s1.trans ok1 s2, ok2, .cons (s2.I _ _ e1) e2⟩
end
/-- the keys, as tuples -/
def keysD (kvs : List (List Key × D)) : List D := kvs.map fun p => tD p.1
theorem dns_keysOf {K : PySem.W.Frag} {I : Hp} : ∀ {kvs : List (List Key × D)} {ws : List (List Key × V)} {bs : List Addr}, Dnt K I kvs ws → Paired (fun p b => I b = some (.tup (p.1.map kV))) ws bs → Dns K I (keysD kvs) (bs.map V.ref)
  | _, _, _, .nil, .nil => .nil
  | _, _, _, .cons (f := f) _ r, .cons h t => .cons (.tup h (keys_dns f)) (dns_keysOf r t)
section
variable {X : Cx} {B : Hp} {W0 : Wd} {S : En} {pos px p1 p : Pos} {Q : D → Prop} {a b c e : Expr} {E : Ends'} {x : Str} {st : Stmt} {sts : List Stmt} {kvs : List (List Key × D)}
/-- [elt for g in d] -/
theorem fd_lcK {elt tg iter : Expr} {scope : Scope} {own : List (Str × Nat)} {g : TG} {Q : List D → Prop} (J : Nat → List D → Prop) (S' : D → En) (hc : X.calm = true) (hN : X.N.Nodup) (ok : BlkOk X.N X.env.scope scope own)
    (hg : ∀ (s : Shared) (H : Hp) (C : Addr) (cl : List (Str × Addr)) (fp : List Addr), PG (X.blk s H scope (compEnvC scope cl C X.env) fp) tg g)
    (h : ED X B S iter fun d => d = .dcT kvs ∧ kvs.length ≤ 50000 ∧ J 0 []) (hp : ∀ d, Pat X.K g (own.map (·.2)) S d (S' d))
    (he : ∀ (i : Nat) k d acc, kvs[i]? = some (k, d) → acc.length = i → J i acc → ∀ (s : Shared) (H0 : Hp) (C : Addr) (cl : List (Str × Addr)) (fp : List Addr), ED (X.blk s H0 scope (compEnvC scope cl C X.env) fp) B (S' (tD k)) elt fun y => J (i + 1) (acc ++ [y]))
    (hd : ∀ acc, acc.length = kvs.length → J kvs.length acc → Q acc) (hs : ∀ x, foldedSetIterable iter X.env x = pure x := by intro _; rfl) : FD X B S (.ListComp elt [⟨tg, iter, [], 0⟩] scope pos) Q := fun σ W H r R k => by
  refine PE.w (pe_lc (te := WEb X scope elt) hc hN (pi_keys we_pe) ok hg (fun _ _ _ _ _ => pts_nil) web_pe hs) ?_
  refine h σ W H r _ fun d v W1 H1 s1 ok1 n1 q1 => ?_
  obtain ⟨rfl, hz, j0⟩ := q1
  cases n1 with
  | @dcT _ a o ws ha m =>
    have hlw := m.length
    refine ⟨a, o, rfl, .inr ⟨ws, ok1.ex _ _ ha, fun p hp0 => ?_⟩⟩
    have r1 := r.step s1 ok1
    refine lc_it walk_keysT (fun i H' => ∃ acc W', Mid X.K (gOf X) W1 H1 p acc W' H' ∧ acc.length = i ∧ J i acc) ⟨[], W1, ⟨Stp.own hp0, ok1.own hp0, ok1.notP hp0, ok1.free hp0, [], upd_same, .nil⟩, rfl, j0⟩
      (fun i H' _ ⟨acc, W', mm, _⟩ => mm.ok.ex _ _ (mm.st.I _ _ ha)) ?_ ?_
    · rintro i y H' H2 hi ⟨acc, W', mm, hl, j⟩ ⟨rfl, k1, v1, q, hw, rfl, hq⟩
      obtain ⟨d, hd', nd⟩ := m.get hw
      obtain ⟨W2, s2, ok2, hI⟩ := ext1 mm.ok hq
      have mm2 := mm.step s2 ok2
      have r2 := r1.step mm2.st mm2.ok
      refine hp (tD k1) (gOf X) B σ W2 H2 _ r2 (.tup hI (keys_dns k1)) _ fun σ2 e2 r3 => ⟨e2, ?_⟩
      show WEb X scope elt σ2 H2 _
      intro s H0 C cl fp
      refine he i k1 d acc hd' hl j s H0 C cl fp σ2 W2 H2 r3 _ fun y W3v W3 H3 s3 ok3 n3 q3 => ?_
      obtain ⟨xs', e1, e3, m3⟩ := (mm2.step s3 ok3).more hp0 n3 (by omega)
      exact ⟨xs', e1, e3, _, W3, m3, by simp [hl], q3⟩
    · rintro H' ⟨acc, W', mm, hl, j⟩
      obtain ⟨ys, hH, ds⟩ := mm.h
      rw [← hlw] at hl j
      exact k acc p ys W' H' (s1.trans ok1 mm.st) mm.ok (s1.free ok1 hp0) mm.n mm.i hH ds (hd acc hl j)
/-- len(d) -/
theorem call_len_dTr : CallR X (.builtin "len") (fun xs H Q => ∃ a ws, xs = [V.ref a] ∧ Rd H a (.dT ws) ∧ Q (.int (ws.length : Int)) H) := by
  intro pins t τ H xs us Q J r q
  obtain ⟨a, ws, rfl, ha, q⟩ := q
  rw [Vals.ref1 r]
  obtain ⟨z, hd, ys, rel, dd⟩ := dt_rd J.hok ha
  have e : ws.length = ys.length := Paired.length rel
  have z' : ys.length ≤ sizeLine := e ▸ z
  refine call_len_dictH hd dd (by rw [sizeLine_eq] at z'; omega) ?_
  rw [← e]
  exact ⟨.int (ws.length : Int), H, J.tok _, ⟨_, rfl⟩, q⟩
theorem cd_lenT (q : Q (.int (kvs.length : Int))) : CD X (.builtin "len") [.val (.dcT kvs)] Q := cd_of call_len_dTr fun vs W H ok ha R c => by
  obtain ⟨v, rfl, m⟩ := one_arg ha
  cases m with
  | @dcT _ a o ws hp m =>
    refine ⟨a, ws, rfl, .inr ⟨o, ok.ex _ _ hp⟩, ?_⟩
    rw [← m.length]
    exact c.now ok (.int _) q
end
end DL

set_option Elab.async false
set_option linter.all false
set_option maxRecDepth 100000
set_option maxHeartbeats 4000000
/-! {k: v for ..}, the keys tuples; lists of tuples of ints sorted -/
namespace DL
open PySem PySem.Spec PyProof.Rows L2
section
variable {X : Cx}
/-- one entry more, by a comprehension -/
theorem put_dT {pins : List (Addr × Obj)} {τ : L2.St} {G : Hp} {t : Shared} {E : Value → Shared → Prop} {D b : Addr} {ws : List (List Key × V)} {ks : List Key} {z : V} {u : Value} {R : Unit → Shared → Prop} (hu : X.A.units + 1 < cLine) (J : Inv X pins τ G t) (hD : G D = some (.dT ws)) (hw : ws.length < sizeLine)
    (hb : G b = some (.tup (ks.map kV))) (rz : RelV z u) (k : ∀ t', Inv X pins τ (upd G D (.dT (putK ws ks z))) t' → R () t') : wpAny (model X.prog X.w) X.A (dictSet D (.ref b) u) R E t := by
  obtain ⟨le, ns, ys, rel, at_⟩ := dt_of J.hok hD
  have le2 : ys.length ≤ sizeLine := (Paired.length rel) ▸ le
  have fit : (putK ws ks z).length ≤ sizeLine := Nat.le_trans (length_putK ws ks z) hw
  refine wpAny_dictSet_heap (hsz := le2) (Nat.lt_of_succ_lt hu) (key_of J.hok hb) at_ fun h' at2 same => k _ ?_
  obtain ⟨oD, es, ep, gD, x1, x2, x3, _, x5⟩ := at2
  refine d_write J (by rw [hD]; trivial) same ⟨oD, gD⟩ ⟨fit, ns, _, KT.keeps (rel.put ks hb rz) (fun c zs ec => ?_), oD, es, ep, gD, x1, x2, x3, x5⟩
  have : c ≠ D := fun e => by rw [e, hD] at ec; cases ec
  rw [upd_ne this, ec]
/-- {k: v for g in ..}: D the new dict -/
def tDcT (wi : TI) (g : TG) (tk tv : TE) (vs : List Nat) : TE := fun σ H Q => wi σ H fun Y H1 => ∀ D, H1 D = none → ∃ Z : Nat → Nat → Hp → Prop, (∃ m, Z 0 m (upd H1 D (.dT []))) ∧ ∀ i m G, Z i m G →
  (Y.stop i G ∧ Q (.ref D) G) ∨ (Y.go i G ∧ ∃ Nx : Hp → Prop, (∀ G', Nx G' → ∃ m', m' < m ∧ Z (i + 1) m' G') ∧ ∀ x G', Y.yld i G x G' → g x (wipe σ vs) G' fun τ G2 => wipe τ vs = wipe σ vs ∧
    tk τ G2 fun y G3 => tv τ G3 fun z G4 => ∃ ws ks b, y = .ref b ∧ G4 b = some (.tup (ks.map kV)) ∧ G4 D = some (.dT ws) ∧ ws.length < sizeLine ∧ Nx (upd G4 D (.dT (putK ws ks z))))
theorem pe_dcT {kx vx tg iter : Expr} {scope : Scope} {own : List (Str × Nat)} {pos : Pos} {wi : TI} {g : TG} {tk tv : TE} (hc : X.calm = true) (hu : X.A.units + 1 < cLine) (hN : X.N.Nodup) (hi : PI X tg iter wi) (ok : BlkOk X.N X.env.scope scope own) (hg : AllBlk X scope fun Y => PG Y tg g)
    (hk : AllBlk X scope fun Y => PE Y kx tk) (hv : AllBlk X scope fun Y => PE Y vx tv) (hs : ∀ x, foldedSetIterable iter X.env x = pure x := by intro _; rfl) : PE X (.DictComp kx vx [⟨tg, iter, [], 0⟩] scope pos) (tDcT wi g tk tv (own.map (·.2))) := by
  refine ⟨fun pins t σ H Q J h => ?_⟩
  rw [arm_eval_DictComp]
  have known : ∀ y ∈ scope.names, y.2 = .free → ∃ c, X.env.cells.lookup y.1 = some c := fun y my e => (ok.free y my e).elim (fun k => J.ok.has _ (Or.inl k)) (fun k => J.ok.has _ (Or.inr k))
  refine wpAny_comprehension_free rfl hs (closure_ok known) ok.kind (fun y my e => (ok.uniq y my).trans (congrArg some e)) (thn (hi.run pins t σ H _ J h) fun xv t1 hx => thn hx fun itv t2 hit => ?_)
  obtain ⟨it, fp, tn, Y, H2, rfl, J2, T, stay, fpOk, turns⟩ := hit
  refine wpAny_newObj_type (newEnv_comp ?_)
  generalize eD : t2.heap.objs.size = D
  obtain ⟨Z, ⟨m0, z0⟩, turn⟩ := turns D (J2.hok.fresh (Nat.le_of_eq eD))
  generalize e3 : ({ t2 with heap := t2.heap.push { cls := .type "dict", data := .dict #[] } } : Shared) = t3
  have hp3 : t3.heap = t2.heap.push { cls := .type "dict", data := .dict #[] } := by rw [← e3]
  have J3 : Inv X pins σ (upd H2 D (.dT [])) t3 := by
    subst e3 eD
    exact J2.laid (t' := t2.toks) (fun b o e => Heap.get?_push_of_some _ e) (Nat.le_refl _) (dt_empty t2.heap J2.big)
  have below : ∀ b ∈ fp, b < D := fun b mb => by
    obtain ⟨o, e, _⟩ := T.obj _ _ stay b mb
    exact eD ▸ Heap.lt_size e
  generalize eG : upd H2 D (.dT []) = G0 at J3 z0
  have fp3 : ∀ b ∈ fp, FpOk X pins G0 b ∧ b < t3.heap.objs.size := fun b mb => by
    have lt := below b mb
    refine ⟨⟨?_, (fpOk b mb).2⟩, by rw [hp3, Heap.size_push, eD]; exact Nat.lt_succ_of_lt lt⟩
    rw [← eG, upd_ne (Nat.ne_of_lt lt)]
    exact (fpOk b mb).1
  have stay3 : tn 0 t3.heap := T.keep _ _ _ stay fun b _ o e => hp3 ▸ Heap.get?_push_of_some _ e
  have J4 := block_start J3 ok hN fp3
  generalize eC : cellsFrom (t3.heap.objs.size + 1) scope.names (cloFrom X.env.cells scope.names []) = cs at J4
  have pg := hg t3 G0 t3.heap.objs.size cs fp
  have pk := hk t3 G0 t3.heap.objs.size cs fp
  have pv := hv t3 G0 t3.heap.objs.size cs fp
  generalize eE : compEnvC scope cs t3.heap.objs.size X.env = ce at J4 pg pk pv
  have loc : ce.locals = t3.heap.objs.size := by rw [← eE]; rfl
  have start : codeAny (model X.prog X.w) X.A (.compStart (.DictComp kx vx [⟨tg, iter, [], 0⟩] scope pos) 0 (.ref it) (.ref D) ce) (compPost (model X.prog X.w) X.A X.xe none (EP X pins σ Q) (.ref D) t3.heap.objs.size)
      { t3 with heap := pushCells (t3.heap.push { cls := .type "dict", data := .dict #[] }) scope.names } := by
    generalize e4 : ({ t3 with heap := pushCells (t3.heap.push { cls := .type "dict", data := .dict #[] }) scope.names } : Shared) = t4 at J4
    have stay4 : tn 0 t4.heap := T.keep _ _ _ stay3 fun b _ o e => by rw [← e4]; exact pushCells_keeps _ _ _ _ (Heap.get?_push_of_some _ e)
    have fpS : ∀ {τ : L2.St} {G : Hp} {u : Shared}, Inv (X.blk t3 G0 scope ce fp) [] τ G u → (∀ b ∈ fp, G b = none) → ∀ b ∈ fp, FpOk (X.blk t3 G0 scope ce fp) [] G b := fun {τ G u} I' no b mb =>
      ⟨no b mb, (I'.ok.exf b mb).1, I'.ok.exfs b mb, .inl mb, fun x c e => (I'.ok.exf b mb).2 x c e, fun p mp => absurd (show p ∈ ([] : List (Addr × Obj)) ++ [] from mp) (by simp)⟩
    have goes : codeAny (model X.prog X.w) X.A (.compLoop (.DictComp kx vx [⟨tg, iter, [], 0⟩] scope pos) 0 (.ref it) (.ref D) ce) (compPost (model X.prog X.w) X.A X.xe none (EP X pins σ Q) (.ref D) t3.heap.objs.size) t4 := by
      refine compLoop_anyD (fun n u => ∃ i G, Inv (X.blk t3 G0 scope ce fp) [] (wipe σ (own.map (·.2))) G u ∧ tn i u.heap ∧ (∀ b ∈ fp, G b = none) ∧ Z i n G) ?_ m0 ⟨0, G0, J4, stay4, fun b mb => (fp3 b mb).1.1, z0⟩
      rintro n t5 ⟨i, G5, J5, stay5, no5, z5⟩
      rcases turn i n G5 z5 with ⟨stop, fin⟩ | ⟨go, Nx, less, step⟩
      · refine thnF (T.done (X.blk t3 G0 scope ce fp) rfl rfl rfl hc i [] t5 _ G5 (fun _ _ => False) J5 (fpS J5 no5) stay5 stop) fun r t6 ⟨er, J6⟩ => ?_
        subst er
        have J7 : Inv X pins σ G5 t6 := J3.call' (ch := fp) J6.os J6.base J6.hok J6.bare fun b mb => by
          obtain ⟨_, a1, a2, a3, a4, a5⟩ := (fp3 b mb).1
          exact ⟨a3, a1, a4, a5⟩
        obtain ⟨m, ns, _⟩ := J6.loc
        have ns' : t6.heap.Ns ce.locals m := ns
        rw [loc] at ns'
        have noC : G5 t3.heap.objs.size = none := by
          have := J6.free
          rw [show (X.blk t3 G0 scope ce fp).env.locals = ce.locals from rfl, loc] at this
          exact this
        obtain ⟨f0, f1, f2, f3, f4, f5⟩ := J3.fpOk (H' := G5) (Nat.le_refl _) noC
        exact ⟨m, ns', fun h'' sb => ⟨.ref D, G5, J7.turned (t' := t6.toks) (fun b o nb e => (sb.2 b nb).trans e) f0 f1 f3 f4 f5, rfl, fin⟩⟩
      · refine thnF (T.item (X.blk t3 G0 scope ce fp) rfl rfl rfl hc i [] t5 _ G5 (fun _ _ => False) J5 (fpS J5 no5) stay5 go) fun r t6 ⟨u, er, goes6⟩ => ?_
        subst er
        refine thnF goes6 fun _ t7 ⟨x, G7, J7, r7, y7, stay7, no7⟩ => ?_
        refine thnF (pg.run _ t7 _ G7 x u _ (J7.pinned (fpS J7 no7) (T.obj _ _ stay7)) r7 (step x G7 y7)) fun _ t8 ⟨τ, G8, J8, wiped, q8⟩ => ?_
        refine thnF ((pts_nil (X := X.blk t3 G0 scope ce fp)).run _ t8 τ G8 (fun b G => b = true ∧ G = G8) J8 ⟨rfl, rfl⟩) fun b t9 ⟨G9, J9, eb, eG9⟩ => ?_
        subst eb eG9
        show wpAny _ _ (eval kx ce) _ _ t9
        refine thnF (pk.run _ t9 τ G9 _ J9 q8) fun kv ta ⟨y, Ga, Ja, ry, qa⟩ => ?_
        refine thnF (pv.run _ ta τ Ga _ Ja qa) fun vv tb ⟨w', Gb, Jb, rw', ws, ks, q, ey, hq, hD, hw, nx⟩ => ?_
        subst ey
        cases (show kv = Value.ref q from ry)
        refine put_dT (X := X.blk t3 G0 scope ce fp) hu Jb hD hw hq rw' fun tc Jc => ?_
        obtain ⟨m', lt, z6⟩ := less _ nx
        have same : ∀ b ∈ fp, ∀ o, t7.heap.get? b = some o → tc.heap.get? b = some o ∧ upd Gb D (.dT (putK ws ks w')) b = none := fun b mb o e => by
          have z := Jc.pin (b, o) (List.mem_append_right _ (List.mem_append_right _ (mem_pinsAt mb e)))
          exact ⟨z.1, z.2.1⟩
        have hl : (wipe σ (own.map (·.2))).length = τ.length := by rw [← wiped, wipe_length]
        refine ⟨m', lt, i + 1, _, (Jc.unpinned (pins := [])).weak hl (fun j v e => ?_), T.keep _ _ _ stay7 fun b mb o e => (same b mb o e).1, fun b mb => ?_, z6⟩
        · rw [← wiped] at e
          exact (wipe_some e).1
        · obtain ⟨o, e, _⟩ := T.obj _ _ stay7 b mb
          exact (same b mb o e).2
    exact codeAny_compStart_dict goes (T.self X.A 0 _ _ _ stay4 goes)
  rw [← eE] at start
  exact start
end
end DL

set_option Elab.async false
set_option linter.all false
set_option maxRecDepth 100000
set_option maxHeartbeats 4000000
/-! {k: v for .. in a list}; sorted of tuples of ints, as data -/
namespace DL
open PySem PySem.Spec PyProof.Rows L2
theorem putE_len (kvs : List (List Key × D)) (k : List Key) (d : D) : (putE kvs k d).length ≤ kvs.length + 1 := by
  unfold putE
  split
  · rw [List.length_map]; omega
  · simp
theorem dct_it {J : It} {n : Nat} {G : Hp → Prop} {Y : Nat → Hp → V → Hp → Prop} (w : Walk J n G Y) {g : TG} {tk tv : TE} {vs : List Nat} {σ : L2.St} {H1 : Hp} {D : Addr} {Qd : Hp → Prop} (Pv : Nat → Hp → Prop) (h0 : Pv 0 (upd H1 D (.dT []))) (hG : ∀ i H, i ≤ n → Pv i H → G H)
    (hs : ∀ i x H H', i < n → Pv i H → Y i H x H' → g x (wipe σ vs) H' fun σ2 H2 => wipe σ2 vs = wipe σ vs ∧ tk σ2 H2 fun y H3 => tv σ2 H3 fun z H4 => ∃ ws ks b, y = .ref b ∧ H4 b = some (.tup (ks.map kV)) ∧ H4 D = some (.dT ws) ∧ ws.length < sizeLine ∧ Pv (i + 1) (upd H4 D (.dT (putK ws ks z)))) (hd : ∀ H, Pv n H → Qd H) :
    ∃ Z : Nat → Nat → Hp → Prop, (∃ m, Z 0 m (upd H1 D (.dT []))) ∧ ∀ i m H, Z i m H → (J.stop i H ∧ Qd H) ∨ (J.go i H ∧ ∃ Nx : Hp → Prop, (∀ H', Nx H' → ∃ m', m' < m ∧ Z (i + 1) m' H') ∧ ∀ x H', J.yld i H x H' → g x (wipe σ vs) H' fun σ2 H2 => wipe σ2 vs = wipe σ vs ∧
      tk σ2 H2 fun y H3 => tv σ2 H3 fun z H4 => ∃ ws ks b, y = .ref b ∧ H4 b = some (.tup (ks.map kV)) ∧ H4 D = some (.dT ws) ∧ ws.length < sizeLine ∧ Nx (upd H4 D (.dT (putK ws ks z)))) := by
  refine ⟨fun i m H => m = n - i ∧ i ≤ n ∧ Pv i H, ⟨n, rfl, Nat.zero_le _, h0⟩, fun i m H ⟨em, hi, p⟩ => ?_⟩
  have hg := hG i H hi p
  rcases Nat.lt_or_ge i n with lt | ge
  · exact .inr ⟨w.goes i H lt hg, Pv (i + 1), fun H' p' => ⟨n - (i + 1), by omega, rfl, lt, p'⟩, fun x H' y => hs i x H H' lt p (w.yields i H x H' lt hg y)⟩
  · have : i = n := by omega
    subst this
    exact .inl ⟨w.stops H hg, hd H p⟩
/-- at an address of one's own: the dict so far -/
structure MidT (K : PySem.W.Frag) (g : List Code) (W1 : Wd) (H1 : Hp) (p : Addr) (l : List (List Key × D)) (W : Wd) (H : Hp) : Prop where
  st : Stp W1 H1 W H
  ok : Ok g W H
  n : ¬ W.P p
  i : W.I p = none
  h : ∃ ws, H p = some (.dT ws) ∧ Dnt K W.I l ws
theorem MidT.step {K : PySem.W.Frag} {g : List Code} {W1 W W2 : Wd} {H1 H H2 : Hp} {p : Addr} {l : List (List Key × D)} (m : MidT K g W1 H1 p l W H) (a : Stp W H W2 H2) (ok : Ok g W2 H2) : MidT K g W1 H1 p l W2 H2 := by
  obtain ⟨ws, hp, d⟩ := m.h
  exact ⟨m.st.trans m.ok a, ok, fun z => m.n (a.oldP p _ hp z), a.old p _ hp (fun _ z => by cases z) m.i, ws, a.keep p _ hp m.n, d.mono a.I⟩
theorem MidT.more {K : PySem.W.Frag} {g : List Code} {W1 W : Wd} {H1 H : Hp} {p : Addr} {l : List (List Key × D)} {k : List Key} {d : D} {v : V} (hp0 : H1 p = none) (m : MidT K g W1 H1 p l W H) (hd : Dn K W.I d v) (hl : l.length < 60000) :
    ∃ ws, H p = some (.dT ws) ∧ ws.length < sizeLine ∧ MidT K g W1 H1 p (putE l k d) W (upd H p (.dT (putK ws k v))) := by
  obtain ⟨ws, hp, ds⟩ := m.h
  exact ⟨ws, hp, Nat.lt_of_lt_of_le (ds.length ▸ hl) (by decide), stp_upd m.st hp0, ok_upd m.ok m.n m.i, m.n, m.i, _, upd_same, ds.put hd⟩
section
variable {X : Cx} {B : Hp} {W0 : Wd} {S : En} {pos px p1 p : Pos} {Q : D → Prop} {a b c e : Expr} {E : Ends'} {x : Str} {kvs : List (List Key × D)}
/-- {kx: vx for g in a list} -/
theorem ft_dcL {kx vx tg iter : Expr} {scope : Scope} {own : List (Str × Nat)} {g : TG} {l : List D} {Q : List (List Key × D) → Prop} (J : Nat → List (List Key × D) → Prop) (S' : D → En) (hc : X.calm = true) (hu : X.A.units + 1 < cLine) (hN : X.N.Nodup) (ok : BlkOk X.N X.env.scope scope own)
    (hg : AllBlk X scope fun Y => PG Y tg g) (h : ED X B S iter fun d => d = .lst l ∧ l.length ≤ 50000 ∧ J 0 []) (hp : ∀ d ∈ l, Pat X.K g (own.map (·.2)) S d (S' d))
    (he : ∀ (i : Nat) d acc, l[i]? = some d → J i acc → AllBlk X scope fun Y => ED Y B (S' d) kx fun y => ∃ k, y = tD k ∧ AllBlk X scope fun Y => ED Y B (S' d) vx fun z => J (i + 1) (putE acc k z))
    (hd : ∀ acc, J l.length acc → Q acc) (hs : ∀ x, foldedSetIterable iter X.env x = pure x := by intro _; rfl) : FT X B S (.DictComp kx vx [⟨tg, iter, [], 0⟩] scope pos) Q := fun σ W H r R k => by
  refine PE.w (pe_dcT (tk := WEb X scope kx) (tv := WEb X scope vx) hc hu hN (pi_list we_pe) ok hg web_pe web_pe hs) ?_
  refine h σ W H r _ fun d v W1 H1 s1 ok1 n1 q1 => ?_
  obtain ⟨rfl, hz, j0⟩ := q1
  cases n1 with
  | @lst _ a xs ha m =>
    refine ⟨a, rfl, ⟨xs, SqL.of (ok1.ex _ _ ha)⟩, fun p hp0 => ?_⟩
    have r1 := r.step s1 ok1
    have hlx := m.length
    refine dct_it walk_list (fun i H' => ∃ acc W', MidT X.K (gOf X) W1 H1 p acc W' H' ∧ acc.length ≤ i ∧ J i acc) ⟨[], W1, ⟨Stp.own hp0, ok1.own hp0, ok1.notP hp0, ok1.free hp0, [], upd_same, .nil⟩, Nat.le_refl _, j0⟩
      (fun i H' _ ⟨acc, W', mm, _⟩ => SqL.of (mm.ok.ex _ _ (mm.st.I _ _ ha))) ?_ ?_
    · rintro i y H' H2 hi ⟨acc, W', mm, hl, j⟩ ⟨rfl, hx⟩
      obtain ⟨d, hd', nd⟩ := m.get hx
      have r2 := r1.step mm.st mm.ok
      refine hp d (List.mem_of_getElem? hd') (gOf X) B σ W' H2 y r2 (nd.mono mm.st.I) _ fun σ2 e2 r3 => ⟨e2, ?_⟩
      show WEb X scope kx σ2 H2 _
      intro s H0 C cl fp
      refine he i d acc hd' j s H0 C cl fp σ2 W' H2 r3 _ fun y W3v W3 H3 s3 ok3 n3 q3 => ?_
      obtain ⟨k1, rfl, q3⟩ := q3
      obtain ⟨bq, rfl, hb⟩ := dn_tupkey ok3 n3
      show WEb X scope vx σ2 H3 _
      intro s' H0' C' cl' fp'
      refine q3 s' H0' C' cl' fp' σ2 W3 H3 (r3.step s3 ok3) _ fun z W4v W4 H4 s4 ok4 n4 q4 => ?_
      have st := s3.trans ok3 s4
      obtain ⟨ws, e1, e3, m4⟩ := (mm.step st ok4).more (k := k1) hp0 n4 (by omega)
      have hb4 : H4 bq = some (.tup (k1.map kV)) := s4.keep _ _ hb fun z => by
        obtain ⟨x1, x2, e, _⟩ := (ok3.pot bq z).2
        rw [hb] at e
        cases e
      exact ⟨ws, k1, bq, rfl, hb4, e1, e3, _, W4, m4, Nat.le_trans (putE_len _ _ _) (by omega), q4⟩
    · rintro H' ⟨acc, W', mm, hl, j⟩
      obtain ⟨ys, hH, ds⟩ := mm.h
      rw [← hlx] at j
      exact k acc p ys W' H' (s1.trans ok1 mm.st) mm.ok (s1.free ok1 hp0) mm.n mm.i hH ds (hd acc j)
end
/-! ### sorted -/
abbrev tI (l : List Int) : D := .tup (l.map D.int)
abbrev ik (l : List Int) : List Key := l.map Sum.inl
theorem tD_ik (l : List Int) : tD (ik l) = tI l := by simp [tD, tI, ik, kD, Function.comp_def]
section
variable {K : PySem.W.Frag} {I : Hp}
theorem dns_perm {ys xs : List V} (p : ys.Perm xs) : ∀ {ls : List (List Int)}, Dns K I (ls.map tI) xs → ∃ ls' : List (List Int), ls'.Perm ls ∧ Dns K I (ls'.map tI) ys := by
  induction p with
  | nil =>
    intro ls h
    exact ⟨ls, .refl _, h⟩
  | cons x _ ih =>
    intro ls h
    match ls, h with
    | l :: ls, .cons h1 h2 =>
      obtain ⟨ls', q, h3⟩ := ih h2
      exact ⟨l :: ls', q.cons l, .cons h1 h3⟩
  | swap x y zs =>
    intro ls h
    match ls, h with
    | a :: b :: ls, .cons h1 (.cons h2 h3) => exact ⟨b :: a :: ls, .swap a b ls, .cons h2 (.cons h1 h3)⟩
  | trans _ _ ih1 ih2 =>
    intro ls h
    obtain ⟨l1, q1, h1⟩ := ih2 h
    obtain ⟨l2, q2, h2⟩ := ih1 h1
    exact ⟨l2, q2.trans q1, h2⟩
theorem dn_tupI {W : Wd} {H : Hp} {g : List Code} (ok : Ok g W H) {l : List Int} {v : V} (n : Dn K W.I (tI l) v) : TupI K H v l := by
  cases n with
  | tup h m =>
    rw [Dns.ints m] at h
    exact ⟨_, rfl, SqT.of (ok.ex _ _ h)⟩
theorem dns_pair {W : Wd} {H : Hp} {g : List Code} (ok : Ok g W H) {R : List Int → List Int → Prop} : ∀ {ls : List (List Int)} {ys : List V}, Dns K W.I (ls.map tI) ys → ys.Pairwise (fun x y => ∀ n m, TupI K H x n → TupI K H y m → R n m) → ls.Pairwise R
  | [], _, _, _ => .nil
  | l :: ls, _, .cons h1 h2, p => by
    rw [List.pairwise_cons] at p
    refine .cons (fun l' hl' => ?_) (dns_pair ok h2 p.2)
    obtain ⟨j, hj, e⟩ := List.getElem_of_mem hl'
    obtain ⟨v, hv, nv⟩ := h2.get' (i := j) (d := tI l') (by rw [List.getElem?_map, List.getElem?_eq_getElem hj, e]; rfl)
    exact p.1 v (List.mem_of_getElem? hv) l l' (dn_tupI ok h1) (dn_tupI ok nv)
end
end DL

set_option Elab.async false
set_option linter.all false
set_option maxRecDepth 100000
set_option maxHeartbeats 4000000
/-! sorted(d), the keys tuples of ints -/
namespace DL
open PySem PySem.Spec PyProof.Rows L2
theorem keyPairs {H : Hp} {P : Program} {w : World} {h : Heap} (ok : HOk P w H h) : ∀ {kvs : List (List Key × V)} {ks : List (List Key × Addr × Value)}, KT H kvs ks → IsKeys H kvs (ks.map fun x => x.2.1)
  | _, _, .nil => .nil
  | _, _, .cons h t => .cons h.2.1 (keyPairs ok t)
theorem accKeys {ks : List (List Key × Addr × Value)} {es : Array DictEntry} {acc : List Value} {P : Program} {w : World} (he : es.toList = ks.map (entryOfKey (tupleKind (mixKind P w)))) (hl : acc.length = ks.length) (hi : ∀ (j : Nat) v, acc[j]? = some v → ∃ en : DictEntry, es[j]? = some en ∧ v = en.key) :
    acc = (ks.map fun x => x.2.1).map Value.ref := by
  apply List.ext_getElem?
  intro j
  rw [List.getElem?_map, List.getElem?_map]
  rcases Nat.lt_or_ge j ks.length with lt | ge
  · have ej : acc[j]? = some (acc[j]'(hl ▸ lt)) := List.getElem?_eq_getElem _
    obtain ⟨en, e1, e2⟩ := hi j _ ej
    have e3 := entry_at he j
    rw [e1, List.getElem?_eq_getElem lt] at e3
    rw [ej, e2, List.getElem?_eq_getElem lt, Option.some.inj e3]
    rfl
  · rw [List.getElem?_eq_none (by omega), List.getElem?_eq_none ge]
    rfl
theorem Itemz {H : Hp} {kvs : List (List Key × V)} {bs : List Addr} (h : IsKeys H kvs bs) (j : Nat) (hj : j < kvs.length) : ∃ b, bs[j]? = some b ∧ H b = some (.tup (kvs[j].1.map kV)) := by
  obtain ⟨b, e, r⟩ := paired_get h (List.getElem?_eq_getElem hj)
  exact ⟨b, e, r⟩
theorem keysD_ik {kvs : List (List Key × D)} {ls : List (List Int)} (h : kvs.map (·.1) = ls.map ik) : keysD kvs = ls.map tI := by
  have : keysD kvs = (kvs.map (·.1)).map tD := by unfold keysD; rw [List.map_map]; rfl
  rw [this, h, List.map_map]
  exact List.map_congr_left fun l _ => tD_ik l
end DL

set_option Elab.async false
set_option linter.all false
set_option maxRecDepth 100000
set_option maxHeartbeats 4000000
/-! dict(l), l a list of pairs (tuple, value) -/
namespace DL
open PySem PySem.Spec PyProof.Rows L2
/-- one pair after another is put -/
def putAll (kvs more : List (List Key × D)) : List (List Key × D) := more.foldl (fun acc p => putE acc p.1 p.2) kvs
def putAllV (kvs more : List (List Key × V)) : List (List Key × V) := more.foldl (fun acc p => putK acc p.1 p.2) kvs
theorem putE_new {kvs : List (List Key × D)} {k : List Key} {d : D} (h : k ∉ kvs.map (·.1)) : putE kvs k d = kvs ++ [(k, d)] := by
  unfold putE
  rw [if_neg]
  intro z
  obtain ⟨p, hp, e⟩ := List.any_eq_true.mp z
  exact h (List.mem_map.mpr ⟨p, hp, of_decide_eq_true e⟩)
abbrev prD (p : List Key × D) : D := .tup [tD p.1, p.2]
section
variable {X : Cx} {B : Hp} {S : En} {pos p : Pos} {e : Expr}
end
end DL

set_option Elab.async false
set_option linter.all false
set_option maxRecDepth 100000
set_option maxHeartbeats 4000000
/-! == inside built-in sequences and dicts, by an own == where there is one: where all is equal -/
namespace DL
open PySem PySem.Spec PyProof.Rows L2
section
variable {prog : Program} {w : World} {A : Around} {E : Value → Shared → Prop}
theorem same_own {nm : String} {a b : Addr} {oa ob : Obj} {es es' : Array DictEntry} {ep ep' : Nat} {R : Bool → Shared → Prop} (na : (a == sysModules) = false) (nb : (b == sysModules) = false) (da : oa.data = .dict es ep) (db : ob.data = .dict es' ep') (hsz : es.size = es'.size) (Z : Nat → Shared → Prop)
    (get : ∀ i t, Z i t → t.heap.get? a = some oa ∧ t.heap.get? b = some ob)
    (turn : ∀ i (h : i < es.size) t, Z i t → ∃ j, ∃ hj : j < es'.size, (∀ Q : Option Nat → Shared → Prop, Q (some j) t → wpAny (model prog w) A (dictFind b es[i].key es[i].hash) Q E t) ∧ wpAny (model prog w) A (eqBool es[i].val es'[j].val) (fun r t' => r = true ∧ Z (i + 1) t') E t)
    (fin : ∀ t, Z es.size t → R true t) {t : Shared} (z : Z 0 t) : wpAny (model prog w) A (Builtin.Dict.samePairs nm a b) R E t := by
  obtain ⟨ga, gb⟩ := get 0 t z
  unfold Builtin.Dict.samePairs Builtin.Dict.showsAll
  rw [if_neg (by rw [na]; exact Bool.false_ne_true), if_neg (by rw [nb]; exact Bool.false_ne_true)]
  refine wpAny_bind (wpAny_pure (wpAny_bind (wpAny_pure (wpAny_bind (wpAny_dictEntries ga da ?_)))))
  dsimp only
  refine wpAny_bind (wpAny_dictEntries gb db ?_)
  rw [if_neg (by rw [hsz]; simp)]
  refine wpAny_bind (wpAny_dictEpoch ga da (wpAny_bind ?_))
  rw [Std.Legacy.Range.forIn_eq_forIn_range']
  simp only [Std.Legacy.Range.size, Nat.sub_zero, Nat.add_sub_cancel, Nat.div_one]
  refine wpAny_forIn_list _ (fun rest q t' => q = (none, ()) ∧ ∃ i, rest = List.range' i (es.size - i) ∧ i ≤ es.size ∧ Z i t') _ ?_ ?_ _ _ ⟨rfl, 0, by simp, Nat.zero_le _, z⟩
  · rintro x rest q t' ⟨rfl, i, er, le, z'⟩
    have lt : i < es.size := Nat.lt_of_not_le fun ge => by
      rw [Nat.sub_eq_zero_of_le ge] at er
      simp at er
    rw [show es.size - i = (es.size - (i + 1)) + 1 by omega, List.range'_succ] at er
    injection er with e1 e2
    subst e1
    obtain ⟨ga, gb⟩ := get x t' z'
    obtain ⟨j, hj, find, eq⟩ := turn x lt t' z'
    refine wpAny_bind (wpAny_dictEntries ga da ?_)
    rw [Array.getElem?_eq_getElem lt]
    show wpAny _ _ (holding [es[x].key, es[x].val] _ >>= _) _ _ _
    refine wpAny_bind (wpAny_holding (wpAny_bind (find _ ?_)))
    refine wpAny_bind (wpAny_dictEntries gb db ?_)
    rw [Array.getElem?_eq_getElem hj]
    refine wpAny_holding (wpAny_mono eq (fun r t2 hr => ?_) fun _ _ h => h)
    obtain ⟨rfl, z2⟩ := hr
    show wpAny _ _ (if (!true) = true then _ else _) _ _ _
    rw [if_neg (by decide)]
    refine wpAny_bind (wpAny_dictEpoch (get _ _ z2).1 da ?_)
    rw [if_neg (by simp)]
    exact wpAny_pure ⟨rfl, x + 1, e2, lt, z2⟩
  · rintro q t' ⟨rfl, i, er, le, z'⟩
    have : i = es.size := Nat.le_antisymm le (Nat.le_of_not_lt fun lt => by
      rw [show es.size - i = (es.size - (i + 1)) + 1 by omega, List.range'_succ] at er
      cases er)
    subst this
    exact wpAny_pure (fin t' z')
end
/-- behind what is compared: later worlds -/
def Later (X : Cx) (pins : List (Addr × Obj)) (τ : L2.St) (W : Wd) (H : Hp) (t : Shared) : Prop := ∃ W' H', Inv X pins τ H' t ∧ Stp W H W' H' ∧ Ok (gOf X) W' H'
def EqR (X : Cx) (n : Nat) (x y : D) : Prop := ∀ (A : Around) (pins : List (Addr × Obj)) (t : Shared) (τ : L2.St) (W : Wd) (H : Hp) (v u : V) (v' u' : Value), L2.Sub X n A → A.guards = some (gOf X) → Inv X pins τ H t → Ok (gOf X) W H → Dn X.K W.I x v → Dn X.K W.I y u → RelV v v' → RelV u u' →
  wpAny (model X.prog X.w) A (eqBool v' u') (fun r t' => r = true ∧ Later X pins τ W H t') X.xe t
def RcR (X : Cx) (n : Nat) (x y : D) : Prop := ∀ (A : Around) (pins : List (Addr × Obj)) (t : Shared) (τ : L2.St) (W : Wd) (H : Hp) (v u : V) (v' u' : Value), L2.Sub X n A → A.guards = some (gOf X) → Inv X pins τ H t → Ok (gOf X) W H → Dn X.K W.I x v → Dn X.K W.I y u → RelV v v' → RelV u u' →
  wpAny (model X.prog X.w) A (richCompare .Eq v' u') (fun r t' => r = .bool true ∧ Later X pins τ W H t') X.xe t
section
variable {X : Cx} {n m : Nat} {x y : D}
def refD : D → Bool
  | .tup _ | .lst _ | .obj _ _ | .dcT _ => true
  | _ => false
theorem Dn.ref {K : PySem.W.Frag} {I : Hp} {v : V} (h : refD x = true) (d : Dn K I x v) : ∃ a, v = .ref a := by
  cases d <;> first | exact ⟨_, rfl⟩ | cases h
theorem RcR.eq (h : RcR X n x y) (hx : refD x = true) (hy : refD y = true) : EqR X n x y := fun A pins t τ W H v u v' u' sb hG J ok dx dy rv ru => by
  obtain ⟨a, rfl⟩ := dx.ref hx
  obtain ⟨b, rfl⟩ := dy.ref hy
  cases rv
  cases ru
  by_cases e : a = b
  · subst e
    exact SeqAt.EqAt.same (A := A) (s := t) (.ref a) X.prog X.w X.xe _ ⟨rfl, W, H, J, Stp.refl, ok⟩
  · exact GQ.eqBool_refG e (wpAny_mono (h A pins t τ W H (.ref a) (.ref b) _ _ sb hG J ok dx dy rfl rfl) (fun r t' ⟨er, l⟩ => ⟨true, er, rfl, l⟩) fun _ _ q => q)
/-- instances, by their own == -/
theorem rcR_ins {C : Addr} {k : Nat} {sp : SpD} {fs gs : List (Str × D)} (N : Num X.K C) (F : Sm X.prog X.w X.K X.mg X.base C "__eq__" k sp) (q : sp [.val (.obj C fs), .val (.obj C gs)] fun d => d = .bl true) : RcR X k (.obj C fs) (.obj C gs) := fun A pins t τ W H v u v' u' sb hG J ok dx dy rv ru => by
  have aa := args2 dx dy
  have rr := vals2 rv ru
  cases id dx with
  | obj a1 _ => cases id dy with
    | obj a2 _ =>
      cases rv
      cases ru
      obtain ⟨ox, od, I1⟩ := inst_at J (ok.ex _ _ a1)
      obtain ⟨oy, oe, I2⟩ := inst_at J (ok.ex _ _ a2)
      obtain ⟨f, fd, ps, F, hf, hi, hb⟩ := F.ex
      obtain ⟨mm, hF⟩ := J.fr
      have e0 : Env0 X.prog X.w X.K X.mg X.base A X.stack t H := by
        have e := J.env0
        exact ⟨by rw [sb.fr]; exact e.frames, e.mod, e.bs, e.bsz, e.funs, e.frf, e.hok, e.bare⟩
      refine PySem.W.cmp_K (op := .Eq) (tb := .ref C) sb.room.units0 hF J.ok.mod.kin I1 I2.type N.nf hf hi ?_
      refine wpAny_call (run_gn (A := A) F sb.room hG e0 hb .nil J rr (Q := fun v H' => v = .bl true ∧ ∃ W', Stp W H W' H' ∧ Ok (gOf X) W' H') ?_ fun v t' hv => ?_)
      · rw [List.append_nil]
        exact ⟨_, W, _, ok, aa, q, fun d v W' H' st ok' dn e => by subst e; cases dn; exact ⟨rfl, W', st, ok'⟩⟩
      · obtain ⟨z, H', J', rz, rfl, W', st, ok'⟩ := hv
        cases rz
        exact ⟨rfl, W', H', J', st, ok'⟩
theorem rcR_dct {kvs kvs' : List (List Key × D)} (hl : kvs.length = kvs'.length) (h : ∀ k d, (k, d) ∈ kvs → ∃ e, look kvs' k = some e ∧ EqR X n d e) : RcR X (n + 1) (.dcT kvs) (.dcT kvs') := fun A pins t τ W H v u v' u' sb hG J ok dx dy rv ru => by
  cases dx with
  | @dcT _ a oa ws ha d1 => cases dy with
    | @dcT _ b ob us hb d2 =>
      cases rv
      cases ru
      obtain ⟨ga, z1, n1, rows, pr, o1, es, ep, g1, x1, da, he, nd⟩ := (show ObjOk X.prog X.w H t.heap a (.frz oa (.dT ws)) from J.hok a _ (ok.ex _ _ ha))
      rw [ga] at g1
      cases g1
      obtain ⟨gb, z2, n2, rows2, pr2, o2, es', ep', g2, x2, db, he2, nd2⟩ := (show ObjOk X.prog X.w H t.heap b (.frz ob (.dT us)) from J.hok b _ (ok.ex _ _ hb))
      rw [gb] at g2
      cases g2
      have l1 : es.size = rows.length := size_of_entries he
      have l2 : es'.size = rows2.length := size_of_entries he2
      have l3 : ws.length = rows.length := Paired.length pr
      have l4 : us.length = rows2.length := Paired.length pr2
      have l5 := d1.length
      have l6 := d2.length
      have ta : ∀ s : Shared, s.heap.get? a = some oa → s.TypeIs (.ref a) "dict" := fun s g => ⟨oa, g, x1.1⟩
      have tb : ∀ s : Shared, s.heap.get? b = some ob → s.TypeIs (.ref b) "dict" := fun s g => ⟨ob, g, x2.1⟩
      have get : ∀ (i : Nat) t', Later X pins τ W H t' → t'.heap.get? a = some oa ∧ t'.heap.get? b = some ob := by
        rintro i t' ⟨W', H', J', st, ok'⟩
        exact ⟨(J'.hok a _ (ok'.ex _ _ (st.I _ _ ha))).1, (J'.hok b _ (ok'.ex _ _ (st.I _ _ hb))).1⟩
      have turn : ∀ i (h : i < es.size) t', Later X pins τ W H t' → ∃ j, ∃ hj : j < es'.size, (∀ Q : Option Nat → Shared → Prop, Q (some j) t' → wpAny (model X.prog X.w) A.in1 (dictFind b es[i].key es[i].hash) Q X.xe t') ∧ wpAny (model X.prog X.w) A.in1 (eqBool es[i].val es'[j].val) (fun r t2 => r = true ∧ Later X pins τ W H t2) X.xe t' := by
        rintro i lt t' ⟨W', H', J', st, ok'⟩
        obtain ⟨ga', _, _, rows3, pr3, o3, es3, ep3, g3, _, da3, he3, _⟩ := (show ObjOk X.prog X.w H' t'.heap a (.frz oa (.dT ws)) from J'.hok a _ (ok'.ex _ _ (st.I _ _ ha)))
        rw [ga'] at g3
        cases g3
        rw [da] at da3
        cases da3
        obtain ⟨_, _, rows4, pr4, o4, es4, ep4, g4, _, db4, he4, his4, nd4⟩ := dt_rd J'.hok (show Rd H' b (.dT us) from .inr ⟨ob, ok'.ex _ _ (st.I _ _ hb)⟩)
        have gb' := (J'.hok b _ (ok'.ex _ _ (st.I _ _ hb))).1
        rw [gb'] at g4
        cases g4
        rw [db] at db4
        cases db4
        have hi : i < ws.length := by omega
        obtain ⟨⟨k, w1⟩, hw⟩ : ∃ p, ws[i]? = some p := ⟨_, List.getElem?_eq_getElem hi⟩
        obtain ⟨d, hd, nd1⟩ := d1.get hw
        obtain ⟨e, he', hEq⟩ := h k d (List.mem_of_getElem? hd)
        obtain ⟨⟨k1, b1, v1⟩, hr3, e1, e2, e3⟩ := paired_get pr3 hw
        simp only at e1 e2 e3
        subst e1
        have en := entry_at he3 i
        rw [hr3, Array.getElem?_eq_getElem lt] at en
        have en' : es[i] = ⟨tupleKeyHash (mixKind X.prog X.w) k, .ref b1, v1⟩ := Option.some.inj en
        obtain ⟨w2, hw2, nd2'⟩ := (dnt_look d2).1 e he'
        obtain ⟨p4, hp4, rp4⟩ := RelO.some_of (v := w2) (o := (atKey rows4 k).map (·.2)) (by rw [← hw2]; exact KT.val pr4 k)
        obtain ⟨q4, hq4, eq4⟩ := Option.map_eq_some_iff.mp hp4
        obtain ⟨j, hj4⟩ : ∃ j, rows4[j]? = some (k, q4) := by
          unfold atKey at hq4
          obtain ⟨x, hx, ex⟩ := Option.map_eq_some_iff.mp hq4
          have hm := List.mem_of_find?_eq_some hx
          have hk := List.find?_some hx
          obtain ⟨j, hj⟩ := List.mem_iff_getElem?.mp hm
          exact ⟨j, by rw [hj, ← ex, ← of_decide_eq_true hk]⟩
        have hjl : j < es'.size := by
          rw [size_of_entries he4]
          exact (List.getElem?_eq_some_iff.mp hj4).1
        have en4 := entry_at he4 j
        rw [hj4, Array.getElem?_eq_getElem hjl] at en4
        have en4' : es'[j].val = q4.2 := by rw [Option.some.inj en4]; rfl
        refine ⟨j, hjl, fun Q hQ => ?_, ?_⟩
        · rw [en']
          refine wpAny_dictFind_heap (knd := tupleKind (mixKind X.prog X.w)) (k := k) (show A.in1.units < cLine from sb.room.in1.units0) (key_of J'.hok e2) gb' db he4 his4 nd4 (fun hno => absurd hj4 (hno j q4)) fun j' p' hj' => ?_
          have : j' = j := idxH_unique nd4 hj' hj4
          rw [this]
          exact hQ
        · rw [en', en4']
          show wpAny _ _ (eqBool v1 q4.2) _ _ _
          rw [eq4]
          exact wpAny_mono (hEq A.in1 pins t' τ W' H' w1 w2 v1 p4 sb.in1 hG J' ok' (nd1.mono st.I) (nd2'.mono st.I) e3 rp4) (fun r t2 ⟨er, W2, H2, J2, st2, ok2⟩ => ⟨er, W2, H2, J2, st.trans ok' st2, ok2⟩) fun _ _ q => q
      refine wpAny_richCompare_same_room (op := .Eq) (ta t ga) (tb t gb) PySem.F.slot_dict_eq (wpAny_call_entry PySem.F.slot_dict_eq (ta t ga) PySem.F.entry_dict_eq ?_ (PySem.F.args_dict_eq_2 _ _)) sb.room.units0
      show wpAny _ _ (Builtin.Dict.dictSlotArgs "__eq__" ⟨[.ref a, .ref b], []⟩ >>= _) _ _ t
      refine wpAny_bind ?_
      unfold Builtin.Dict.dictSlotArgs
      refine wpAny_bind (wpAny_notOrdered_dict (ta t ga) ?_)
      show wpAny _ _ (pure (Value.ref a, Value.ref b)) _ _ t
      refine wpAny_pure (wpAny_bind (wpAny_isInstance (T := "dict") (tb t gb) PySem.F.sub_dict_dict ?_))
      simp only [Bool.not_true, Bool.false_eq_true, if_false]
      refine wpAny_bind (wpAny_pure (wpAny_bind (wpAny_pure ?_)))
      refine wpAny_bind (wpAny_mono (same_own (R := fun r t' => r = true ∧ Later X pins τ W H t') n1 n2 da db (by omega) (fun _ t' => Later X pins τ W H t') get turn (fun t' l => ⟨rfl, l⟩) ⟨W, H, J, Stp.refl, ok⟩) (fun r t' hr => ?_) fun _ _ q => q)
      obtain ⟨rfl, l⟩ := hr
      exact wpAny_pure ⟨_, rfl, (fun x => nomatch x), rfl, l⟩
end
section
variable {X : Cx} {n : Nat} {x y : D} {Q : D → Prop}
theorem od_eqR (h : RcR X n x y) (hr : Room n X.A) (hG : X.A.guards = some (gOf X)) (q : Q (.bl true)) : OD X (compareOp .Eq) x y Q := fun v u W H ok h1 h2 R c pins t τ v' u' J r1 r2 => by
  show wpAny _ _ (richCompare .Eq _ _) _ _ _
  refine wpAny_mono (h X.A pins t τ W H v u v' u' ⟨hr, rfl⟩ hG J ok h1 h2 r1 r2) (fun r t' ⟨er, W', H', J', st, ok'⟩ => ?_) fun _ _ q => q
  subst er
  exact ⟨.bl true, H', J', rfl, c _ _ W' H' st ok' (.bl true) q⟩
end
end DL

set_option Elab.async false
set_option linter.all false
set_option maxRecDepth 100000
set_option maxHeartbeats 4000000
/-! != of lists that are equal -/
namespace NQ
open PySem PySem.SeqAt
open AutoSeq1 (wpAny_loadPart')
open MeetsSeq MeetsSeq2 MeetsSeq3 SeqRoads2
section
variable {prog : Program} {w : World} {A : Around} {R : Result → Shared → Prop}
end
end NQ
namespace DL
open PySem PySem.Spec PyProof.Rows L2
section
variable {X : Cx} {n : Nat} {Q : D → Prop}
end
end DL

set_option Elab.async false
set_option linter.all false
set_option maxRecDepth 100000
set_option maxHeartbeats 4000000
/-! zip of two texts -/
namespace TZ
open PySem PySem.Spec PyProof.Rows
abbrev tio (x : Str) (t : Tok) : Obj := { cls := .type "str_ascii_iterator", data := .fields #[.str x t, .int 0 0] }
abbrev m1 (h : Heap) (x : Str) (t : Tok) : Heap := h.push (tio x t)
abbrev m2 (h : Heap) (x y : Str) (t u : Tok) : Heap := (m1 h x t).push (tio y u)
abbrev m3 (h : Heap) (x y : Str) (t u : Tok) : Heap := (m2 h x y t u).push { cls := .type "tuple", data := .seq #[.ref h.objs.size, .ref (m1 h x t).objs.size] }
abbrev m4 (h : Heap) (x y : Str) (t u : Tok) : Heap := (m3 h x y t u).push { cls := .type "tuple", data := .seq #[.none, .none] }
abbrev m5 (h : Heap) (x y : Str) (t u : Tok) : Heap := (m4 h x y t u).push { cls := .type "zip", data := .fields #[.none, .bool false, .bool false, .ref (m2 h x y t u).objs.size, .ref (m3 h x y t u).objs.size] }
theorem new_ss (x y : Str) (t u : Tok) (hx : x.cps.all (· < 128) = true) (hy : y.cps.all (· < 128) = true) : Meets (Builtin.«zip.__new__» ⟨[.type "zip", .str x t, .str y u], []⟩) (fun _ R s => R (.ok (.ret (.ref (m4 s.heap x y t u).objs.size))) { s with heap := m5 s.heap x y t u }) :=
  .of_wp fun prog w A R s h => by
    obtain ⟨hp, g, d, tk, os⟩ := s
    have hsub := sub_zip
    wp_walk using wpAny_pyIter_ascii hx, wpAny_pyIter_ascii hy
    exact ⟨_, rfl, h⟩
section
variable {p : Program} {w : World} {A : Around} {E : Value → Shared → Prop} {s : Shared}
/-- how the zip stands ahead of turn i -/
structure St2 (x y : Str) (t u : Tok) (z TI TO i1 i2 : Addr) (i : Nat) (h : Heap) : Prop where
  z : IsZip h z TI TO .none
  ti : IsTupOf2 h TI (.ref i1) (.ref i2)
  to : ∃ a b, IsTupOf2 h TO a b
  f : h.IsStrIter i1 "str_ascii_iterator" x t i
  g : h.IsStrIter i2 "str_ascii_iterator" y u i
theorem zip_ss {x y : Str} {t u : Tok} (hx : x.cps.all (· < 128) = true) (hy : y.cps.all (· < 128) = true) {Q : Value → Shared → Prop}
    (h : ∀ h', St2 x y t u (s.heap.objs.size + 4) (s.heap.objs.size + 2) (s.heap.objs.size + 3) s.heap.objs.size (s.heap.objs.size + 1) 0 h' → (∀ c o, s.heap.get? c = some o → h'.get? c = some o) → Q (.ref (s.heap.objs.size + 4)) { s with heap := h' }) :
    wpAny (model p w) A (call (.type "zip") [.str x t, .str y u]) Q E s := by
  refine callType_new F.called_zip (by decide) (F.typeCall_zip_2 _ _) (F.newCall_zip_2 _ _) (fun obj => F.args_object_init_3 obj _ _) F.entry_zip_new (new_ss x y t u hx hy) ?_
  have c1 : (m1 s.heap x t).objs.size = s.heap.objs.size + 1 := Heap.size_push ..
  have c2 : (m2 s.heap x y t u).objs.size = s.heap.objs.size + 2 := by rw [Heap.size_push, c1]
  have c3 : (m3 s.heap x y t u).objs.size = s.heap.objs.size + 3 := by rw [Heap.size_push, c2]
  have c4 : (m4 s.heap x y t u).objs.size = s.heap.objs.size + 4 := by rw [Heap.size_push, c3]
  have d5 : (m5 s.heap x y t u).get? (m4 s.heap x y t u).objs.size = some _ := Heap.get?_push_size _ rfl
  have d4 : (m5 s.heap x y t u).get? (m3 s.heap x y t u).objs.size = some _ := Heap.get?_push_of_some _ (Heap.get?_push_size _ rfl)
  have d3 : (m5 s.heap x y t u).get? (m2 s.heap x y t u).objs.size = some _ := Heap.get?_push_of_some _ (Heap.get?_push_of_some _ (Heap.get?_push_size _ rfl))
  have d2 : (m5 s.heap x y t u).get? (m1 s.heap x t).objs.size = some _ := Heap.get?_push_of_some _ (Heap.get?_push_of_some _ (Heap.get?_push_of_some _ (Heap.get?_push_size _ rfl)))
  have d1 : (m5 s.heap x y t u).get? s.heap.objs.size = some _ := Heap.get?_push_of_some _ (Heap.get?_push_of_some _ (Heap.get?_push_of_some _ (Heap.get?_push_of_some _ (Heap.get?_push_size _ rfl))))
  show _ ∧ _
  rw [c2, c3, c4] at d5
  rw [c1, c2] at d3
  rw [c3] at d4
  rw [c1] at d2
  rw [c4]
  exact ⟨⟨_, d5, rfl⟩, h _ ⟨d5, d3, ⟨_, _, d4⟩, ⟨_, d1, rfl, rfl⟩, ⟨_, d2, rfl, rfl⟩⟩ fun c o e => Heap.get?_push_of_some _ (Heap.get?_push_of_some _ (Heap.get?_push_of_some _ (Heap.get?_push_of_some _ (Heap.get?_push_of_some _ e))))⟩
end
end TZ
namespace DL
open PySem PySem.Spec PyProof.Rows L2 TZ
/-- the signs of both, two by two -/
def Itss (x y : Str) : It := ⟨fun i _ => i < x.cps.size ∧ i < y.cps.size, fun i H v H' => ∃ T c d, x.cps[i]? = some c ∧ y.cps[i]? = some d ∧ v = .ref T ∧ H T = none ∧ H' = upd H T (.tup [.str ⟨#[c]⟩, .str ⟨#[d]⟩]),
  fun i _ => i ≤ x.cps.size ∧ i ≤ y.cps.size ∧ (i = x.cps.size ∨ i = y.cps.size)⟩
theorem turn_ss {P : Program} {w : World} {K : PySem.W.Frag} {elts : List Expr} {kk : Nat} {tpos : Pos} {x y : Str} {t u : Tok} {z TI TO i1 i2 : Addr} (D : ZipSep2 z TI TO i1 i2 [i1] [i2]) : Turn P w K (.Tuple elts kk tpos) (Itss x y) [z, TI, TO, i1, i2] z (St2 x y t u z TI TO i1 i2) where
  mem := by simp
  obj := fun i h st c hc => by
    obtain ⟨a, b, hTO⟩ := st.to
    have e : c = z ∨ c = TI ∨ c = TO ∨ c = i1 ∨ c = i2 := by simpa using hc
    rcases e with q | q | q | q | q <;> subst q
    · exact ⟨_, st.z, fun v q => nomatch q⟩
    · exact ⟨_, st.ti, fun v q => nomatch q⟩
    · exact ⟨_, hTO, fun v q => nomatch q⟩
    · obtain ⟨o, e, _, d⟩ := st.f
      exact ⟨o, e, fun v q => by rw [d] at q; cases q⟩
    · obtain ⟨o, e, _, d⟩ := st.g
      exact ⟨o, e, fun v q => by rw [d] at q; cases q⟩
  keep := fun i h h' st k => by
    obtain ⟨a, b, hTO⟩ := st.to
    obtain ⟨o1, e1, r1⟩ := st.f
    obtain ⟨o2, e2, r2⟩ := st.g
    exact ⟨k z (by simp) _ st.z, k TI (by simp) _ st.ti, ⟨a, b, k TO (by simp) _ hTO⟩, ⟨o1, k i1 (by simp) _ e1, r1⟩, ⟨o2, k i2 (by simp) _ e2, r2⟩⟩
  item := by
    intro X hP hw hK hc i pins s σ H E J hf st hg
    subst hP hw hK
    obtain ⟨a, b, hTO⟩ := st.to
    have zlt : z < s.heap.objs.size := Heap.lt_size st.z
    have hd : X.A.in1.handled = none := J.ok.hd hc
    refine wpAny_pyNext_zipD2_item D (Draws.strAscii hd i1 x t) (Draws.strAscii hd i2 y u) st.z st.ti hTO st.f st.g hg.1 hg.2 fun v1 v2 h' tk y1 y2 z' t' f' g' T' size' keep => ?_
    obtain ⟨c1, u1, hc1, rfl⟩ := y1
    obtain ⟨c2, u2, hc2, rfl⟩ := y2
    refine ⟨_, rfl, wpAny_letOwnedTupleGo_zip (s := { s with heap := h', toks := tk }) z' fun h'' z'' sb => ?_⟩
    have T2 : h''.get? s.heap.objs.size = some { cls := .type "tuple", data := .seq #[.str ⟨#[c1]⟩ u1, .str ⟨#[c2]⟩ u2] } := (sb.2 _ (Nat.ne_of_gt zlt)).trans T'
    have new : ObjOk X.prog X.w (upd H s.heap.objs.size (.tup [.str ⟨#[c1]⟩, .str ⟨#[c2]⟩])) h'' s.heap.objs.size (.tup [.str ⟨#[c1]⟩, .str ⟨#[c2]⟩]) := ⟨by show 2 ≤ sizeLine; decide, [_, _], .cons ⟨u1, rfl⟩ (.cons ⟨u2, rfl⟩ .nil), ⟨_, T2, rfl, _, rfl⟩⟩
    have far : ∀ c, c ∉ [z, TI, TO, i1, i2] → c ≠ z ∧ c ≠ TO ∧ c ≠ i1 ∧ c ≠ i2 := fun c hb => ⟨fun q => hb (by simp [q]), fun q => hb (by simp [q]), fun q => hb (by simp [q]), fun q => hb (by simp [q])⟩
    have J1 : Inv X pins σ (upd H s.heap.objs.size (.tup [.str ⟨#[c1]⟩, .str ⟨#[c2]⟩])) { s with heap := h'', toks := tk } :=
      J.turnedNew (t' := tk) (ch := [z, TI, TO, i1, i2]) (fun c o hb q => let ⟨q1, q2, q3, q4⟩ := far c hb; (sb.2 c q1).trans (keep c o q1 q2 q3 q4 q)) hf (Nat.le_refl _) new
    have s1 : ∀ k, k ≠ z → ∀ o, h'.get? k = some o → h''.get? k = some o := fun k n o e => (sb.2 _ n).trans e
    refine ⟨.ref s.heap.objs.size, _, J1, rfl, ⟨_, c1, c2, hc1, hc2, rfl, J.hok.fresh (Nat.le_refl _), rfl⟩, ⟨z'', s1 _ D.TIz _ (keep _ _ D.TIz D.TITO D.TIi1 D.TIi2 st.ti), ⟨_, _, s1 _ D.TOz _ t'⟩, ?_, ?_⟩, fun c hcm => ?_⟩
    · obtain ⟨o1, e1, r1⟩ := f'
      exact ⟨o1, s1 _ D.zi1.symm _ e1, r1⟩
    · obtain ⟨o1, e1, r1⟩ := g'
      exact ⟨o1, s1 _ D.zi2.symm _ e1, r1⟩
    · have lt : c < s.heap.objs.size := by
        have e' : c = z ∨ c = TI ∨ c = TO ∨ c = i1 ∨ c = i2 := by simpa using hcm
        rcases e' with q | q | q | q | q <;> rw [q]
        · exact zlt
        · exact Heap.lt_size st.ti
        · exact Heap.lt_size hTO
        · exact Heap.lt_size st.f.choose_spec.1
        · exact Heap.lt_size st.g.choose_spec.1
      rw [upd_ne (Nat.ne_of_lt lt)]
      exact (hf c hcm).1
  done := by
    intro X hP hw hK hc i pins s σ H E J hf st hg
    subst hP hw hK
    obtain ⟨a, b, hTO⟩ := st.to
    have hd : X.A.in1.handled = none := J.ok.hd hc
    exact wpAny_pyNext_zipD2_end D (Draws.strAscii hd i1 x t) (Draws.strAscii hd i2 y u) st.z st.ti hTO st.f st.g hg.1 hg.2.1 hg.2.2 fun h' tk keep =>
      ⟨rfl, J.turnedL (t' := tk) (ch := [z, TI, TO, i1, i2]) (fun c o hb q => keep c o (fun q' => hb (by simp [q'])) (fun q' => hb (by simp [q'])) (fun q' => hb (by simp [q'])) (fun q' => hb (by simp [q'])) q) hf⟩
  self := fun A i s Q E st h => wpAny_pyIter_zip st.z h
theorem sep_ss (n : Nat) : ZipSep2 (n + 4) (n + 2) (n + 3) n (n + 1) [n] [n + 1] := by
  constructor <;> simp
def iZss (ta : TA) : TI := fun σ H R => ta σ H fun vs H1 => ∃ x y, vs = [.str x, .str y] ∧ x.cps.all (· < 128) = true ∧ y.cps.all (· < 128) = true ∧ R (Itss x y) H1
theorem pi_ss {X : Cx} {e e2 : Expr} {ta : TA} {p pos tpos : Pos} {elts : List Expr} {kk : Nat} (hg : Gl X "zip") (hm : X.mg "zip" = none) (ha : PA X [e, e2] ta)
    (hs : starEach [e, e2] X.env = (false, eval e X.env) :: starEach [e2] X.env) (hpl : (backTo pos (starEach [e2] X.env)).any (·.1) = false) : PI X (.Tuple elts kk tpos) (.Call (.Name "zip" p) [e, e2] [] pos) (iZss ta) := by
  refine ⟨fun pins s σ H R J h => Call_ (ld_blt J hg hm PyProof.Rows.boot_zip (PyProof.Rows.callWith_type1 (thn (ha.run pos pins s σ H _ J h) fun us s1 ⟨vs, H1, J1, rv, q1⟩ => ?_) hs hpl))⟩
  obtain ⟨x, y, rfl, hx, hy, q⟩ := q1
  obtain ⟨v1, v2, rfl, r1, r2⟩ := (show ∃ v1 v2, us = [v1, v2] ∧ RelV (.str x) v1 ∧ RelV (.str y) v2 from by
    cases rv with
    | cons r rr => cases rr with
      | cons r' rr => cases rr; exact ⟨_, _, rfl, r, r'⟩)
  obtain ⟨t, rfl⟩ := r1
  obtain ⟨u, rfl⟩ := r2
  refine zip_ss hx hy fun h' st hk => wpAny_pyIter_zip st.z ?_
  have J2 : Inv X pins σ H1 { s1 with heap := h' } := J1.kept (t' := s1.toks) hk
  refine ⟨s1.heap.objs.size + 4, [s1.heap.objs.size + 4, s1.heap.objs.size + 2, s1.heap.objs.size + 3, s1.heap.objs.size, s1.heap.objs.size + 1], _, _, H1, rfl, J2, turn_ss (sep_ss _), st, fun c hc => ?_, q⟩
  have le : s1.heap.objs.size ≤ c := by
    have e : c = s1.heap.objs.size + 4 ∨ c = s1.heap.objs.size + 2 ∨ c = s1.heap.objs.size + 3 ∨ c = s1.heap.objs.size ∨ c = s1.heap.objs.size + 1 := by simpa using hc
    rcases e with q | q | q | q | q <;> rw [q]
    · exact Nat.le_add_right _ _
    · exact Nat.le_add_right _ _
    · exact Nat.le_add_right _ _
    · exact Nat.le_refl _
    · exact Nat.le_add_right _ _
  exact J1.fpOk le (J1.hok.fresh le)
end DL

set_option Elab.async false
set_option linter.all false
set_option maxRecDepth 100000
set_option maxHeartbeats 4000000
/-! texts, sign by sign -/
namespace DL
open PySem PySem.Spec PyProof.Rows L2
abbrev sg (c : Nat) : Str := ⟨#[c]⟩
def signs (s : Str) : List D := s.cps.toList.map fun c => .str (sg c)
section
variable {X : Cx} {B : Hp} {W0 : Wd} {S : En} {pos px p1 p apos cpos : Pos} {Q : D → Prop} {QB : Bool → Prop} {a b c e e2 o elt iter : Expr} {es : List Expr} {E : Ends'} {x : Str} {s : Str}
theorem od_ltS {i j : Str} (q : Q (.bl (decide (i.cps.toList < j.cps.toList)))) : OD X (compareOp .Lt) (.str i) (.str j) Q := od_of op_lt_str fun v u W H ok h1 h2 R c => by
  cases h1; cases h2
  exact ⟨i, j, rfl, rfl, c.now ok (.bl _) q⟩
theorem od_leS {i j : Str} (q : Q (.bl (!decide (j.cps.toList < i.cps.toList)))) : OD X (compareOp .LtE) (.str i) (.str j) Q := od_of op_le_str fun v u W H ok h1 h2 R c => by
  cases h1; cases h2
  exact ⟨i, j, rfl, rfl, c.now ok (.bl _) q⟩
theorem od_inS {c : Nat} {z : Str} (q : Q (.bl (decide (c ∈ z.cps.toList)))) : OD X (compareOp .In) (.str (sg c)) (.str z) Q := od_of op_in_sign fun v u W H ok h1 h2 R k => by
  cases h1; cases h2
  exact ⟨c, z, rfl, rfl, k.now ok (.bl _) q⟩
theorem cd_lenS {z : Str} (hz : z.length ≤ 50000) (q : Q (.int (z.length : Int))) : CD X (.builtin "len") [.val (.str z)] Q := cd_of call_len fun vs W H ok ha R c => by
  obtain ⟨v, rfl, m⟩ := one_arg ha
  cases m
  exact ⟨.str z, z.length, rfl, ⟨Nat.le_trans hz (by decide), rfl⟩, c.now ok (.int _) q⟩
/-- s[i] -/
theorem ed_ixS (h : ED X B S a fun x => ED X B S b fun y => ∃ (z : Str) (i c : Nat), x = .str z ∧ y = .int (i : Int) ∧ i < 1000 ∧ z.cps[i]? = some c ∧ Q (.str (sg c))) (hs : PlainIxT b := by exact fun _ _ => rfl) : ED X B S (.Subscript a b pos) Q := fun σ W H r R k => by
  refine PE.w (pe_item_str we_pe we_pe hs) ?_
  refine h σ W H r _ fun d v W1 H1 s1 ok1 n1 q1 => ?_
  refine q1 σ W1 H1 (r.step s1 ok1) _ fun d2 u W2 H2 s2 ok2 n2 q2 => ?_
  obtain ⟨z, i, c, rfl, rfl, hi, hz, q⟩ := q2
  cases n1
  cases n2
  have lt : i < z.cps.size := (Array.getElem?_eq_some_iff.mp hz).1
  exact ⟨z, i, c, rfl, rfl, by omega, by omega, by show (i : Int) < (z.cps.size : Int); omega, by simpa using hz, ((k.step s1 ok1).step s2 ok2).now ok2 (.str _) q⟩
end
end DL

set_option Elab.async false
set_option linter.all false
set_option maxRecDepth 100000
set_option maxHeartbeats 4000000
/-! sum, min of tuples; factorial, perm; the signs of a text as a list, sorted -/
namespace DL
open PySem PySem.Spec PyProof.Rows L2
section
variable {prog : Program} {w : World} {A : Around} {E : Value → Shared → Prop} {s : Shared} {l : Addr}
theorem past {h' : Heap} {o : Obj} (hk : ∀ b u, b ∉ [s.heap.objs.size] → (s.heap.push o).get? b = some u → h'.get? b = some u) (b : Addr) (u : Obj) (e : s.heap.get? b = some u) : h'.get? b = some u :=
  hk b u (fun hm => Nat.lt_irrefl _ (by have := Heap.lt_size e; rw [List.mem_singleton.mp hm] at this; exact this)) (Heap.get?_push_of_some _ e)
theorem sum_tup {its : List Value} {ns : List Int} {Q : Value → Shared → Prop} (hh : A.handled = none) (hl : s.heap.IsTuple l its.toArray) (hi : IntsAre its ns) (k : ∀ h' tk t', (∀ b o, s.heap.get? b = some o → h'.get? b = some o) → Q (.int ns.sum t') { s with heap := h', toks := tk }) :
    wpAny (model prog w) A (call (.builtin "sum") [.ref l]) Q E s := by
  obtain ⟨xs, e⟩ := hi.allInts.items
  have en : numsOf (intItems xs).toList = ns := by rw [← e]; exact hi.numsOf
  rw [nums_intItems] at en
  rw [e] at hl
  have lt : l < s.heap.objs.size := by obtain ⟨_, g, _⟩ := hl; exact Heap.lt_size g
  refine call_sum_walkG (wpAny_pyIter_tuple hl ?_)
  refine ⟨_, _, _, _, _, _, numAt xs, rfl, Walks.tuple (A := A.in1) hh s.heap.objs.size l (Nat.ne_of_lt lt) (intItems xs), ⟨⟨_, Heap.get?_push_size _ rfl, rfl, rfl⟩, hl.push _⟩, fun b hb => ?_, (fun _ _ => intItems_at), fun h' tk t' hk => ?_⟩
  · show b < (s.heap.push _).objs.size
    rw [Heap.size_push]
    rcases List.mem_cons.mp hb with z | hb
    · rw [z]; exact Nat.lt_succ_self _
    · rw [List.mem_singleton.mp hb]; exact Nat.lt_succ_of_lt lt
  · have := k h' tk t' fun b u e => past hk b u e
    rw [preSum_eq, List.take_of_length_le (by simp [intItems]), en]
    exact this
end
section
variable {X : Cx} {Q : D → Prop}
theorem cr_sumT (hc : X.calm = true) : CallR X (.builtin "sum") (fun vs H Q => ∃ (a : Addr) (ns : List Int), vs = [V.ref a] ∧ SqT X.K H a (ns.map V.int) ∧ Q (.int ns.sum) H) := by
  intro pins t τ H vs us Q J r q
  obtain ⟨a, ns, rfl, hs, q⟩ := q
  obtain ⟨its, rv, hl, _⟩ := J.tuple hs
  rw [Vals.ref1 r]
  exact sum_tup (J.ok.hd hc) hl rv.ints fun h' tk t' keep => ⟨.int _, H, J.kept keep, ⟨_, rfl⟩, q⟩
theorem cd_sumT {l : List Int} (hc : X.calm = true) (q : Q (.int l.sum)) : CD X (.builtin "sum") [.val (tI l)] Q := cd_of (cr_sumT hc) fun vs W H ok ha R c => by
  obtain ⟨v, rfl, m⟩ := one_arg ha
  cases m with
  | @tup _ a xs hp m =>
    rw [Dns.ints m] at hp
    exact ⟨a, l, rfl, SqT.of (ok.ex _ _ hp), c.now ok (.int _) q⟩
theorem cd_sumL {l : List Int} (hc : X.calm = true) (q : Q (.int l.sum)) : CD X (.builtin "sum") [.val (.lst (l.map D.int))] Q := cd_of (cr_sum hc) fun vs W H ok ha R c => by
  obtain ⟨v, rfl, m⟩ := one_arg ha
  cases m with
  | @lst _ a xs hp m =>
    rw [Dns.ints m] at hp
    exact ⟨a, l, rfl, SqL.of (ok.ex _ _ hp), c.now ok (.int _) q⟩
/-- n! -/
def fac : Nat → Nat
  | 0 => 1
  | n + 1 => fac n * (n + 1)
/-! ### the signs of a text -/
theorem strs_items {x : Str} {acc : Array Value} (it : ItemsOf (SignAt x) acc x.cps.size) : StrsAre acc.toList (x.cps.toList.map sg) := by
  refine strs_at (by rw [Array.length_toList, it.1, List.length_map, Array.length_toList]) fun j v e => ?_
  obtain ⟨c, u, hc, rfl⟩ := it.2 j v (by rw [← Array.getElem?_toList]; exact e)
  exact ⟨sg c, u, by rw [List.getElem?_map, Array.getElem?_toList, hc]; rfl, rfl⟩
theorem cr_listS (hc : X.calm = true) : CallR X (.type "list") (fun xs H Q => ∃ x : Str, xs = [V.str x] ∧ x.cps.size ≤ 50000 ∧ ∀ p, H p = none → Q (.ref p) (upd H p (.lst ((x.cps.toList.map sg).map V.str)))) := by
  intro pins t τ H xs us Q J r q
  obtain ⟨x, rfl, hx, q⟩ := q
  obtain ⟨u, rfl, ru⟩ := vals1 r
  obtain ⟨tk, rfl⟩ := ru
  refine call_list_str (hn := Nat.le_trans hx (by decide)) (J.ok.hd hc) x tk fun h' tk' acc c keep e it => ?_
  have sa := strs_items it
  have len : ((x.cps.toList.map sg).map V.str).length ≤ sizeLine := Nat.le_trans (by simpa using hx) (show 50000 ≤ sizeLine by decide)
  exact ⟨.ref t.heap.objs.size, upd H t.heap.objs.size (.lst ((x.cps.toList.map sg).map V.str)), J.laid (t' := tk') keep (Nat.le_refl _) ⟨len, acc.toList, c, vals_of_strs sa, by rw [Array.toArray_toList]; exact e⟩, rfl, q _ (J.hok.fresh (Nat.le_refl _))⟩
theorem strs_dns {K : PySem.W.Frag} {I : Hp} : ∀ ys : List Str, Dns K I (ys.map D.str) (ys.map V.str)
  | [] => .nil
  | y :: ys => .cons (.str y) (strs_dns ys)
end
end DL

set_option Elab.async false
set_option linter.all false
set_option maxRecDepth 100000
set_option maxHeartbeats 4000000
/-! enumerate(()); texts and enumerations walked -/
namespace EZ
open PySem PySem.Spec PyProof.Rows
open AutoSeq1 (wpAny_loadPart')
abbrev tit (l : Addr) : Obj := { cls := .type "tuple_iterator", data := .fields #[.ref l, .int 0 0] }
theorem new_enum (l : Addr) (xs : Array Value) : Meets (Builtin.«enumerate.__new__» ⟨[.type "enumerate", .ref l], []⟩) (fun _ R s => s.heap.IsTuple l xs ∧
    R (.ok (.ret (.ref (s.heap.push (tit l)).objs.size))) { s with heap := (s.heap.push (tit l)).push { cls := .type "enumerate", data := .fields #[.none, .bool false, .ref s.heap.objs.size, rawInt 0, .none, .none] } }) :=
  .of_wp fun prog w A R s h => by
    obtain ⟨h0, g, d, tk, os⟩ := s
    obtain ⟨hl, h⟩ := h
    have hsub := sub_enumerate
    have at_ : Heap.IsTuple (Shared.heap ⟨h0, g, d, tk, os⟩) l xs := hl
    wp_walk
    refine wpAny_stack_any fun st => wpAny_pure ?_
    split
    · rename_i c _ _ _ _ _
      cases (c == Value.type "enumerate")
      · wp_walk using wpAny_pyIter_tuple at_
        exact ⟨_, rfl, h⟩
      · wp_walk using wpAny_pyIter_tuple at_
        exact ⟨_, rfl, h⟩
    · wp_walk using wpAny_pyIter_tuple at_
      exact ⟨_, rfl, h⟩
theorem call_enum {prog : Program} {w : World} {A : Around} {E : Value → Shared → Prop} {s : Shared} {l : Addr} {xs : Array Value} {Q : Value → Shared → Prop} (hl : s.heap.IsTuple l xs)
    (h : ∀ h', IsEnum h' (s.heap.objs.size + 1) s.heap.objs.size 0 .none → h'.IsTupleIter s.heap.objs.size l 0 → (∀ b o, s.heap.get? b = some o → h'.get? b = some o) → Q (.ref (s.heap.objs.size + 1)) { s with heap := h' }) :
    wpAny (model prog w) A (call (.type "enumerate") [.ref l]) Q E s := by
  refine callType_new F.called_enumerate (by decide) (F.typeCall_enumerate_1 _) (F.newCall_enumerate_1 _) (fun obj => F.args_object_init_2 obj _) F.entry_enumerate_new (new_enum l xs) ⟨hl, ?_⟩
  have sz : (s.heap.push (tit l)).objs.size = s.heap.objs.size + 1 := Heap.size_push ..
  show _ ∧ _
  rw [sz]
  have e := Heap.get?_push_size (s.heap.push (tit l)) (o := { cls := .type "enumerate", data := .fields #[.none, .bool false, .ref s.heap.objs.size, rawInt 0, .none, .none] }) rfl
  rw [sz] at e
  exact ⟨⟨_, e, rfl⟩, h _ e ⟨_, Heap.get?_push_of_some _ (Heap.get?_push_size _ rfl), rfl, rfl⟩ fun b o x => Heap.get?_push_of_some _ (Heap.get?_push_of_some _ x)⟩
end EZ
namespace DL
open PySem PySem.Spec PyProof.Rows L2
/-- nothing to walk -/
def Itn (K : PySem.W.Frag) (a : Addr) : It := ⟨fun _ _ => False, fun _ _ _ _ => False, fun i H => i = 0 ∧ SqT K H a []⟩
theorem turn_en {P : Program} {w : World} {K : PySem.W.Frag} {elts : List Expr} {kk : Nat} {tpos : Pos} (a e it : Addr) : Turn P w K (.Tuple elts kk tpos) (Itn K a) [e, it] e (fun _ h => IsEnum h e it 0 .none ∧ h.IsTupleIter it a 0 ∧ a ≠ it) where
  mem := by simp
  obj := fun i h st b hb => by
    obtain ⟨h1, ⟨o, h2, _, h3⟩, _⟩ := st
    have q : b = e ∨ b = it := by simpa using hb
    rcases q with q | q <;> subst q
    · exact ⟨_, h1, fun v z => nomatch z⟩
    · exact ⟨o, h2, fun v z => by rw [h3] at z; cases z⟩
  keep := fun i h h' st k => by
    obtain ⟨h1, ⟨o, h2, r⟩, ne⟩ := st
    exact ⟨k e (by simp) _ h1, ⟨o, k it (by simp) _ h2, r⟩, ne⟩
  item := fun X hP hw hK hc i pins s σ H E J hf st hg => hg.elim
  done := by
    intro X hP hw hK hc i pins s σ H E J hf st hg
    subst hP hw hK
    obtain ⟨h1, h2, ne⟩ := st
    obtain ⟨rfl, sq⟩ := hg
    obtain ⟨its, rv, tp, _⟩ := J.tuple sq
    cases rv
    obtain ⟨f0, f1, f2, f3, f4, f5⟩ := hf it (by simp)
    exact wpAny_pyNext_enum_endD (Draws.tuple (A := X.A.in1) (J.ok.hd hc) it a ne #[]) h1 ⟨h2, tp⟩ fun h' eb => ⟨rfl, J.turned (t' := s.toks) (fun b o nb q => eb b o nb q) f0 f1 f3 f4 f5⟩
  self := fun A i s Q E st h => wpAny_pyIter_enum st.1 h
def iEn (K : PySem.W.Frag) (ta : TA) : TI := fun σ H R => ta σ H fun vs H1 => ∃ a, vs = [.ref a] ∧ SqT K H1 a [] ∧ R (Itn K a) H1
theorem pi_en {X : Cx} {e : Expr} {ta : TA} {p pos tpos : Pos} {elts : List Expr} {kk : Nat} (hg : Gl X "enumerate") (hm : X.mg "enumerate" = none) (ha : PA X [e] ta) (hs : starEach [e] X.env = [(false, eval e X.env)] := by rfl) :
    PI X (.Tuple elts kk tpos) (.Call (.Name "enumerate" p) [e] [] pos) (iEn X.K ta) := by
  refine ⟨fun pins s σ H R J h => Call_ (ld_blt J hg hm boot_enumerate (PyProof.Rows.callWith_type1 (thn (ha.run pos pins s σ H _ J h) fun us s1 ⟨vs, H1, J1, r1, q1⟩ => ?_) hs rfl))⟩
  obtain ⟨a, rfl, sq, q⟩ := q1
  cases r1 with
  | cons r rr =>
    cases rr
    cases r
    obtain ⟨its, rv, tp, _⟩ := J1.tuple sq
    refine EZ.call_enum tp fun h' h1 h2 keep => wpAny_pyIter_enum h1 ?_
    have J2 : Inv X pins σ H1 { s1 with heap := h' } := J1.kept (t' := s1.toks) keep
    have lt : a < s1.heap.objs.size := by obtain ⟨_, g, _⟩ := tp; exact Heap.lt_size g
    refine ⟨s1.heap.objs.size + 1, [s1.heap.objs.size + 1, s1.heap.objs.size], _, _, H1, rfl, J2, turn_en a _ _, ⟨h1, h2, Nat.ne_of_lt lt⟩, fun b hb => ?_, q⟩
    have le : s1.heap.objs.size ≤ b := by
      have z : b = s1.heap.objs.size + 1 ∨ b = s1.heap.objs.size := by simpa using hb
      rcases z with z | z <;> rw [z]
      · exact Nat.le_add_right _ _
      · exact Nat.le_refl _
    exact J1.fpOk le (J1.hok.fresh le)
section
variable {X : Cx} {B : Hp} {W0 : Wd} {S : En} {pos px p1 p apos cpos : Pos} {Q : D → Prop} {a b c e e2 o elt iter value : Expr} {es : List Expr} {E : Ends'} {x : Str}
/-- for i, x in enumerate(a list) -/
theorem sd_forE {elts : List Expr} {kk : Nat} {tpos : Pos} {body : List Stmt} {l : List D} (hp : PassesOwn (model X.prog X.w) X.A X.env X.xe) (hc : X.calm = true) (hm : X.mg "enumerate" = none) (Inv : Nat → En → Prop) (h : AD X B S [e] fun as => as = [.val (.lst l)] ∧ Inv 0 S)
    (hs : ∀ (i : Nat) d S', l[i]? = some d → Inv i S' → GD X B W0 S' (.Tuple elts kk tpos) (.tup [.int (i : Int), d]) fun S2 => SDs X B W0 S2 body { nx := Inv (i + 1), rt := E.rt, bk := E.nx, ct := Inv (i + 1) })
    (hd : ∀ S', Inv l.length S' → E.nx S') (hg : Gl X "enumerate" := by rfl) (hst : starEach [e] X.env = [(false, eval e X.env)] := by rfl) (hf : ∀ x, foldedSetIterable (.Call (.Name "enumerate" p) [e] [] p1) X.env x = pure x := by intro _; rfl) :
    SD X B W0 S (.For (.Tuple elts kk tpos) (.Call (.Name "enumerate" p) [e] [] p1) body [] pos) E := fun σ W H r z D' k => by
  refine PS.w (ps_for hp hc (pi_enum hg hm wa_pa hst) wg_pg wss_pss hf) ?_
  refine h σ W H r _ fun as vs W1 H1 s1 ok1 n1 q1 => ?_
  obtain ⟨rfl, i0⟩ := q1
  obtain ⟨v, rfl, m⟩ := one_arg n1
  cases m with
  | @lst _ a xs ha m =>
    refine ⟨a, xs, rfl, SqL.of (ok1.ex _ _ ha), for_it walk_enum (fun i σ' H' => ∃ S' W', Rep X.K (gOf X) B S' σ' W' H' ∧ Stp W0 B W' H' ∧ Ex W1.I W'.I ∧ Inv i S') ⟨S, W1, r.step s1 ok1, z.trans r.ok s1, Ex.refl _, i0⟩
      (fun i σ' H' _ ⟨S', W', r', _, e', _⟩ => SqL.of (r'.ok.ex _ _ (e' _ _ ha))) ?_ ?_⟩
    · rintro i y σ' H' H2 hi ⟨S', W', r', z', e', i'⟩ ⟨T, x1, x2, rfl, hT, rfl, ex1, ex2⟩
      obtain ⟨d, hd', nd⟩ := m.get ex2
      cases ex1
      have st := Stp.new (o := .tup [.int (i : Nat), x2]) r'.ok hT
      have ok2 := r'.ok.new (o := .tup [.int (i : Nat), x2]) hT
      refine hs i d S' hd' i' σ' _ _ _ (r'.step st ok2) (z'.trans r'.ok st) (.tup (show upd W'.I T _ T = _ from upd_same) (.cons (.int _) (.cons ((nd.mono e').mono st.I) .nil))) _ fun S3 σ3 W3 H3 r3 z3 e3 q3 => ?_
      have e4 := (e'.trans st.I).trans e3
      exact q3 σ3 W3 H3 r3 z3 _ ⟨fun S5 σ5 W5 H5 r5 z5 e5 q5 => ⟨S5, W5, r5, z5, e4.trans e5, q5⟩, fun d5 v5 W5 H5 r5 z5 e5 n5 q5 => k.rt d5 v5 W5 H5 r5 z5 ((s1.I.trans e4).trans e5) n5 q5,
        fun S5 σ5 W5 H5 r5 z5 e5 q5 => k.nx S5 σ5 W5 H5 r5 z5 ((s1.I.trans e4).trans e5) q5, fun S5 σ5 W5 H5 r5 z5 e5 q5 => ⟨S5, W5, r5, z5, e4.trans e5, q5⟩⟩
    · rintro σ' H' ⟨S', W', r', z', e', i'⟩
      rw [← m.length] at i'
      exact k.nx S' σ' W' H' r' z' (s1.I.trans e') (hd S' i')
/-- [elt for x in a text] -/
theorem fd_relC {s : Str} {scope : Scope} {own : List (Str × Nat)} {Q : List D → Prop} (G : Nat → D → Prop) (j : Nat) (hc : X.calm = true) (hN : X.N.Nodup) (ok : BlkOk X.N X.env.scope scope own) (hg : AllBlk X scope fun Y => PG Y (.Name x px) (gName j)) (hl : s.cps.size ≤ 50000) (hit : ED X B S iter fun d => d = .str s) (hj : j ∈ own.map (·.2))
    (he : ∀ (i c : Nat), s.cps[i]? = some c → AllBlk X scope fun Y => ED Y B (itE S own j (.str (sg c))) elt (G c)) (hd : ∀ out, Paired G s.cps.toList out → Q out) (hs : ∀ x, foldedSetIterable iter X.env x = pure x := by intro _; rfl) : FD X B S (.ListComp elt [⟨.Name x px, iter, [], 0⟩] scope pos) Q := fun σ W H r R k => by
  refine PE.w (pe_lc (te := WEb X scope elt) hc hN (pi_str we_pe) ok hg (fun _ _ _ _ _ => pts_nil) web_pe hs) ?_
  refine hit σ W H r _ fun d v W1 H1 s1 ok1 n1 q1 => ?_
  subst q1
  cases n1
  refine ⟨s, rfl, fun p hp0 => ?_⟩
  have r1 := r.step s1 ok1
  refine lc_it (walk_str (z := s)) (fun i H' => ∃ acc W', Mid X.K (gOf X) W1 H1 p acc W' H' ∧ acc.length = i ∧ Paired G (s.cps.toList.take i) acc) ⟨[], W1, ⟨Stp.own hp0, ok1.own hp0, ok1.notP hp0, ok1.free hp0, [], upd_same, .nil⟩, rfl, .nil⟩ (fun _ _ _ _ => trivial) ?_ ?_
  · rintro i y H' H2 hi ⟨acc, W', mm, hl2, pr⟩ ⟨rfl, c, hc', rfl⟩
    have r2 := r1.step mm.st mm.ok
    refine pat_name j hj (gOf X) B σ W' H2 (.str (sg c)) r2 (.str (sg c)) _ fun σ2 e2 r3 => ⟨e2, ?_⟩
    show WEb X scope elt σ2 H2 _
    intro s' H0 C cl fp
    refine he i c hc' s' H0 C cl fp σ2 W' H2 r3 _ fun y W3v W3 H3 s3 ok3 n3 q3 => ?_
    obtain ⟨xs', e1, e3, m3⟩ := (mm.step s3 ok3).more hp0 n3 (by omega)
    refine ⟨xs', e1, e3, _, W3, m3, by simp [hl2], ?_⟩
    rw [List.take_add_one, Array.getElem?_toList, hc']
    exact Paired.snoc q3 pr
  · rintro H' ⟨acc, W', mm, hl2, pr⟩
    obtain ⟨ys, hH, ds⟩ := mm.h
    rw [List.take_of_length_le (by rw [Array.length_toList]; exact Nat.le_refl _)] at pr
    exact k acc p ys W' H' (s1.trans ok1 mm.st) mm.ok (s1.free ok1 hp0) mm.n mm.i hH ds (hd acc pr)
/-- [elt for x, y in zip(a text, a text)] -/
theorem fd_relCC {s t : Str} {y : Str} {py tpos pos1 : Pos} {kk : Nat} {scope : Scope} {own : List (Str × Nat)} {Q : List D → Prop} (G : Nat → Nat → D → Prop) (i j : Nat) (hc : X.calm = true) (hN : X.N.Nodup) (hm : X.mg "zip" = none) (ok : BlkOk X.N X.env.scope scope own) (hg : AllBlk X scope fun Y => PG Y (.Tuple [.Name x px, .Name y py] kk tpos) (gTup X.K 2 (gCons (gName i) (gCons (gName j) gNil))))
    (hs : s.cps.all (· < 128) = true) (ht : t.cps.all (· < 128) = true) (hl : s.cps.size ≤ 50000) (h : AD X B S [e, e2] fun as => as = [.val (.str s), .val (.str t)]) (hi : i ∈ own.map (·.2)) (hj : j ∈ own.map (·.2)) (he : ∀ (n c d : Nat), s.cps[n]? = some c → t.cps[n]? = some d → AllBlk X scope fun Y => ED Y B ((itE S own i (.str (sg c))).set j (some (.val (.str (sg d))))) elt (G c d))
    (hd : ∀ out, out.length = min s.cps.size t.cps.size → (∀ (n c d : Nat) z, s.cps[n]? = some c → t.cps[n]? = some d → out[n]? = some z → G c d z) → Q out) (hgl : Gl X "zip" := by rfl)
    (hst : starEach [e, e2] X.env = (false, eval e X.env) :: starEach [e2] X.env := by rfl) (hpl : (backTo pos1 (starEach [e2] X.env)).any (·.1) = false := by rfl)
    (hsf : ∀ x, foldedSetIterable (.Call (.Name "zip" p1) [e, e2] [] pos1) X.env x = pure x := by intro _; rfl) : FD X B S (.ListComp elt [⟨.Tuple [.Name x px, .Name y py] kk tpos, .Call (.Name "zip" p1) [e, e2] [] pos1, [], 0⟩] scope pos) Q := fun σ W H r R k => by
  refine PE.w (pe_lc (te := WEb X scope elt) hc hN (pi_ss hgl hm wa_pa hst hpl) ok hg (fun _ _ _ _ _ => pts_nil) web_pe hsf) ?_
  refine h σ W H r _ fun as vs W1 H1 s1 ok1 n1 q1 => ?_
  subst q1
  obtain ⟨v1, v2, rfl, m1, m2⟩ := two_args n1
  cases m1
  cases m2
  refine ⟨s, t, rfl, hs, ht, fun p hp0 => ?_⟩
  have r1 := r.step s1 ok1
  have wk : Walk (Itss s t) (min s.cps.size t.cps.size) (fun _ => True) (fun i H v H' => ∃ T c d, s.cps[i]? = some c ∧ t.cps[i]? = some d ∧ v = .ref T ∧ H T = none ∧ H' = upd H T (.tup [.str ⟨#[c]⟩, .str ⟨#[d]⟩])) :=
    ⟨fun i H hi _ => ⟨by omega, by omega⟩, fun H _ => ⟨by omega, by omega, by omega⟩, fun i H x H' _ _ y => y⟩
  refine lc_it wk (fun n H' => ∃ acc W', Mid X.K (gOf X) W1 H1 p acc W' H' ∧ acc.length = n ∧ ∀ (m c d : Nat) z, s.cps[m]? = some c → t.cps[m]? = some d → acc[m]? = some z → G c d z) ⟨[], W1, ⟨Stp.own hp0, ok1.own hp0, ok1.notP hp0, ok1.free hp0, [], upd_same, .nil⟩, rfl, fun m c d z _ _ e => by simp at e⟩ (fun _ _ _ _ => trivial) ?_ ?_
  · rintro n y H' H2 hn ⟨acc, W', mm, hl2, pr⟩ ⟨T, c, d, hc', hd', rfl, hT, rfl⟩
    have st := Stp.new (o := .tup [.str ⟨#[c]⟩, .str ⟨#[d]⟩]) mm.ok hT
    have ok2 := mm.ok.new (o := .tup [.str ⟨#[c]⟩, .str ⟨#[d]⟩]) hT
    have mm2 := mm.step st ok2
    have r2 := r1.step mm2.st mm2.ok
    refine pat_two i j hi hj (gOf X) B σ _ _ (.ref T) r2 (d := .str (sg c)) (d' := .str (sg d)) (.tup (show upd W'.I T _ T = _ from upd_same) (.cons (.str _) (.cons (.str _) .nil))) _ fun σ2 e2 r3 => ⟨e2, ?_⟩
    show WEb X scope elt σ2 _ _
    intro s' H0 C cl fp
    refine he n c d hc' hd' s' H0 C cl fp σ2 _ _ r3 _ fun y W3v W3 H3 s3 ok3 n3 q3 => ?_
    obtain ⟨xs', e1, e3, m3⟩ := (mm2.step s3 ok3).more hp0 n3 (by omega)
    refine ⟨xs', e1, e3, _, W3, m3, by simp [hl2], fun m c1 d1 z f1 f2 f3 => ?_⟩
    rcases Nat.lt_or_ge m n with lt | ge
    · rw [List.getElem?_append_left (by omega)] at f3
      exact pr m c1 d1 z f1 f2 f3
    · rw [List.getElem?_append_right (by omega)] at f3
      have : m = n := by
        rcases Nat.lt_or_ge n m with q | q
        · rw [List.getElem?_eq_none (show [y].length ≤ m - acc.length by show 1 ≤ _; omega)] at f3
          cases f3
        · omega
      subst this
      rw [hl2, Nat.sub_self] at f3
      cases f3
      rw [hc'] at f1
      rw [hd'] at f2
      cases f1
      cases f2
      exact q3
  · rintro H' ⟨acc, W', mm, hl2, pr⟩
    obtain ⟨ys, hH, ds⟩ := mm.h
    exact k acc p ys W' H' (s1.trans ok1 mm.st) mm.ok (s1.free ok1 hp0) mm.n mm.i hH ds (hd acc hl2 pr)
end
end DL

set_option Elab.async false
set_option linter.all false
set_option maxRecDepth 100000
set_option maxHeartbeats 2000000
/-! the law's own call, of a def whose promise asks that the guards are known -/
namespace DL
open PySem PySem.Spec PyProof.Rows L2
/-- what is tracked when the law is called: the script alone, and that only where it is no object of the module -/
def given (K : PySem.W.Frag) (a : Addr) (o : Obj) (ns : List Int) : Hp := fun b => if b = a ∧ K.lookup a = none then some (.frz o (.lst (ns.map V.int))) else none
theorem given_is {K : PySem.W.Frag} {a b : Addr} {o : Obj} {ns : List Int} {u : HO} (h : given K a o ns b = some u) : b = a ∧ K.lookup a = none ∧ u = .frz o (.lst (ns.map V.int)) := by
  unfold given at h
  by_cases c : b = a ∧ K.lookup a = none
  · rw [if_pos c] at h
    exact ⟨c.1, c.2, (Option.some.inj h).symm⟩
  · rw [if_neg c] at h
    cases h
theorem law_gn {P : Program} {w : World} {K : PySem.W.Frag} {mg mb : Str → Option Value} {k : Nat} {fa a : Addr} {fd : FuncData} {x : Str} {sp : SpG} {t : Shared} {vs : List Value} {ns : List Int}
    (kin : K.In t.heap) (glob : t.heap.Ns mainGlobals mg) (bl : t.heap.Ns builtinsNs mb) (boot : ∀ x : Str, x ≠ "__name__" → mb x = bootBuiltins x) (lim : t.heap.NoLimit) (gens : t.gens = #[])
    (script : t.heap.get? a = some { cls := .type "list", data := .seq vs.toArray }) (iv : IntsAre vs ns) (len : ns.length ≤ sizeLine) (room : Room k callerA)
    (F : ∀ base : Heap, K.In base → base.Ns mainGlobals mg → GnOk P w K mg base k fa fd [x] sp) (bind : ∀ (s : Shared) (u : Value), BindsTo s fd ⟨[u], []⟩ [(x, u)])
    (q : ∀ H : Hp, SqL K H a (ns.map V.int) → sp [] [.ref a] H fun v _ => v = .bl true) :
    codeAny (model P w) callerA (.call (.ref fa) ⟨[.ref a], []⟩) (fun r s' => r = .ok (.ret (.bool true)) ∧ OldK t.heap s'.heap ∧ s'.os = t.os ∧ AllBare s'.gens) t := by
  have rel : Vals (ns.map V.int) vs := vals_ints iv
  obtain ⟨H, eH⟩ : ∃ H, H = given K a { cls := .type "list", data := .seq vs.toArray } ns := ⟨_, rfl⟩
  have one : ∀ {b : Addr} {u : HO}, H b = some u → b = a ∧ K.lookup a = none ∧ u = .frz { cls := .type "list", data := .seq vs.toArray } (.lst (ns.map V.int)) := fun {b u} e => given_is (by rw [← eH]; exact e)
  -- what is tracked is no dict and nothing of the module
  have untracked : ∀ {b : Addr}, (b = a → K.lookup a = none → False) → H b = none := fun {b} n => by
    cases e : H b with
    | none => rfl
    | some u => exact (n (one e).1 (one e).2.1).elim
  have inBase : ∀ {b : Addr} {o : Obj}, t.heap.get? b = some o → (b = a → K.lookup a = none → False) → (hidT t.heap H).get? b = some o := fun e n => hidT_get e (untracked n)
  have dict : ∀ {b : Addr} {m : Str → Option Value}, t.heap.Ns b m → (hidT t.heap H).Ns b m := fun {b m} ⟨o, es, n, e, d, r⟩ => ⟨o, es, n, inBase e (fun z _ => by
    rw [z, script] at e
    cases e
    exact nomatch (show Data.seq vs.toArray _ = Data.dict es n from d)), d, r⟩
  have kin' : K.In (hidT t.heap H) := fun b o e => inBase (kin b o e) fun z n => by rw [z, n] at e; cases e
  have hold : HOk P w H t.heap := fun b u e => by
    obtain ⟨rfl, _, rfl⟩ := one e
    exact ⟨script, by rw [List.length_map]; exact len, vs, _, rel, script⟩
  have seq : SqL K H a (ns.map V.int) := by
    cases c : K.lookup a with
    | none => exact .inl (.inr ⟨{ cls := .type "list", data := .seq vs.toArray }, by rw [eH]; exact if_pos ⟨rfl, c⟩⟩)
    | some o =>
      have e := kin a o c
      rw [script] at e
      cases e
      exact .inr ⟨_, vs.toArray, _, c, rfl, rfl, rfl, by rw [List.size_toArray, iv.length]; exact len, rel⟩
  have md : Mod K mg (hidT t.heap H) := ⟨kin', dict glob, ⟨mb, dict bl, boot⟩, let ⟨mc, h1, h2⟩ := lim; ⟨mc, dict h1, h2⟩⟩
  have env : Env0 P w K mg (hidT t.heap H) callerA [] t H := ⟨rfl, md, fun b o e => of_hidT e, Nat.le_of_eq (hidT_size _ _), trivial, fun b z => absurd (show b ∈ ([] : List Addr) from z) List.not_mem_nil, hold, .of_eq gens⟩
  refine codeAny_mono ((F _ kin' (dict glob)).run callerA [] [] t H ⟨[.ref a], []⟩ [.ref a] [.ref a] _ room rfl env (bind t (.ref a)) (.cons rfl .nil) (q H seq)) fun r s' back => ?_
  match r, back with
  | .error e, back => exact back.elim
  | .ok (.ret u), ⟨v, H', os, bare, un, hold', ru, ev⟩ =>
    have ev' : v = .bl true := ev
    subst ev'
    obtain rfl : u = Value.bool true := ru
    refine ⟨rfl, OldK.of_keep fun b o e => ?_, os, bare⟩
    cases c : H b with
    | none => exact un.keep b o e c (fun z => absurd (show b ∈ ([] : List Addr) from z) List.not_mem_nil) List.not_mem_nil
    | some u =>
      obtain ⟨rfl, _, rfl⟩ := one c
      have after := (hold' _ _ (un.frzs _ _ _ c)).1
      rw [script] at e
      cases e
      exact after
/-- the goal that the head of an open law leaves, from the law's promise -/
theorem walk_gn {l : PySem.W.OpenLaw} {n k : Nat} {q : Program} {loose : List Str} {XP : (Str → Option Value) → Heap → Prop} {YP : World → Heap → Prop} {d : DefRec} {K : Params → PySem.W.Frag} {sp : World → SpG} {x : Str}
    (hn : l.most = some n) (hn2 : n ≤ sizeLine) (hdf : d.params.defaults = []) (hr : Room k callerA) (hY : ∀ (w : World) (h : Heap), YP w h → (K w.params).In h)
    (F : ∀ (w : World) (mg : Str → Option Value) (fa : Addr) (h : Heap), (K w.params).In h → h.Ns mainGlobals mg → mg d.name = some (.ref fa) →
      ∃ fd : FuncData, (∀ (s : Shared) (u : Value), BindsTo s fd ⟨[u], []⟩ [(x, u)]) ∧ ∀ base : Heap, (K w.params).In base → base.Ns mainGlobals mg → GnOk l.prog w (K w.params) mg base k fa fd [x] (sp w))
    (hsp : ∀ (w : World) (H : Hp) (a : Addr) (ns : List Int), ns.length ≤ n → SqL (K w.params) H a (ns.map V.int) → sp w [] [.ref a] H fun v _ => v = .bl true) :
    PySem.W.WalkO q loose XP YP l.row.toRowW d [] (fun f vs => PySem.call f vs) :=
  Att.attach_call hn hdf fun w s₀ s₁ mg mb fa o pm cd doc a vs ns G Y ho hd hcd hmg hobj hints hlen hg =>
    let ⟨fd, hb, hF⟩ := F w mg fa _ (hY w _ Y) G.T.g hmg
    law_gn (hY w _ Y) G.T.g G.T.b G.T.builtins G.T.nolimit hg hobj hints (Nat.le_trans hlen hn2) hr hF hb fun H hS => hsp w H a ns hlen hS
end DL

set_option Elab.async false
set_option linter.all false
set_option maxRecDepth 100000
set_option maxHeartbeats 2000000
/-! k25: the text by places, the data, the promises -/
namespace K25
open PySem L2 DL
def top (i : Nat) : Stmt := PySem.Challenge.pw_onecrest_k25_any_value_as_misfit.main.body.getD i (.Pass ⟨0, 0, 0, 0⟩)
abbrev sIsInt : Stmt := top 3
abbrev sIsList : Stmt := top 5
abbrev sIsCount : Stmt := top 4
abbrev ble (j : Nat) : Stmt := inClass (top 29) j
abbrev rat (j : Nat) : Stmt := inClass (top 21) j
abbrev sIsNumber : Stmt := top 22
abbrev sRatioOf : Stmt := top 24
/-! ### fractions -/
abbrev Fr := Int × Int
/-- the common part, with the sign of the bottom -/
def gs (t b : Int) : Int := if b > 0 then (Nat.gcd t.natAbs b.natAbs : Int) else -(Nat.gcd t.natAbs b.natAbs : Int)
def low (t b : Int) : Fr := (t.fdiv (gs t b), b.fdiv (gs t b))
/-- a fraction as it is held: below 2 ^ n, the bottom above 0 -/
structure Bd (n : Nat) (p : Fr) : Prop where
  t : p.1.natAbs < 2 ^ n
  b : p.2.natAbs < 2 ^ n
  pos : 0 < p.2
theorem gs_ne {t b : Int} (h : b ≠ 0) : gs t b ≠ 0 := by
  have g : 0 < Nat.gcd t.natAbs b.natAbs := Nat.gcd_pos_of_pos_right _ (by omega)
  unfold gs
  split <;> omega
theorem gs_dvd_t {t b : Int} : gs t b ∣ t := by
  have h : ((Nat.gcd t.natAbs b.natAbs : Nat) : Int) ∣ t := Int.ofNat_dvd_left.mpr (Nat.gcd_dvd_left _ _)
  unfold gs
  split
  · exact h
  · exact Int.neg_dvd.mpr h
theorem gs_dvd_b {t b : Int} : gs t b ∣ b := by
  have h : ((Nat.gcd t.natAbs b.natAbs : Nat) : Int) ∣ b := Int.ofNat_dvd_left.mpr (Nat.gcd_dvd_right _ _)
  unfold gs
  split
  · exact h
  · exact Int.neg_dvd.mpr h
theorem fdiv_small {x d : Int} (h : d ∣ x) : (x.fdiv d).natAbs ≤ x.natAbs := by
  rw [Int.fdiv_eq_ediv_of_dvd h]
  obtain ⟨c, rfl⟩ := h
  by_cases z : d = 0
  · subst z; simp
  · rw [Int.mul_ediv_cancel_left _ z, Int.natAbs_mul]
    exact Nat.le_mul_of_pos_left _ (by omega)
theorem low_pos {t b : Int} (h : b ≠ 0) : 0 < (low t b).2 := by
  show 0 < b.fdiv (gs t b)
  have d := gs_dvd_b (t := t) (b := b)
  have n := gs_ne (t := t) h
  rw [Int.fdiv_eq_ediv_of_dvd d]
  obtain ⟨c, hc⟩ := d
  have e : b / gs t b = c := by
    conv => lhs; lhs; rw [hc]
    exact Int.mul_ediv_cancel_left _ n
  rw [e]
  have g : 0 < Nat.gcd t.natAbs b.natAbs := Nat.gcd_pos_of_pos_right _ (by omega)
  by_cases p : b > 0
  · have e2 : gs t b = (Nat.gcd t.natAbs b.natAbs : Int) := by unfold gs; rw [if_pos p]
    rw [e2] at hc
    by_cases q : 0 < c
    · exact q
    · have : (Nat.gcd t.natAbs b.natAbs : Int) * c ≤ 0 := Int.mul_nonpos_of_nonneg_of_nonpos (by omega) (by omega)
      omega
  · have e2 : gs t b = -(Nat.gcd t.natAbs b.natAbs : Int) := by unfold gs; rw [if_neg p]
    rw [e2] at hc
    by_cases q : 0 < c
    · exact q
    · have : 0 ≤ -(Nat.gcd t.natAbs b.natAbs : Int) * c := Int.mul_nonneg_of_nonpos_of_nonpos (by omega) (by omega)
      omega
theorem low_bd {n : Nat} {t b : Int} (h : b ≠ 0) (ht : t.natAbs < 2 ^ n) (hb : b.natAbs < 2 ^ n) : Bd n (low t b) :=
  ⟨Nat.lt_of_le_of_lt (fdiv_small gs_dvd_t) ht, Nat.lt_of_le_of_lt (fdiv_small gs_dvd_b) hb, low_pos h⟩
theorem low_gcd {t b : Int} (h : b ≠ 0) : Nat.gcd (low t b).1.natAbs (low t b).2.natAbs = 1 := by
  show Nat.gcd (t.fdiv (gs t b)).natAbs (b.fdiv (gs t b)).natAbs = 1
  have g : 0 < Nat.gcd t.natAbs b.natAbs := Nat.gcd_pos_of_pos_right _ (by omega)
  have e : (gs t b).natAbs = Nat.gcd t.natAbs b.natAbs := by
    unfold gs
    split <;> omega
  have key : ∀ x : Int, gs t b ∣ x → (x.fdiv (gs t b)).natAbs = x.natAbs / Nat.gcd t.natAbs b.natAbs := fun x hx => by
    rw [Int.fdiv_eq_ediv_of_dvd hx, ← e]
    obtain ⟨c, rfl⟩ := hx
    have n := gs_ne (t := t) h
    rw [Int.mul_ediv_cancel_left _ n, Int.natAbs_mul, Nat.mul_div_cancel_left _ (by omega)]
  rw [key t gs_dvd_t, key b gs_dvd_b]
  rw [Nat.gcd_div (Nat.gcd_dvd_left _ _) (Nat.gcd_dvd_right _ _)]
  exact Nat.div_self g
/-- what is in lowest terms stays -/
theorem low_id {t b : Int} (hb : 0 < b) (h : Nat.gcd t.natAbs b.natAbs = 1) : low t b = (t, b) := by
  have e : gs t b = 1 := by unfold gs; rw [if_pos hb, h]; rfl
  unfold low
  rw [e, Int.fdiv_one, Int.fdiv_one]
theorem low_one (n : Int) : low n 1 = (n, 1) := low_id (by decide) (Nat.gcd_one_right _)
theorem mul_bd {a b : Int} {m n : Nat} (h : a.natAbs < 2 ^ m) (k : b.natAbs < 2 ^ n) : (a * b).natAbs < 2 ^ (m + n) := by
  rw [Int.natAbs_mul, Nat.pow_add]
  exact Nat.mul_lt_mul'' h k
theorem add_bd {a b : Int} {m : Nat} (h : a.natAbs < 2 ^ m) (k : b.natAbs < 2 ^ m) : (a + b).natAbs < 2 ^ (m + 1) := by
  have := Int.natAbs_add_le a b
  rw [Nat.pow_succ]
  omega
theorem bd_mono {a : Int} {m n : Nat} (h : a.natAbs < 2 ^ m) (k : m ≤ n) : a.natAbs < 2 ^ n := Nat.lt_of_lt_of_le h (Nat.pow_le_pow_right (by decide) k)
theorem Bd.mono {p : Fr} {m n : Nat} (h : Bd m p) (k : m ≤ n) : Bd n p := ⟨bd_mono h.t k, bd_mono h.b k, h.pos⟩
theorem cmul {a b : Int} {m n : Nat} (h : a.natAbs < 2 ^ m) (k : b.natAbs < 2 ^ n) (hm : m ≤ 60000000) (hn : n ≤ 60000000) : CMulX a b := by
  have e1 := intBits_le_iff.mpr h
  have e2 := intBits_le_iff.mpr k
  show (Builtin.Int.intBits a : Int) + (Builtin.Int.intBits b : Int) ≤ 134217728
  omega
theorem cdivg {a b : Int} {n : Nat} (h : b ≠ 0) (k : b.natAbs < 2 ^ n) (hn : n ≤ 9000) : CDivG a b :=
  ⟨h, Nat.lt_of_lt_of_le ((Nat.log2_lt (by omega)).mpr k) hn⟩
theorem gs_bd {t b : Int} {n : Nat} (h : b ≠ 0) (hb : b.natAbs < 2 ^ n) : (gs t b).natAbs < 2 ^ n := by
  have e : (gs t b).natAbs = Nat.gcd t.natAbs b.natAbs := by
    unfold gs
    split <;> omega
  rw [e]
  exact Nat.lt_of_le_of_lt (Nat.gcd_le_right _ (by omega)) hb
end K25

set_option Elab.async false
set_option linter.all false
set_option maxRecDepth 100000
set_option maxHeartbeats 2000000
/-! k25: the promises, the checks, Ratio -/
namespace K25
open PySem L2 DL
section
variable {X : Cx} {B : Hp} {S : En} {pos : Pos} {Q : D → Prop} {x : Str} {d : D}
theorem nm (i : Nat) (q : Q d) (hN : X.N[i]? = some x := by rfl) (h : S[i]? = some (some (.val d)) := by rfl) (hv : Vis X.env.scope x := by first | exact Or.inl rfl | exact Or.inr (Or.inl rfl) | exact Or.inr (Or.inr rfl))
    (hd : (x == ("__debug__" : Str)) = false := by decide) (hcd : (x == ("__classdict__" : Str)) = false := by decide) : ED X B S (.Name x pos) Q := ed_name i hN h q hv hd hcd
theorem sd_post {W0 : Wd} {st : Stmt} {E : Ends'} (QS : En → Prop) (h : SD X B W0 S st { E with nx := QS }) (k : ∀ S', QS S' → E.nx S') : SD X B W0 S st E := fun σ W H r z D' q => h σ W H r z D' ⟨fun S' σ' W' H' r' z' x' y => q.nx S' σ' W' H' r' z' x' (k S' y), q.rt, q.bk, q.ct⟩
theorem kB {QB : Bool → Prop} {b : Bool} (q : QB b) : ∃ k, D.bl b = .bl k ∧ QB k := ⟨b, rfl, q⟩
end
/-! ### data -/
def rf (p : Fr) : List (Str × D) := [("_top", .int p.1), ("_bottom", .int p.2)]
abbrev Ra (C : Addr) (p : Fr) : D := .obj C (rf p)
def pr (p : Fr) : D := .tup [.int p.1, .int p.2]
/-- what may be handed to a check -/
inductive Kn (C : Addr) : D → Prop
  | non : Kn C .non
  | bl (b) : Kn C (.bl b)
  | int (i) : Kn C (.int i)
  | str (s) : Kn C (.str s)
  | tup (l) : Kn C (.tup l)
  | lst (l) : Kn C (.lst l)
  | dct : Kn C .dct
  | rat (p) : Kn C (Ra C p)
def isI : D → Bool
  | .int _ => true
  | _ => false
def isB : D → Bool
  | .bl _ => true
  | _ => false
def isO : D → Bool
  | .obj _ _ => true
  | _ => false
structure Txt (K : PySem.W.Frag) (mg : Str → Option Value) (C : Addr) : Prop where
  nu : Num K C
  is : Isi K C
  nT : NoAttr K C "_top"
  nB : NoAttr K C "_bottom"
  ne : PySem.W.findIn K (.ref C) "__ne__" = some (some (.builtin "object.__ne__"))
  mC : mg "Ratio" = some (.ref C)
  gcd : mg "gcd" = some (.builtin "math.gcd")
  isi : mg "isinstance" = none
  int : mg "int" = none
  bool : mg "bool" = none
  list : mg "list" = none
  tuple : mg "tuple" = none
  abs : mg "abs" = none
  len : mg "len" = none
  max : mg "max" = none
  divmod : mg "divmod" = none
  str : mg "str" = none
  repr : mg "repr" = none
  range : mg "range" = none
  k1 : PySem.W.kitOne K (.type "NoneType") (.type "int") = some false
  k2 : PySem.W.kitOne K (.type "bool") (.type "int") = some true
  k3 : PySem.W.kitOne K (.type "str") (.type "int") = some false
  k4 : PySem.W.kitOne K (.type "tuple") (.type "int") = some false
  k5 : PySem.W.kitOne K (.type "list") (.type "int") = some false
  k6 : PySem.W.kitOne K (.ref C) (.type "int") = some false
  k7 : PySem.W.kitOne K (.type "int") (.type "bool") = some false
  r1 : PySem.W.kitOne K (.type "NoneType") (.ref C) = some false
  r2 : PySem.W.kitOne K (.type "bool") (.ref C) = some false
  r3 : PySem.W.kitOne K (.type "str") (.ref C) = some false
  r4 : PySem.W.kitOne K (.type "tuple") (.ref C) = some false
  r5 : PySem.W.kitOne K (.type "list") (.ref C) = some false
  r7 : PySem.W.kitOne K (.type "int") (.ref C) = some false
  k8 : PySem.W.kitOne K (.type "dict") (.type "int") = some false
  r8 : PySem.W.kitOne K (.type "dict") (.ref C) = some false
  l0 : ∀ T : String, T = "NoneType" ∨ T = "bool" ∨ T = "str" ∨ T = "int" ∨ T = "dict" → PySem.W.kitAny K (.type T) [.type "list", .type "tuple"] = some false
  l3 : PySem.W.kitAny K (.ref C) [.type "list", .type "tuple"] = some false
  all : mg "all" = none
  zip : mg "zip" = none
  l1 : PySem.W.kitAny K (.type "list") [.type "list", .type "tuple"] = some true
  l2 : PySem.W.kitAny K (.type "tuple") [.type "list", .type "tuple"] = some true
theorem same {K : PySem.W.Frag} {t : Value} (h : (t == t) = true) : PySem.W.kitOne K t t = some true := by
  unfold PySem.W.kitOne
  rw [if_pos h]
theorem Kn.ty {K : PySem.W.Frag} {mg : Str → Option Value} {C : Addr} (T : Txt K mg C) {d : D} (h : Kn C d) : ∃ t, TyD K d t ∧ PySem.W.kitOne K t (.type "int") = some (isI d || isB d) ∧ ((isI d || isB d) = true → PySem.W.kitOne K t (.type "bool") = some (isB d)) ∧ PySem.W.kitOne K t (.ref C) = some (isO d) := by
  cases h with
  | non => exact ⟨_, .non, T.k1, fun z => Bool.noConfusion z, T.r1⟩
  | bl b => exact ⟨_, .bl b, T.k2, fun _ => same (by decide +kernel), T.r2⟩
  | int i => exact ⟨_, .int i, same (by decide +kernel), fun _ => T.k7, T.r7⟩
  | str s => exact ⟨_, .str s, T.k3, fun z => Bool.noConfusion z, T.r3⟩
  | tup l => exact ⟨_, .tup l, T.k4, fun z => Bool.noConfusion z, T.r4⟩
  | dct => exact ⟨_, .dct, T.k8, fun z => Bool.noConfusion z, T.r8⟩
  | lst l => exact ⟨_, .lst l, T.k5, fun z => Bool.noConfusion z, T.r5⟩
  | rat p => exact ⟨_, .obj _ T.is, T.k6, fun z => Bool.noConfusion z, same (beq_self_eq_true _)⟩
/-! ### promises -/
abbrev spB (C : Addr) (f : D → Bool) : SpD := fun as Q => ∃ d, as = [.val d] ∧ Kn C d ∧ Q (.bl (f d))
section
variable {P : Program} {w : World} {K : PySem.W.Frag} {mg : Str → Option Value} {base : Heap} {C : Addr}
theorem sc_isint : FnScope ["value"] ["value"] (defScope sIsInt) := ⟨rfl, rfl, rfl, by decide +kernel, rfl, by decide +kernel, by decide +kernel⟩
theorem ok_isint {f : Addr} {fd : FuncData} (F : FunS K "is_integer" "is_integer" sIsInt f fd) (T : Txt K mg C) : GnOk P w K mg base 1 f fd ["value"] (lift K (spB C isI)) := by
  refine gn_dl F sc_isint (fun as Q h => by obtain ⟨d, rfl, _⟩ := h; rfl) (fun cdv A outer s H hr hG W as Q h => ?_)
  obtain ⟨d, rfl, kn, q⟩ := h
  obtain ⟨t, ty, h1, h2, _⟩ := kn.ty T
  refine sds_cons (sd_ret (ed_and (ed_callB T.isi (ad_cons (nm 0 (ad_cons (ed_ty T.int (ad_nil (cd_isi ty (.ty _) h1 (kB ?_))))))))))
  have e : isI d = ((isI d || isB d) && !isB d) := by cases d <;> rfl
  rw [e] at q
  cases c : (isI d || isB d) with
  | false =>
    rw [c] at q
    exact q
  | true =>
    rw [c] at q
    show ED _ _ _ _ _
    exact ed_one (ed_not (ed_callB T.isi (ad_cons (nm 0 (ad_cons (ed_ty T.bool (ad_nil (cd_isi ty (.ty _) (h2 c) (kB q)))))))))

/-- is_count: an int from 0 on -/
def isC : D → Bool
  | .int i => decide (0 ≤ i)
  | _ => false
theorem sc_iscount : FnScope ["value"] ["value"] (defScope sIsCount) := ⟨rfl, rfl, rfl, by decide +kernel, rfl, by decide +kernel, by decide +kernel⟩
theorem ok_iscount {f : Addr} {fd : FuncData} (F : FunS K "is_count" "is_count" sIsCount f fd) (T : Txt K mg C) (G : Df P w K mg base "is_integer" 1 1 (spB C isI)) : GnOk P w K mg base 2 f fd ["value"] (lift K (spB C isC)) := by
  refine gn_dl F sc_iscount (fun as Q h => by obtain ⟨d, rfl, _⟩ := h; rfl) (fun cdv A outer s H hr hG W as Q h => ?_)
  obtain ⟨d, rfl, kn, q⟩ := h
  refine sds_cons (sd_ret (ed_and (ed_call G hr hG (ad_cons (nm 0 (ad_nil ⟨d, rfl, kn, kB ?_⟩))))))
  cases kn with
  | int i => exact ed_one (show ED _ _ _ _ _ from ed_cmp (nm 0 (ed_int (od_ge q))))
  | _ => exact q
abbrev spL : SpD := fun as Q => ∃ d l, as = [.val d] ∧ (d = .lst l ∨ d = .tup l) ∧ Q (.bl true)
theorem sc_islist : FnScope ["value"] ["value"] (defScope sIsList) := ⟨rfl, rfl, rfl, by decide +kernel, rfl, by decide +kernel, by decide +kernel⟩
theorem ok_islist {f : Addr} {fd : FuncData} (F : FunS K "is_list" "is_list" sIsList f fd) (T : Txt K mg C) : GnOk P w K mg base 1 f fd ["value"] (lift K spL) := by
  refine gn_dl F sc_islist (fun as Q h => by obtain ⟨d, l, rfl, _⟩ := h; rfl) (fun cdv A outer s H hr hG W as Q h => ?_)
  obtain ⟨d, l, rfl, hd, q⟩ := h
  refine sds_cons (sd_ret (ed_callB T.isi (ad_cons (nm 0 (ad_cons (ed_tup (ad_cons (ed_ty T.list (ad_cons (ed_ty T.tuple (ad_nil ⟨[.ty "list", .ty "tuple"], rfl, by decide, ad_nil ?_⟩)))))))))))
  rcases hd with rfl | rfl
  · exact cd_isi2 (.lst l) (.ty _) (.ty _) T.l1 q
  · exact cd_isi2 (.tup l) (.ty _) (.ty _) T.l2 q
def isN (d : D) : Bool := isI d || isO d
theorem sc_isnumber : FnScope ["value"] ["value"] (defScope sIsNumber) := ⟨rfl, rfl, rfl, by decide +kernel, rfl, by decide +kernel, by decide +kernel⟩
theorem ok_isnumber {f : Addr} {fd : FuncData} (F : FunS K "is_number" "is_number" sIsNumber f fd) (T : Txt K mg C) (G : Df P w K mg base "is_integer" 1 1 (spB C isI)) : GnOk P w K mg base 2 f fd ["value"] (lift K (spB C isN)) := by
  refine gn_dl F sc_isnumber (fun as Q h => by obtain ⟨d, rfl, _⟩ := h; rfl) (fun cdv A outer s H hr hG W as Q h => ?_)
  obtain ⟨d, rfl, kn, q⟩ := h
  obtain ⟨t, ty, _, _, h3⟩ := kn.ty T
  refine sds_cons (sd_ret (ed_or (ed_call G hr hG (ad_cons (nm 0 (ad_nil ⟨d, rfl, kn, kB ?_⟩))))))
  unfold isN at q
  cases c : isI d with
  | true =>
    simp only [c, Bool.true_or] at q
    exact q
  | false =>
    simp only [c, Bool.false_or] at q
    exact ed_one (show ED _ _ _ _ _ from ed_callB T.isi (ad_cons (nm 0 (ad_cons (ed_cls T.mC (ad_nil (cd_isi ty (.cls _) h3 q)))))))
/-! ### Ratio(top, bottom) -/
abbrev sInit : Stmt := rat 0
abbrev spInit : SpI := fun as Q => ∃ t b, as = [.val (.int t), .val (.int b)] ∧ b ≠ 0 ∧ t.natAbs < 2 ^ 8000 ∧ b.natAbs < 2 ^ 8000 ∧ Q (rf (low t b))
theorem sc_init : FnScope ["self", "top", "bottom", "value", "shared"] ["self", "top", "bottom"] (defScope sInit) := ⟨rfl, rfl, rfl, by decide +kernel, rfl, by decide +kernel, by decide +kernel⟩
theorem ok_init {f : Addr} {fd : FuncData} (F : FunS K "__init__" "Ratio.__init__" sInit f fd) (T : Txt K mg C) (G : Df P w K mg base "is_integer" 1 1 (spB C isI)) : GnOk P w K mg base 2 f fd ["self", "top", "bottom"] (liftI K C spInit) := by
  refine init_dl F sc_init (fun as Q h => by obtain ⟨t, b, rfl, _⟩ := h; rfl) (fun cdv A outer s H hr hG W B as Q p dx h => ?_)
  obtain ⟨t, b, rfl, hb, bt, bb, q⟩ := h
  have nd := sc_init.nd
  refine sds_cons (sd_forT (l := [.int t, .int b]) PassesOwn.never rfl (fun _ S' => ∃ v, notInst v = true ∧ S' = [some (.inst C p dx []), some (.val (.int t)), some (.val (.int b)), v, none]) (ed_tup (ad_cons (nm 1 (ad_cons (nm 2 (ad_nil ⟨[.int t, .int b], rfl, by simp, rfl, none, rfl, rfl⟩)))))) ?_ ?_)
  · rintro i d S' hi ⟨v, nv, rfl⟩
    refine gd_name 3 nd rfl ?_
    refine sds_cons (sd_if (td_not (td_val (ed_call G hr hG (ad_cons (nm 3 (ad_nil ⟨d, rfl, ?_, kB ?_⟩)))))))
    · rcases i with _ | _ | i
      · cases hi; exact .int _
      · cases hi; exact .int _
      · simp at hi
    · have e : isI d = true := by
        rcases i with _ | _ | i
        · cases hi; rfl
        · cases hi; rfl
        · simp at hi
      rw [e]
      exact sds_nil (sds_nil ⟨_, rfl, rfl⟩)
  · rintro S' ⟨v, nv, rfl⟩
    refine sds_cons (sd_if (td_cmp (nm 2 (ed_int (od_eqi (kB ?_))))))
    rw [decide_eq_false hb]
    refine sds_nil ?_
    refine sds_cons (sd_set 4 nd rfl (ed_callM T.gcd (ad_cons (nm 1 (ad_cons (nm 2 (ad_nil (cd_gcd ?_))))))))
    refine sds_cons (sd_post (fun S' => S' = [some (.inst C p dx []), some (.val (.int t)), some (.val (.int b)), v, some (.val (.int (gs t b)))]) (sd_if (td_cmp (nm 2 (ed_int (od_lt (kB ?_)))))) ?_)
    · by_cases c : b < 0
      · rw [decide_eq_true c]
        refine sds_cons (sd_set 4 nd rfl (ed_neg (nm 4 ⟨_, rfl, sds_nil ?_⟩)))
        have e : gs t b = -(Nat.gcd t.natAbs b.natAbs : Int) := by unfold gs; rw [if_neg (by omega)]
        rw [e]
        rfl
      · rw [decide_eq_false c]
        refine sds_nil ?_
        have e : gs t b = (Nat.gcd t.natAbs b.natAbs : Int) := by unfold gs; rw [if_pos (by omega)]
        rw [e]
        rfl
    · rintro S' rfl
      have gb := gs_bd (t := t) hb bb
      have g0 := gs_ne (t := t) hb
      refine sds_cons (sd_fld 0 [] T.nu.cl T.nT rfl rfl (by decide) (by simp [notInst]; exact nv) (ed_bin (nm 1 (nm 4 (od_fdiv (cdivg g0 gb (by decide)) ?_)))))
      refine sds_cons (sd_fld 0 _ T.nu.cl T.nB rfl rfl (by simp [putD]) (by simp [notInst]; exact nv) (ed_bin (nm 2 (nm 4 (od_fdiv (cdivg g0 gb (by decide)) ?_)))))
      refine sds_nil ⟨_, rfl, ?_⟩
      have e : putD "_bottom" (D.int (b.fdiv (gs t b))) (putD "_top" (D.int (t.fdiv (gs t b))) []) = rf (low t b) := by
        show (if ("_top" : Str) = "_bottom" then _ else (("_top" : Str), D.int _) :: [(("_bottom" : Str), D.int _)]) = _
        rw [if_neg (by decide +kernel)]
        rfl
      rw [e]
      exact q
end
end K25

set_option Elab.async false
set_option linter.all false
set_option maxRecDepth 100000
set_option maxHeartbeats 2000000
/-! k25: what a Ratio does -/
namespace K25
open PySem L2 DL
theorem lookT (p : Fr) : (rf p).lookup ("_top" : Str) = some (.int p.1) := rfl
theorem lookB (p : Fr) : (rf p).lookup ("_bottom" : Str) = some (.int p.2) := by
  unfold rf
  rw [List.lookup_cons, show (("_bottom" : Str) == ("_top" : Str)) = false by decide +kernel]
  rfl
/-- a Ratio or an int, and the fraction it is -/
inductive Nr (C : Addr) (n : Nat) : D → Fr → Prop
  | rat (p) (h : Bd n p) : Nr C n (Ra C p) p
  | int (i : Int) (h : i.natAbs < 2 ^ n) (h1 : 1 < 2 ^ n) : Nr C n (.int i) (i, 1)
theorem Nr.bd {C : Addr} {n : Nat} {x : D} {p : Fr} (h : Nr C n x p) : Bd n p := by
  cases h with
  | rat p h => exact h
  | int i h h1 => exact ⟨h, h1, Int.one_pos⟩
def addF (p q : Fr) : Fr := low (p.1 * q.2 + q.1 * p.2) (p.2 * q.2)
def subF (p q : Fr) : Fr := low (p.1 * q.2 - q.1 * p.2) (p.2 * q.2)
def mulF (p q : Fr) : Fr := low (p.1 * q.1) (p.2 * q.2)
def overF (p q : Fr) : Fr := low (p.1 * q.2) (p.2 * q.1)
def sgF (p : Fr) : Int := if p.1 > 0 then 1 else if p.1 < 0 then -1 else 0
abbrev sp1 (C : Addr) (f : Fr → D) : SpD := fun as Q => ∃ p, as = [.val (Ra C p)] ∧ Q (f p)
/-- .. of a fraction that is not great -/
abbrev sp1b (C : Addr) (n : Nat) (f : Fr → D) : SpD := fun as Q => ∃ p, as = [.val (Ra C p)] ∧ Bd n p ∧ Q (f p)
abbrev spRat (C : Addr) : SpD := fun as Q => ∃ x p, as = [.val x] ∧ Nr C 3000 x p ∧ Q (Ra C p)
abbrev spOp (C : Addr) (f : Fr → Fr → D) : SpD := fun as Q => ∃ p x q, as = [.val (Ra C p), .val x] ∧ Bd 3000 p ∧ Nr C 3000 x q ∧ Q (f p q)
/-- what a Ratio's method stands on -/
structure Rt (P : Program) (w : World) (K : PySem.W.Frag) (mg : Str → Option Value) (base : Heap) (C : Addr) : Prop where
  T : Txt K mg C
  mk2 : Kl P w K mg base "Ratio" C 2 [] spInit
  mk1 : Kl P w K mg base "Ratio" C 2 [.int 1] spInit
  top : Pr P w K mg base C "top" 1 (sp1 C fun p => .int p.1)
  bot : Pr P w K mg base C "bottom" 1 (sp1 C fun p => .int p.2)
section
variable {P : Program} {w : World} {K : PySem.W.Frag} {mg : Str → Option Value} {base : Heap} {C : Addr}
section
variable {X : Cx} {B : Hp} {S : En} {pos : Pos} {Q : D → Prop} {o : Expr}
/-- o._top, o._bottom -/
theorem fT {p : Fr} (T : Txt X.K X.mg C) (h : ED X B S o fun x => x = Ra C p ∧ Q (.int p.1)) (hb : attributeBase o "_top" X.env (eval o X.env) = eval o X.env := by rfl) : ED X B S (.Attribute o "_top" pos) Q :=
  ed_fld T.nu.cl T.nT (fun σ W H r R c => h σ W H r R fun d v W' H' s ok n ⟨e, q⟩ => c d v W' H' s ok n ⟨rf p, .int p.1, e, lookT p, q⟩) hb
theorem fB {p : Fr} (T : Txt X.K X.mg C) (h : ED X B S o fun x => x = Ra C p ∧ Q (.int p.2)) (hb : attributeBase o "_bottom" X.env (eval o X.env) = eval o X.env := by rfl) : ED X B S (.Attribute o "_bottom" pos) Q :=
  ed_fld T.nu.cl T.nB (fun σ W H r R c => h σ W H r R fun d v W' H' s ok n ⟨e, q⟩ => c d v W' H' s ok n ⟨rf p, .int p.2, e, lookB p, q⟩) hb
/-- o.top, o.bottom -/
theorem pT {p : Fr} (V : Rt X.prog X.w X.K X.mg X.base C) (hr : Room 2 X.A) (hG : X.A.guards = some (gOf X)) (h : ED X B S o fun x => x = Ra C p ∧ Q (.int p.1)) (hb : attributeBase o "top" X.env (eval o X.env) = eval o X.env := by rfl) : ED X B S (.Attribute o "top" pos) Q :=
  ed_prop V.T.nu.cl V.top hr hG (fun σ W H r R c => h σ W H r R fun d v W' H' s ok n ⟨e, q⟩ => c d v W' H' s ok n ⟨rf p, e, p, by rw [e], q⟩) hb
theorem pB {p : Fr} (V : Rt X.prog X.w X.K X.mg X.base C) (hr : Room 2 X.A) (hG : X.A.guards = some (gOf X)) (h : ED X B S o fun x => x = Ra C p ∧ Q (.int p.2)) (hb : attributeBase o "bottom" X.env (eval o X.env) = eval o X.env := by rfl) : ED X B S (.Attribute o "bottom" pos) Q :=
  ed_prop V.T.nu.cl V.bot hr hG (fun σ W H r R c => h σ W H r R fun d v W' H' s ok n ⟨e, q⟩ => c d v W' H' s ok n ⟨rf p, e, p, by rw [e], q⟩) hb
end
theorem sc_top : FnScope ["self"] ["self"] (defScope (rat 1)) := ⟨rfl, rfl, rfl, by decide +kernel, rfl, by decide +kernel, by decide +kernel⟩
theorem ok_top {f : Addr} {fd : FuncData} (F : FunS K "top" "Ratio.top" (rat 1) f fd) (T : Txt K mg C) : GnOk P w K mg base 1 f fd ["self"] (lift K (sp1 C fun p => .int p.1)) := by
  refine gn_dl F sc_top (fun as Q h => by obtain ⟨d, rfl, _⟩ := h; rfl) (fun cdv A outer s H hr hG W as Q h => ?_)
  obtain ⟨p, rfl, q⟩ := h
  exact sds_cons (sd_ret (fT T (nm 0 ⟨rfl, q⟩)))
theorem sc_bot : FnScope ["self"] ["self"] (defScope (rat 2)) := ⟨rfl, rfl, rfl, by decide +kernel, rfl, by decide +kernel, by decide +kernel⟩
theorem ok_bot {f : Addr} {fd : FuncData} (F : FunS K "bottom" "Ratio.bottom" (rat 2) f fd) (T : Txt K mg C) : GnOk P w K mg base 1 f fd ["self"] (lift K (sp1 C fun p => .int p.2)) := by
  refine gn_dl F sc_bot (fun as Q h => by obtain ⟨d, rfl, _⟩ := h; rfl) (fun cdv A outer s H hr hG W as Q h => ?_)
  obtain ⟨p, rfl, q⟩ := h
  exact sds_cons (sd_ret (fB T (nm 0 ⟨rfl, q⟩)))
theorem sc_sign : FnScope ["self"] ["self"] (defScope (rat 3)) := ⟨rfl, rfl, rfl, by decide +kernel, rfl, by decide +kernel, by decide +kernel⟩
theorem ok_sign {f : Addr} {fd : FuncData} (F : FunS K "sign" "Ratio.sign" (rat 3) f fd) (T : Txt K mg C) : GnOk P w K mg base 1 f fd ["self"] (lift K (sp1 C fun p => .int (sgF p))) := by
  refine gn_dl F sc_sign (fun as Q h => by obtain ⟨d, rfl, _⟩ := h; rfl) (fun cdv A outer s H hr hG W as Q h => ?_)
  obtain ⟨p, rfl, q⟩ := h
  refine sds_cons (sd_if (td_cmp (fT T (nm 0 ⟨rfl, ed_int (od_gt (kB ?_))⟩))))
  have q : Q (.int (sgF p)) := q
  unfold sgF at q
  by_cases c : p.1 > 0
  · rw [if_pos c] at q
    rw [decide_eq_true (show 0 < p.1 from c)]
    exact sds_cons (sd_ret (ed_int q))
  · rw [if_neg c] at q
    rw [decide_eq_false (show ¬ 0 < p.1 from c)]
    refine sds_nil (sds_cons (sd_ret (ed_ifx (td_cmp (fT T (nm 0 ⟨rfl, ed_int (od_lt (kB ?_))⟩))))))
    by_cases e : p.1 < 0
    · rw [if_pos e] at q
      rw [decide_eq_true e]
      exact ed_neg (ed_int ⟨_, rfl, q⟩)
    · rw [if_neg e] at q
      rw [decide_eq_false e]
      exact ed_int q
theorem sc_ratof : FnScope ["value"] ["value"] (defScope sRatioOf) := ⟨rfl, rfl, rfl, by decide +kernel, rfl, by decide +kernel, by decide +kernel⟩
theorem ok_ratof {f : Addr} {fd : FuncData} (F : FunS K "ratio_of" "ratio_of" sRatioOf f fd) (V : Rt P w K mg base C) : GnOk P w K mg base 4 f fd ["value"] (lift K (spRat C)) := by
  refine gn_dl F sc_ratof (fun as Q h => by obtain ⟨d, _, rfl, _⟩ := h; rfl) (fun cdv A outer s H hr hG W as Q h => ?_)
  obtain ⟨x, p, rfl, n, q⟩ := h
  have T := V.T
  cases n with
  | rat p h =>
    obtain ⟨t, ty, _, _, h3⟩ := (Kn.rat (C := C) p).ty T
    refine sds_cons (sd_ret (ed_ifx (td_val (ed_callB T.isi (ad_cons (nm 0 (ad_cons (ed_cls T.mC (ad_nil (cd_isi ty (.cls _) h3 (kB ?_)))))))))))
    exact nm 0 q
  | int i h h1 =>
    obtain ⟨t, ty, _, _, h3⟩ := (Kn.int (C := C) i).ty T
    refine sds_cons (sd_ret (ed_ifx (td_val (ed_callB T.isi (ad_cons (nm 0 (ad_cons (ed_cls T.mC (ad_nil (cd_isi ty (.cls _) h3 (kB ?_)))))))))))
    refine ed_make V.mk1 hr hG (ad_cons (nm 0 (ad_nil ⟨i, 1, rfl, by decide, bd_mono h (by decide), bd_mono (m := 1) (by decide) (by decide), ?_⟩)))
    rw [low_one]
    exact q
end
end K25

set_option Elab.async false
set_option linter.all false
set_option maxRecDepth 100000
set_option maxHeartbeats 2000000
/-! k25: the operators, the comparisons, the texts of a Ratio -/
namespace K25
open PySem L2 DL
section
variable {P : Program} {w : World} {K : PySem.W.Frag} {mg : Str → Option Value} {base : Heap} {C : Addr}
theorem mk_ok {n : Nat} {t b : Int} {Q : List (Str × D) → Prop} (hb : b ≠ 0) (h1 : t.natAbs < 2 ^ n) (h2 : b.natAbs < 2 ^ n) (hn : n ≤ 8000) (q : Q (rf (low t b))) : spInit [.val (.int t), .val (.int b)] Q :=
  ⟨t, b, rfl, hb, bd_mono h1 hn, bd_mono h2 hn, q⟩
theorem mul_ne {a b : Int} (h : a ≠ 0) (k : b ≠ 0) : a * b ≠ 0 := Int.mul_ne_zero h k
theorem Bd.ne {n : Nat} {p : Fr} (h : Bd n p) : p.2 ≠ 0 := by have := h.pos; omega
theorem cm {m n : Nat} {a b : Int} (h : a.natAbs < 2 ^ m) (k : b.natAbs < 2 ^ n) (hm : m ≤ 3000 := by decide) (hn : n ≤ 3000 := by decide) : CMulX a b := cmul h k (by omega) (by omega)
theorem sc_add : FnScope ["self", "other", "right", "top"] ["self", "other"] (defScope (rat 5)) := ⟨rfl, rfl, rfl, by decide +kernel, rfl, by decide +kernel, by decide +kernel⟩
theorem ok_add {f : Addr} {fd : FuncData} (F : FunS K "__add__" "Ratio.__add__" (rat 5) f fd) (V : Rt P w K mg base C) (G : Df P w K mg base "ratio_of" 4 1 (spRat C)) : GnOk P w K mg base 5 f fd ["self", "other"] (lift K (spOp C fun p q => Ra C (addF p q))) := by
  refine gn_dl F sc_add (fun as Q h => by obtain ⟨_, _, _, rfl, _⟩ := h; rfl) (fun cdv A outer s H hr hG W as Q h => ?_)
  obtain ⟨p, x, q, rfl, hp, hx, k⟩ := h
  have T := V.T
  have hq := hx.bd
  have r2 := hr.mono (j := 2) (by decide)
  have nd := sc_add.nd
  refine sds_cons (sd_set 2 nd rfl (ed_call G hr hG (ad_cons (nm 1 (ad_nil ⟨x, q, rfl, hx, ?_⟩)))))
  refine sds_cons (sd_set 3 nd rfl (ed_bin (ed_bin (fT T (nm 0 ⟨rfl, pB V r2 hG (nm 2 ⟨rfl, od_mul (cm hp.t hq.b) (ed_bin (pT V r2 hG (nm 2 ⟨rfl, fB T (nm 0 ⟨rfl, od_mul (cm hq.t hp.b) (od_add ?_)⟩)⟩)))⟩)⟩)))))
  refine sds_cons (sd_ret (ed_makeA V.mk2 (hr.mono (by decide)) hG (ad_cons (nm 3 (ad_cons (ed_bin (fB T (nm 0 ⟨rfl, pB V r2 hG (nm 2 ⟨rfl, od_mul (cm hp.b hq.b) (ad_nil (mk_ok (n := 6001) (mul_ne hp.ne hq.ne) (add_bd (mul_bd hp.t hq.b) (mul_bd hq.t hp.b)) (bd_mono (mul_bd hp.b hq.b) (by decide)) (by decide) ?_))⟩)⟩))))))))
  exact k
theorem sc_mul : FnScope ["self", "other", "right"] ["self", "other"] (defScope (rat 9)) := ⟨rfl, rfl, rfl, by decide +kernel, rfl, by decide +kernel, by decide +kernel⟩
theorem ok_mul {f : Addr} {fd : FuncData} (F : FunS K "__mul__" "Ratio.__mul__" (rat 9) f fd) (V : Rt P w K mg base C) (G : Df P w K mg base "ratio_of" 4 1 (spRat C)) : GnOk P w K mg base 5 f fd ["self", "other"] (lift K (spOp C fun p q => Ra C (mulF p q))) := by
  refine gn_dl F sc_mul (fun as Q h => by obtain ⟨_, _, _, rfl, _⟩ := h; rfl) (fun cdv A outer s H hr hG W as Q h => ?_)
  obtain ⟨p, x, q, rfl, hp, hx, k⟩ := h
  have T := V.T
  have hq := hx.bd
  have r2 := hr.mono (j := 2) (by decide)
  have nd := sc_mul.nd
  refine sds_cons (sd_set 2 nd rfl (ed_call G hr hG (ad_cons (nm 1 (ad_nil ⟨x, q, rfl, hx, ?_⟩)))))
  refine sds_cons (sd_ret (ed_makeA V.mk2 (hr.mono (by decide)) hG (ad_cons (ed_bin (fT T (nm 0 ⟨rfl, pT V r2 hG (nm 2 ⟨rfl, od_mul (cm hp.t hq.t) (ad_cons (ed_bin (fB T (nm 0 ⟨rfl, pB V r2 hG (nm 2 ⟨rfl, od_mul (cm hp.b hq.b) (ad_nil (mk_ok (n := 6000) (mul_ne hp.ne hq.ne) (mul_bd hp.t hq.t) (mul_bd hp.b hq.b) (by decide) ?_))⟩)⟩))))⟩)⟩))))))
  exact k
/-! an int on the left -/
abbrev spOver (C : Addr) : SpD := fun as Q => ∃ p x q, as = [.val (Ra C p), .val x] ∧ Bd 3000 p ∧ Nr C 3000 x q ∧ q.1 ≠ 0 ∧ Q (Ra C (overF p q))
theorem sc_radd : FnScope ["self", "other"] ["self", "other"] (defScope (rat 6)) := ⟨rfl, rfl, rfl, by decide +kernel, rfl, by decide +kernel, by decide +kernel⟩
theorem ok_radd {f : Addr} {fd : FuncData} (F : FunS K "__radd__" "Ratio.__radd__" (rat 6) f fd) (V : Rt P w K mg base C) (G : Df P w K mg base "ratio_of" 4 1 (spRat C)) (M : Sm P w K mg base C "__add__" 5 (spOp C fun p q => Ra C (addF p q))) : GnOk P w K mg base 6 f fd ["self", "other"] (lift K (spOp C fun p q => Ra C (addF q p))) := by
  refine gn_dl F sc_radd (fun as Q h => by obtain ⟨_, _, _, rfl, _⟩ := h; rfl) (fun cdv A outer s H hr hG W as Q h => ?_)
  obtain ⟨p, x, q, rfl, hp, hx, k⟩ := h
  exact sds_cons (sd_ret (ed_bin (ed_call G (hr.mono (by decide)) hG (ad_cons (nm 1 (ad_nil ⟨x, q, rfl, hx, nm 0 (od_oo V.T.nu M hr hG ⟨q, _, p, rfl, hx.bd, .rat p hp, k⟩)⟩))))))
theorem sc_rmul : FnScope ["self", "other"] ["self", "other"] (defScope (rat 10)) := ⟨rfl, rfl, rfl, by decide +kernel, rfl, by decide +kernel, by decide +kernel⟩
theorem ok_rmul {f : Addr} {fd : FuncData} (F : FunS K "__rmul__" "Ratio.__rmul__" (rat 10) f fd) (V : Rt P w K mg base C) (G : Df P w K mg base "ratio_of" 4 1 (spRat C)) (M : Sm P w K mg base C "__mul__" 5 (spOp C fun p q => Ra C (mulF p q))) : GnOk P w K mg base 6 f fd ["self", "other"] (lift K (spOp C fun p q => Ra C (mulF q p))) := by
  refine gn_dl F sc_rmul (fun as Q h => by obtain ⟨_, _, _, rfl, _⟩ := h; rfl) (fun cdv A outer s H hr hG W as Q h => ?_)
  obtain ⟨p, x, q, rfl, hp, hx, k⟩ := h
  exact sds_cons (sd_ret (ed_bin (ed_call G (hr.mono (by decide)) hG (ad_cons (nm 1 (ad_nil ⟨x, q, rfl, hx, nm 0 (od_oo V.T.nu M hr hG ⟨q, _, p, rfl, hx.bd, .rat p hp, k⟩)⟩))))))
/-! of one -/
end
end K25

set_option Elab.async false
set_option linter.all false
set_option maxRecDepth 100000
set_option maxHeartbeats 2000000
/-! k25: Ratio.total, ==, the texts, the shares -/
namespace K25
open PySem L2 DL
section
variable {P : Program} {w : World} {K : PySem.W.Frag} {mg : Str → Option Value} {base : Heap} {C : Addr}
/-! == -/
abbrev spEq (C : Addr) : SpD := fun as Q => ∃ p x, as = [.val (Ra C p), .val x] ∧ ((∃ q, x = Ra C q ∧ Q (.bl (decide (p.1 = q.1) && decide (p.2 = q.2)))) ∨ (∃ i, x = .int i ∧ Q (.bl false)))
theorem sc_eq : FnScope ["self", "other"] ["self", "other"] (defScope (rat 17)) := ⟨rfl, rfl, rfl, by decide +kernel, rfl, by decide +kernel, by decide +kernel⟩
theorem ok_eq {f : Addr} {fd : FuncData} (F : FunS K "__eq__" "Ratio.__eq__" (rat 17) f fd) (T : Txt K mg C) : GnOk P w K mg base 1 f fd ["self", "other"] (lift K (spEq C)) := by
  refine gn_dl F sc_eq (fun as Q h => by obtain ⟨_, _, rfl, _⟩ := h; rfl) (fun cdv A outer s H hr hG W as Q h => ?_)
  obtain ⟨p, x, rfl, h⟩ := h
  rcases h with ⟨q, rfl, k⟩ | ⟨i, rfl, k⟩
  · obtain ⟨t, ty, _, _, h3⟩ := (Kn.rat (C := C) q).ty T
    refine sds_cons (sd_ret (ed_and (ed_callB T.isi (ad_cons (nm 1 (ad_cons (ed_cls T.mC (ad_nil (cd_isi ty (.cls _) h3 (kB ?_))))))))))
    show ED _ _ _ _ _
    refine ed_and (ed_cmp (fT T (nm 0 ⟨rfl, fT T (nm 1 ⟨rfl, od_eqi (kB ?_)⟩)⟩)))
    by_cases c : p.1 = q.1
    · rw [decide_eq_true c] at k ⊢
      rw [Bool.true_and] at k
      show ED _ _ _ _ _
      exact ed_one (ed_cmp (fB T (nm 0 ⟨rfl, fB T (nm 1 ⟨rfl, od_eqi k⟩)⟩)))
    · rw [decide_eq_false c] at k ⊢
      exact k
  · obtain ⟨t, ty, _, _, h3⟩ := (Kn.int (C := C) i).ty T
    refine sds_cons (sd_ret (ed_and (ed_callB T.isi (ad_cons (nm 1 (ad_cons (ed_cls T.mC (ad_nil (cd_isi ty (.cls _) h3 (kB ?_))))))))))
    exact k
/-! texts -/
/-! shares -/
end
end K25

set_option Elab.async false
set_option linter.all false
set_option maxRecDepth 100000
set_option maxHeartbeats 4000000
/-! k25: fractions told by rational numbers -/
namespace K25
open PySem L2 DL
def fr (r : Rat) : Fr := (r.num, (r.den : Int))
theorem low_fr {t b : Int} (h : b ≠ 0) : low t b = fr (Rat.divInt t b) := by
  have dt := gs_dvd_t (t := t) (b := b)
  have db := gs_dvd_b (t := t) (b := b)
  have g0 := gs_ne (t := t) h
  obtain ⟨x, y, e⟩ : ∃ x y, low t b = (x, y) := ⟨_, _, rfl⟩
  have hp := low_pos (t := t) h
  have hg := low_gcd (t := t) h
  rw [e] at hp hg
  have ex : t.fdiv (gs t b) = x := congrArg Prod.fst e
  have ey : b.fdiv (gs t b) = y := congrArg Prod.snd e
  have tx : t = gs t b * x := by rw [← ex, Int.fdiv_eq_ediv_of_dvd dt, Int.mul_ediv_cancel' dt]
  have bx : b = gs t b * y := by rw [← ey, Int.fdiv_eq_ediv_of_dvd db, Int.mul_ediv_cancel' db]
  have hy : (y.natAbs : Int) = y := Int.natAbs_of_nonneg (Int.le_of_lt hp)
  have q : Rat.divInt t b = Rat.divInt x y := (Rat.divInt_eq_divInt_iff h (Int.ne_of_gt hp)).mpr (by
    generalize gs t b = k at tx bx
    rw [tx, bx, Int.mul_assoc, Int.mul_comm x (k * y), Int.mul_assoc, Int.mul_comm x y])
  have nz : y.natAbs ≠ 0 := by have : 0 < y := hp; omega
  have r := Rat.mk_eq_divInt (num := x) (den := y.natAbs) (nz := nz) (c := hg)
  rw [hy] at r
  rw [e, q, ← r]
  show (x, y) = (x, (y.natAbs : Int))
  rw [hy]
theorem fr_ne (r : Rat) : (fr r).2 ≠ 0 := by have := r.den_nz; show (r.den : Int) ≠ 0; omega
theorem fr_val (r : Rat) : Rat.divInt (fr r).1 (fr r).2 = r := Rat.num_divInt_den r
theorem addF_fr (r s : Rat) : addF (fr r) (fr s) = fr (r + s) := by
  unfold addF
  rw [low_fr (Int.mul_ne_zero (fr_ne r) (fr_ne s)), ← Rat.divInt_add_divInt _ _ (fr_ne r) (fr_ne s), fr_val, fr_val]
abbrev Bq (n : Nat) (r : Rat) : Prop := Bd n (fr r)
theorem Bq.le {m n : Nat} {r : Rat} (a : Bq m r) (k : m ≤ n) : Bq n r := Bd.mono a k
theorem Bq.int {n : Nat} {i : Int} (h : i.natAbs < 2 ^ n) (h1 : 1 ≤ n) : Bq n (i : Rat) := ⟨h, by show (1 : Int).natAbs < 2 ^ n; exact Nat.lt_of_lt_of_le (by decide : 1 < 2 ^ 1) (Nat.pow_le_pow_right (by decide) h1), by show (0 : Int) < 1; decide⟩
/-- a Ratio or an int that is this number -/
inductive Nq (C : Addr) (n : Nat) : D → Rat → Prop
  | rat (r : Rat) (h : Bq n r) : Nq C n (Ra C (fr r)) r
  | int (i : Int) (h : Bq n (i : Rat)) : Nq C n (.int i) (i : Rat)
section
variable {C : Addr} {n m : Nat} {d : D} {r : Rat}
theorem Nq.b (h : Nq C n d r) : Bq n r := by cases h <;> assumption
theorem Nq.nr (h : Nq C n d r) : Nr C n d (fr r) := by
  cases h with
  | rat r h => exact .rat _ h
  | int i h => exact .int i h.t h.b
theorem Nq.mono (h : Nq C n d r) (k : n ≤ m) : Nq C m d r := by
  cases h with
  | rat r h => exact .rat _ (h.le k)
  | int i h => exact .int i (h.le k)
theorem Nq.kn (h : Nq C n d r) : Kn C d := by
  cases h with
  | rat r h => exact .rat _
  | int i h => exact .int i
theorem Nq.num (h : Nq C n d r) : isN d = true := by cases h <;> rfl
end
/-- numbers, each its own -/
def Nqs (C : Addr) (n : Nat) (l : List D) (rs : List Rat) : Prop := Paired (Nq C n) l rs
end K25

set_option Elab.async false
set_option linter.all false
set_option maxRecDepth 100000
set_option maxHeartbeats 2000000
/-! slices of tuples and texts; methods of texts; x[i] += j; tuple(tuple) -/
namespace DL
open PySem L2 PyProof.Rows
section
variable {X : Cx} {B : Hp} {W0 : Wd} {S : En} {pos p2 px p1 p apos cpos tpos : Pos} {Q : D → Prop} {a b c e e2 o : Expr} {es : List Expr} {E : Ends'} {x : Str}
theorem ed_slTo (h : ED X B S e fun d => ED X B S b fun y => ∃ l, ∃ j : Nat, d = .tup l ∧ y = .int (j : Int) ∧ j ≤ l.length ∧ Q (.tup (l.take j))) : ED X B S (.Subscript e (.Slice none (some b) none p2) pos) Q := fun σ W H r R k => by
  refine PE.w (pe_slice L2.sl_tupA we_pe po_none (po_some we_pe)) ?_
  refine h σ W H r _ fun d v W1 H1 s1 ok1 n1 q1 => ?_
  show WE X b σ H1 _
  refine q1 σ W1 H1 (r.step s1 ok1) _ fun d2 u W2 H2 s2 ok2 n2 q2 => ?_
  obtain ⟨l, j, rfl, rfl, hj, q2⟩ := q2
  cases n2
  have k2 := (k.step s1 ok1).step s2 ok2
  cases n1.mono s2.I with
  | @tup _ a xs ha m =>
    refine ⟨_, rfl, a, xs, rfl, SqT.of (ok2.ex _ _ ha), fun hw => ?_, fun _ p hp => ?_⟩
    · rw [HT.sIx_nat] at hw
      have : l.take j = l := List.take_of_length_le (by have := m.length; have := hw.2; omega)
      rw [this] at q2
      exact k2.now ok2 (.tup ha m) q2
    · have e : cutV xs none (some (j : Int)) = xs.take j := by
        unfold cutV
        rw [HT.sIx_nat, HT.sIx_none, List.drop_zero, Nat.sub_zero, Nat.min_eq_left (by rw [← m.length]; exact hj)]
      rw [e]
      have st := Stp.new (o := .tup (xs.take j)) ok2 hp
      exact k2 (.tup (l.take j)) (.ref p) _ _ st (ok2.new hp) (.tup (show upd W2.I p _ p = _ from upd_same) ((dns_take j m).mono st.I)) q2
/-- s[i:] of a text -/
theorem ed_slS (h : ED X B S e fun d => ED X B S b fun y => ∃ z : List Nat, ∃ j : Nat, d = .str (SX.S z) ∧ y = .int (j : Int) ∧ z.length ≤ 50000 ∧ Q (.str (SX.S (z.drop j)))) : ED X B S (.Subscript e (.Slice (some b) none none p2) pos) Q := fun σ W H r R k => by
  refine PE.w (pe_slice C8.sl_txt we_pe (po_some we_pe) po_none) ?_
  refine h σ W H r _ fun d v W1 H1 s1 ok1 n1 q1 => ?_
  show WE X b σ H1 _
  refine q1 σ W1 H1 (r.step s1 ok1) _ fun d2 u W2 H2 s2 ok2 n2 q2 => ?_
  obtain ⟨z, j, rfl, rfl, hz, q2⟩ := q2
  cases n1
  cases n2
  refine ⟨_, rfl, SX.S z, rfl, Nat.le_trans (by rw [SX.S_len]; exact hz) (by decide), ?_⟩
  rw [SX.slice_from (by omega), Int.toNat_natCast]
  exact ((k.step s1 ok1).step s2 ok2).now ok2 (.str _) q2
/-! methods of texts -/
theorem mt_idx : MtR X "str.index" (fun x xs H Q => ∃ a b, ∃ k : Nat, x = .str a ∧ xs = [.str b] ∧ Txt.index0 a b = some k ∧ Q (.int (k : Int)) H) := by
  intro pins s σ H x xs v us Q I rx rs h
  obtain ⟨a, b, k, rfl, rfl, hk, q⟩ := h
  obtain ⟨t, rfl⟩ := rx
  cases rs with
  | cons r1 rs =>
    cases rs
    obtain ⟨u, rfl⟩ := r1
    cases e : Builtin.Str.occurrences a b 0 a.length 1 with
    | nil => unfold Txt.index0 at hk; rw [e] at hk; cases hk
    | cons k' rest =>
      unfold Txt.index0 at hk
      rw [e] at hk
      cases hk
      exact PySem.SC.index e ⟨.int (k : Nat), H, I.tok _, ⟨_, rfl⟩, q⟩
section
variable {k0 : Nat}
theorem ed_index {s : Str} (h : ED X B S o fun d => d = .str s ∧ ED X B S e fun y => ∃ t, ∃ k : Nat, y = .str t ∧ Txt.index0 s t = some k ∧ Q (.int (k : Int)))
    (hps : PE X (.Call (.Attribute o "index" apos) [e] [] cpos) (tBM X.K "str" (fun x xs H Q => ∃ a b, ∃ k : Nat, x = .str a ∧ xs = [.str b] ∧ Txt.index0 a b = some k ∧ Q (.int (k : Int)) H) (WE X o) (tCons (WE X e) tNil)) := by
      exact pe_bm PySem.F.plainAttrs_str PySem.F.slot_str_index PySem.F.type_str_index DL.mt_idx DL.we_pe (pa_cons DL.we_pe pa_nil)) : ED X B S (.Call (.Attribute o "index" apos) [e] [] cpos) Q := fun σ W H r R k => by
  refine PE.w hps ?_
  refine h σ W H r _ fun d v W1 H1 s1 ok1 n1 q1 => ?_
  obtain ⟨rfl, q1⟩ := q1
  cases n1
  refine ⟨rfl, ?_⟩
  refine q1 σ W1 H1 (r.step s1 ok1) _ fun d2 u W2 H2 s2 ok2 n2 q2 => ?_
  obtain ⟨t, j, rfl, hj, q2⟩ := q2
  cases n2
  exact ⟨s, t, j, rfl, rfl, hj, ((k.step s1 ok1).step s2 ok2).now ok2 (.int _) q2⟩
/-- "".join(a list of texts) -/
theorem ed_joinS {s : Str} (h : ED X B S o fun d => d = .str s ∧ ED X B S e fun y => ∃ ys : List Str, y = .lst (ys.map D.str) ∧ (ys.map (·.length)).sum + ys.length * s.length ≤ 16777216 ∧ Q (.str (Txt.join s ys)))
    (hps : PE X (.Call (.Attribute o "join" apos) [e] [] cpos) (tBM X.K "str" (fun x xs H Q => ∃ a p, ∃ ys : List Str, x = .str a ∧ xs = [.ref p] ∧ (SqL X.K H p (ys.map V.str) ∨ SqT X.K H p (ys.map V.str)) ∧
      (ys.map (·.length)).sum + ys.length * a.length ≤ 16777216 ∧ Q (.str (Txt.join a ys)) H) (WE X o) (tCons (WE X e) tNil)) := by
      exact pe_bm PySem.F.plainAttrs_str PySem.F.slot_str_join PySem.F.type_str_join mt_join DL.we_pe (pa_cons DL.we_pe pa_nil)) : ED X B S (.Call (.Attribute o "join" apos) [e] [] cpos) Q := fun σ W H r R k => by
  refine PE.w hps ?_
  refine h σ W H r _ fun d v W1 H1 s1 ok1 n1 q1 => ?_
  obtain ⟨rfl, q1⟩ := q1
  cases n1
  refine ⟨rfl, ?_⟩
  refine q1 σ W1 H1 (r.step s1 ok1) _ fun d2 u W2 H2 s2 ok2 n2 q2 => ?_
  obtain ⟨ys, rfl, hz, q2⟩ := q2
  cases n2 with
  | @lst _ a xs ha m =>
    have e : xs = ys.map V.str := by
      clear hps h q1 q2 hz ha
      induction ys generalizing xs with
      | nil => cases m; rfl
      | cons y ys ih =>
        cases m with
        | cons h1 h2 => cases h1; rw [List.map_cons, ih h2]
    subst e
    exact ⟨s, a, ys, rfl, rfl, .inl (SqL.of (ok2.ex _ _ ha)), hz, ((k.step s1 ok1).step s2 ok2).now ok2 (.str _) q2⟩
end
/-- tuple(a tuple) -/
theorem cd_tupleT {l : List D} (q : Q (.tup l)) : CD X (.type "tuple") [.val (.tup l)] Q := cd_of call_tupleT fun vs W H ok ha R c => by
  obtain ⟨v, rfl, h⟩ := one_arg ha
  cases h with
  | tup h m => exact ⟨_, _, rfl, SqT.of (ok.ex _ _ h), c.now ok (.tup h m) q⟩
/-! x[i] += j, x the owner of its list -/
def rGetL (K : PySem.W.Frag) : V → V → Hp → VK → Prop := fun x y H Q => ∃ p xs, ∃ j : Nat, ∃ v, x = .ref p ∧ y = .int (j : Int) ∧ H p = some (.lst xs) ∧ j < 100000 ∧ xs[j]? = some v ∧ Q v H
theorem get_list : PGet X (rGetL X.K) := by
  intro pins s σ H x y v u Q I rx ry h
  obtain ⟨p, xs, j, z, rfl, rfl, hp, hj, he, q⟩ := h
  cases rx
  obtain ⟨t, rfl⟩ := ry
  obtain ⟨its, r, pl, hz⟩ := I.list (SqL.of hp)
  obtain ⟨w, ew, rw'⟩ := r.get he
  exact wpAny_getItem_list pl.isList (by omega) (by omega) (by rw [Int.toNat_natCast]; simpa using ew) ⟨z, H, I, rw', q⟩
theorem sd_augOwn {iv : Expr} (i : Nat) (l : List D) (hN : X.N[i]? = some x) (h : S[i]? = some (some (.own l)))
    (he : ED X B S iv fun d => ∃ j : Nat, ∃ n : Int, d = .int (j : Int) ∧ j < 100000 ∧ l[j]? = some (.int n) ∧ ED X B S e fun y => ∃ m : Int, y = .int m ∧ E.nx (S.set i (some (.own (l.set j (.int (n + m)))))))
    (hps : PS X (.AugAssign (.Subscript (.Name x px) iv tpos) .Add e pos) (tAugS (tVar i) (WE X iv) (WE X e) (rGetL X.K) (ipI fun i j => i + j) rSetL) := by
      exact ps_augS (pe_var (by rfl) (by first | exact Or.inl rfl | exact Or.inr (Or.inl rfl))) DL.we_pe DL.get_list DL.we_pe ip_add set_list) :
    SD X B W0 S (.AugAssign (.Subscript (.Name x px) iv tpos) .Add e pos) E := fun σ W H r z D' k => by
  refine PS.w hps ?_
  obtain ⟨v, e1, p, xs, ev, hB, n0, hI, hH, d0⟩ := r.sl i _ h
  subst ev
  refine ⟨_, e1, ?_⟩
  refine he σ W H r _ fun d v W1 H1 s1 ok1 n1 q1 => ?_
  obtain ⟨j, n, rfl, hj, hl, q1⟩ := q1
  cases n1
  have hH1 : H1 p = some (.lst xs) := s1.keep _ _ hH n0
  have nP : ¬ W1.P p := fun q => n0 (s1.oldP p _ hH q)
  have hI1 : W1.I p = none := s1.old p _ hH (fun _ z => by cases z) hI
  have d1 := d0.mono s1.I
  obtain ⟨v, ex, nv⟩ := d1.get' hl
  cases nv
  refine ⟨p, xs, j, _, rfl, rfl, hH1, hj, ex, ?_⟩
  refine q1 σ W1 H1 (r.step s1 ok1) _ fun d2 u W2 H2 s2 ok2 n2 q2 => ?_
  obtain ⟨m, rfl, q2⟩ := q2
  cases n2
  have hH2 : H2 p = some (.lst xs) := s2.keep _ _ hH1 nP
  have nP2 : ¬ W2.P p := fun q => nP (s2.oldP p _ hH1 q)
  have hI2 : W2.I p = none := s2.old p _ hH1 (fun _ z => by cases z) hI1
  have lt : j < xs.length := (List.getElem?_eq_some_iff.mp ex).1
  refine ⟨n, m, rfl, rfl, p, xs, j, j, rfl, rfl, hH2, ixN_lt lt, ?_⟩
  have de : Dns X.K W2.I (l.set j (.int (n + m))) (xs.set j (.int (n + m))) := Dns.set (.int _) j (d1.mono s2.I)
  exact k.nx _ σ W2 _ (((r.step s1 ok1).step s2 ok2).putOwn h e1 hB nP2 hI2 hH2 de) (stp_upd ((z.trans r.ok s1).trans ok1 s2) hB) (s1.I.trans s2.I) q2
end
end DL

set_option Elab.async false
set_option linter.all false
set_option maxRecDepth 100000
set_option maxHeartbeats 2000000
/-! k25: entries: keys of counts, amounts; sorted by the keys -/
namespace K25
open PySem L2 DL
abbrev Ent := List Int × Rat
theorem code_inj {B : Int} : ∀ {a b : List Int}, a.length = b.length → TS.Bd B a → TS.Bd B b → TS.code B a = TS.code B b → a = b
  | [], [], _, _, _, _ => rfl
  | x :: a, y :: b, hl, ha, hb, e => by
    have hl' : a.length = b.length := Nat.succ.inj hl
    have xy : x = y := by
      rcases Int.lt_trichotomy x y with h | h | h
      · have := TS.code_lt hl' ha.tail hb.tail h; omega
      · exact h
      · have := TS.code_lt hl'.symm hb.tail ha.tail h; omega
    subst xy
    have e' : TS.code B a = TS.code B b := by
      have e2 : x * B ^ a.length + TS.code B a = x * B ^ b.length + TS.code B b := e
      rw [hl'] at e2
      omega
    rw [code_inj hl' ha.tail hb.tail e']
theorem le_sum : ∀ {l : List Int}, (∀ c ∈ l, 0 ≤ c) → 0 ≤ l.sum ∧ ∀ c ∈ l, c ≤ l.sum
  | [], _ => ⟨Int.le_refl _, fun c h => by cases h⟩
  | x :: l, h => by
    obtain ⟨h0, h1⟩ := le_sum (l := l) fun c hc => h c (List.mem_cons_of_mem _ hc)
    have hx := h x (List.mem_cons_self ..)
    rw [List.sum_cons]
    refine ⟨by omega, fun c hc => ?_⟩
    rcases List.mem_cons.mp hc with rfl | hc
    · omega
    · have := h1 c hc; omega
/-- keys of m counts that make n, amounts above nought -/
structure GE (m n b : Nat) (es : List Ent) : Prop where
  len : ∀ e ∈ es, e.1.length = m
  nn : ∀ e ∈ es, ∀ c ∈ e.1, 0 ≤ c
  sum : ∀ e ∈ es, e.1.sum = (n : Int)
  pos : ∀ e ∈ es, 0 < e.2
  bq : ∀ e ∈ es, Bq b e.2
  nd : (es.map (·.1)).Nodup
  ln : es.length ≤ 200
theorem GE.nil {m n b : Nat} : GE m n b [] := ⟨nofun, nofun, nofun, nofun, nofun, .nil, by simp⟩
theorem GE.perm {m n b : Nat} {es fs : List Ent} (h : GE m n b es) (p : fs.Perm es) : GE m n b fs :=
  ⟨fun e he => h.len e (p.mem_iff.mp he), fun e he => h.nn e (p.mem_iff.mp he), fun e he => h.sum e (p.mem_iff.mp he), fun e he => h.pos e (p.mem_iff.mp he), fun e he => h.bq e (p.mem_iff.mp he), (p.map _).nodup_iff.mpr h.nd, by rw [p.length_eq]; exact h.ln⟩
theorem GE.cnt {m n b : Nat} {es : List Ent} (h : GE m n b es) {e : Ent} (he : e ∈ es) {c : Int} (hc : c ∈ e.1) : 0 ≤ c ∧ c ≤ n := ⟨h.nn e he c hc, by rw [← h.sum e he]; exact (le_sum (h.nn e he)).2 c hc⟩
theorem GE.bd {m n b : Nat} {es : List Ent} (h : GE m n b es) (hn : n ≤ 8) {e : Ent} (he : e ∈ es) : TS.Bd 9 e.1 := fun c hc => by have := h.cnt he hc; omega
def leE (a b : Ent) : Bool := decide (TS.code 9 a.1 ≤ TS.code 9 b.1)
def srt (es : List Ent) : List Ent := es.mergeSort leE
theorem srt_perm (es : List Ent) : (srt es).Perm es := List.mergeSort_perm _ _
theorem srt_pair (es : List Ent) : (srt es).Pairwise fun a b => TS.code 9 a.1 ≤ TS.code 9 b.1 := by
  have := List.pairwise_mergeSort (le := leE) (fun a b c h1 h2 => by unfold leE at *; simp at *; omega) (fun a b => by unfold leE; simp; omega) es
  exact this.imp fun h => by simpa [leE] using h
theorem nd_inj {es : List Ent} (h : (es.map (·.1)).Nodup) {a b : Ent} (ha : a ∈ es) (hb : b ∈ es) (e : a.1 = b.1) : a = b := by
  induction es with
  | nil => cases ha
  | cons x es ih =>
    rw [List.map_cons, List.nodup_cons] at h
    rcases List.mem_cons.mp ha with ha1 | ha1 <;> rcases List.mem_cons.mp hb with hb1 | hb1
    · rw [ha1, hb1]
    · exact absurd (by rw [← ha1, e]; exact List.mem_map_of_mem hb1) h.1
    · exact absurd (by rw [← hb1, ← e]; exact List.mem_map_of_mem ha1) h.1
    · exact ih h.2 ha1 hb1
theorem uniq {m n b : Nat} {es fs : List Ent} (h : GE m n b es) (hn : n ≤ 8) (p : fs.Perm es) (h1 : fs.Pairwise fun a b => TS.code 9 a.1 ≤ TS.code 9 b.1) (h2 : es.Pairwise fun a b => TS.code 9 a.1 ≤ TS.code 9 b.1) : fs = es :=
  List.Perm.eq_of_pairwise (fun a b ha hb l1 l2 => by
    have ha' := p.mem_iff.mp ha
    exact nd_inj h.nd ha' hb (code_inj (by rw [h.len a ha', h.len b hb]) (h.bd hn ha') (h.bd hn hb) (by omega))) h1 h2 p
theorem srt_eq {m n b : Nat} {es fs : List Ent} (h : GE m n b es) (hn : n ≤ 8) (p : fs.Perm es) (h1 : fs.Pairwise fun a b => TS.code 9 a.1 ≤ TS.code 9 b.1) : fs = srt es :=
  uniq (h.perm (srt_perm es)) hn (p.trans (srt_perm es).symm) h1 (srt_pair es)
theorem srt_congr {m n b : Nat} {es fs : List Ent} (h : GE m n b es) (hn : n ≤ 8) (p : fs.Perm es) : srt fs = srt es := srt_eq h hn ((srt_perm fs).trans p) (srt_pair fs)
theorem srt_srt {m n b : Nat} {es : List Ent} (h : GE m n b es) (hn : n ≤ 8) : srt (srt es) = srt es := srt_congr h hn (srt_perm es)
theorem srt_ge {m n b : Nat} {es : List Ent} (h : GE m n b es) : GE m n b (srt es) := h.perm (srt_perm es)
theorem srt_nil : srt [] = [] := by simp [srt]
/-- the keys, sorted -/
theorem keys_srt {m n b : Nat} {es : List Ent} (h : GE m n b es) (hn : n ≤ 8) {ks : List (List Int)} (p : ks.Perm (es.map (·.1))) (h1 : ks.Pairwise fun a b => TS.code 9 a ≤ TS.code 9 b) : ks = (srt es).map (·.1) := by
  refine List.Perm.eq_of_pairwise (le := fun a b => TS.code 9 a ≤ TS.code 9 b) (fun a b ha hb l1 l2 => ?_) h1 (List.pairwise_map.mpr (srt_pair es)) (p.trans ((srt_perm es).map _).symm)
  obtain ⟨x, hx, rfl⟩ := List.mem_map.mp (p.mem_iff.mp ha)
  obtain ⟨y, hy, rfl⟩ := List.mem_map.mp hb
  have hy' := (srt_perm es).mem_iff.mp hy
  exact code_inj (by rw [h.len x hx, h.len y hy']) (h.bd hn hx) (h.bd hn hy') (by omega)
/-! as dicts, as lists -/
section
variable (C : Addr)
def kvD (es : List Ent) : List (List Key × D) := es.map fun e => (ik e.1, Ra C (fr e.2))
def enD (es : List Ent) : List D := es.map fun e => .tup [tI e.1, Ra C (fr e.2)]
end
section
variable {C : Addr}
theorem ik_inj {a b : List Int} (h : ik a = ik b) : a = b := by
  exact (List.map_inj_right (f := (Sum.inl : Int → Key)) fun x y e => by cases e; rfl).mp h
theorem kvD_keys {es : List Ent} : (kvD C es).map (·.1) = (es.map (·.1)).map ik := by unfold kvD; rw [List.map_map, List.map_map]; rfl
theorem kvD_len {es : List Ent} : (kvD C es).length = es.length := by unfold kvD; rw [List.length_map]
theorem look_kvD {es : List Ent} (h : (es.map (·.1)).Nodup) {e : Ent} (he : e ∈ es) : look (kvD C es) (ik e.1) = some (Ra C (fr e.2)) := by
  induction es with
  | nil => cases he
  | cons x es ih =>
    rw [List.map_cons, List.nodup_cons] at h
    show Option.map _ (List.find? _ ((ik x.1, Ra C (fr x.2)) :: kvD C es)) = _
    by_cases c : ik x.1 = ik e.1
    · rw [List.find?_cons_of_pos (by simpa using c)]
      have c' := ik_inj c
      rcases List.mem_cons.mp he with rfl | he'
      · rfl
      · exact absurd (by rw [c']; exact List.mem_map_of_mem he') h.1
    · rw [List.find?_cons_of_neg (by simpa using c)]
      rcases List.mem_cons.mp he with rfl | he'
      · exact absurd rfl c
      · exact ih h.2 he'
theorem look_no {es : List Ent} {k : List Int} (h : k ∉ es.map (·.1)) : look (kvD C es) (ik k) = none := by
  unfold look
  rw [List.find?_eq_none.mpr]
  · rfl
  · intro p hp
    unfold kvD at hp
    obtain ⟨e, he, rfl⟩ := List.mem_map.mp hp
    simp only [decide_eq_true_eq]
    exact fun z => h (by rw [← ik_inj z]; exact List.mem_map_of_mem he)
theorem put_kvD {es : List Ent} {k : List Int} {r : Rat} (h : k ∉ es.map (·.1)) : putE (kvD C es) (ik k) (Ra C (fr r)) = kvD C (es ++ [(k, r)]) := by
  rw [putE_new]
  · unfold kvD; rw [List.map_append]; rfl
  · rw [kvD_keys]
    intro z
    obtain ⟨x, hx, e⟩ := List.mem_map.mp z
    exact h (by rw [← ik_inj e]; exact hx)
end
/-! the weight of a key -/
def pK : List Int → Nat
  | [] => 1
  | c :: k => fac c.toNat * pK k
def divE (e : Ent) : Ent := (e.1, e.2 / (pK e.1 : Rat))
def mulE (e : Ent) : Ent := (e.1, e.2 * (pK e.1 : Rat))
end K25

set_option Elab.async false
set_option linter.all false
set_option maxRecDepth 100000
set_option maxHeartbeats 2000000
/-! for x, y in zip(a, b) -/
namespace DL
open PySem L2 PyProof.Rows
section
variable {X : Cx} {B : Hp} {W0 : Wd} {S : En} {pos p p1 : Pos} {e e2 : Expr} {E : Ends'}
end
end DL

set_option Elab.async false
set_option linter.all false
set_option maxRecDepth 100000
set_option maxHeartbeats 4000000
/-! k25: the checks -/
namespace K25
open PySem L2 DL
section
variable {P : Program} {w : World} {K : PySem.W.Frag} {mg : Str → Option Value} {base : Heap} {C : Addr}
theorem un1 {k : Nat} {A : Around} (r : Room k A) : A.units + 1 < cLine := by have := r.units; omega
theorem all_true (n : Nat) : (List.replicate n true).all id = true := by induction n with
  | zero => rfl
  | succ n ih => rw [List.replicate_succ, List.all_cons, ih]; rfl
theorem trues : ∀ {out : List D}, (∀ y ∈ out, y = .bl true) → out = (List.replicate out.length true).map D.bl
  | [], _ => rfl
  | y :: out, h => by
    rw [List.length_cons, List.replicate_succ, List.map_cons, ← trues fun y hy => h y (List.mem_cons_of_mem _ hy), h y (List.mem_cons_self ..)]
theorem cd_allT {X : Cx} {Q : D → Prop} {out : List D} (hc : X.calm = true) (h : ∀ y ∈ out, y = .bl true) (q : Q (.bl true)) : CD X (.builtin "all") [.val (.lst out)] Q := by
  rw [trues h]
  exact cd_all hc (by rw [all_true]; exact q)
theorem paired_true : ∀ {α : Type} {l : List α} {out : List D}, Paired (fun _ y => y = D.bl true) l out → ∀ y ∈ out, y = .bl true
  | _, _, _, .nil, y, h => by cases h
  | _, _, _, .cons a b, y, h => by
    rcases List.mem_cons.mp h with rfl | h
    · exact a
    · exact paired_true b y h
abbrev spCounts : SpD := fun as Q => ∃ d, ∃ k : List Int, ∃ m : Nat, as = [.val d, .val (.int (m : Int))] ∧ SeqD d (k.map D.int) ∧ k.length = m ∧ m ≤ 100 ∧ (∀ c ∈ k, (0 : Int) ≤ c) ∧ Q (.bl true)
theorem sc_counts : FnScope ["value", "many", "count"] ["value", "many"] (defScope (top 6)) := ⟨rfl, rfl, rfl, by decide +kernel, rfl, by decide +kernel, by decide +kernel⟩
theorem ok_counts {f : Addr} {fd : FuncData} (F : FunS K "is_counts" "is_counts" (top 6) f fd) (T : Txt K mg C) (L : Df P w K mg base "is_list" 1 1 spL) (G : Df P w K mg base "is_count" 2 1 (spB C isC)) : GnOk P w K mg base 3 f fd ["value", "many"] (lift K spCounts) := by
  refine gn_dl F sc_counts (fun as Q h => by obtain ⟨_, _, _, rfl, _⟩ := h; rfl) (fun cdv A outer s H hr hG W as Q h => ?_)
  obtain ⟨d, k, m, rfl, sd, hl, hm, nn, q⟩ := h
  have nd := sc_counts.nd
  refine sds_cons (sd_ret (ed_and (ed_call L (hr.mono (j := 1) (by decide)) hG (ad_cons (nm 0 (ad_nil ⟨d, _, rfl, sd, kB ?_⟩))))))
  show ED _ _ _ _ _
  refine ed_and (ed_cmp (ed_callB T.len (ad_cons (nm 0 (ad_nil (cd_len sd (nm 1 (od_eqi (kB ?_)))))))))
  rw [decide_eq_true (by rw [List.length_map, hl])]
  show ED _ _ _ _ _
  refine ed_one (ed_callB T.all (ad_cons (ed_fd (fd_relS (fun _ y => y = .bl true) 2 (own := [("count", 2)]) rfl nd (blkOk_by (by show blkC ["value", "many", "count"] (defScope (top 6)) _ _ = true; decide +kernel)) (fun _ _ _ _ _ => pg_name (i := 2) nd rfl (Or.inl rfl)) sd (by rw [List.length_map]; omega) (nm 0 rfl) (by simp) ?_ ?_))))
  · intro d hd s2 H0 C2 cl fp
    obtain ⟨c, hc, rfl⟩ := List.mem_map.mp hd
    exact ed_call G (hr.mono (j := 2) (by decide)) hG (ad_cons (nm 2 (ad_nil ⟨_, rfl, .int c, by show D.bl (decide (0 ≤ c)) = _; rw [decide_eq_true (nn c hc)]⟩)))
  · intro out ho
    exact ad_nil (cd_allT rfl (paired_true ho) q)
/-! a number above nought -/
theorem num_pos {r : Rat} (h : 0 < r) : 0 < (fr r).1 := by
  have h1 : 0 ≤ r.num := Rat.num_nonneg.mpr (Rat.le_of_lt h)
  have h2 : r.num ≠ 0 := fun z => by rw [Rat.num_eq_zero.mp z] at h; exact absurd h (by decide)
  show 0 < r.num
  omega
theorem sg_pos {r : Rat} (h : 0 < r) : sgF (fr r) = 1 := by unfold sgF; rw [if_pos (num_pos h)]
theorem pS {X : Cx} {B : Hp} {S : En} {pos : Pos} {Q : D → Prop} {o : Expr} {p : Fr} (T : Txt X.K X.mg C) (G : Pr X.prog X.w X.K X.mg X.base C "sign" 1 (sp1 C fun p => .int (sgF p))) (hr : Room 2 X.A) (hG : X.A.guards = some (gOf X)) (h : ED X B S o fun x => x = Ra C p ∧ Q (.int (sgF p))) (hb : attributeBase o "sign" X.env (eval o X.env) = eval o X.env := by rfl) : ED X B S (.Attribute o "sign" pos) Q :=
  ed_prop T.nu.cl G hr hG (fun σ W H r R c => h σ W H r R fun d v W' H' s ok n ⟨e, q⟩ => c d v W' H' s ok n ⟨rf p, e, p, by rw [e], q⟩) hb
abbrev spAbove (C : Addr) : SpD := fun as Q => ∃ d r, as = [.val d] ∧ Nq C 1000 d r ∧ 0 < r ∧ Q (.bl true)
theorem sc_above : FnScope ["value"] ["value"] (defScope (top 23)) := ⟨rfl, rfl, rfl, by decide +kernel, rfl, by decide +kernel, by decide +kernel⟩
theorem ok_above {f : Addr} {fd : FuncData} (F : FunS K "is_above" "is_above" (top 23) f fd) (T : Txt K mg C) (G : Df P w K mg base "is_number" 2 1 (spB C isN)) (R : Df P w K mg base "ratio_of" 4 1 (spRat C)) (SG : Pr P w K mg base C "sign" 1 (sp1 C fun p => .int (sgF p))) : GnOk P w K mg base 5 f fd ["value"] (lift K (spAbove C)) := by
  refine gn_dl F sc_above (fun as Q h => by obtain ⟨_, _, rfl, _⟩ := h; rfl) (fun cdv A outer s H hr hG W as Q h => ?_)
  obtain ⟨d, r, rfl, hd, h0, q⟩ := h
  refine sds_cons (sd_ret (ed_and (ed_call G (hr.mono (j := 2) (by decide)) hG (ad_cons (nm 0 (ad_nil ⟨d, rfl, hd.kn, kB ?_⟩))))))
  rw [hd.num]
  show ED _ _ _ _ _
  refine ed_one (ed_cmp (pS T SG (hr.mono (j := 2) (by decide)) hG (ed_call R (hr.mono (j := 4) (by decide)) hG (ad_cons (nm 0 (ad_nil ⟨d, _, rfl, (hd.mono (by decide)).nr, rfl, ed_int (od_gt ?_)⟩))))))
  rw [sg_pos h0]
  exact q
/-! letters -/
structure LetZ (z : List Nat) : Prop where
  l1 : 1 ≤ z.length
  l8 : z.length ≤ 8
  lo : ∀ c ∈ z, 97 ≤ c ∧ c ≤ 122
  up : z.Pairwise (· < ·)
theorem LetZ.asc {z : List Nat} (h : LetZ z) : (SX.S z).cps.all (· < 128) = true := by
  rw [Array.all_eq_true_iff_forall_mem]
  intro c hc
  have := h.lo c (by simpa using hc)
  simp only [decide_eq_true_eq]
  omega
theorem lt1 {c d : Nat} : ((SX.S [c]).cps.toList < (SX.S [d]).cps.toList) ↔ c < d := by
  show [c] < [d] ↔ _
  rw [List.cons_lt_cons_iff]
  constructor
  · rintro (h | ⟨_, h⟩)
    · exact h
    · exact absurd h (List.lt_irrefl _)
  · exact .inl
abbrev spSmall : SpD := fun as Q => ∃ c : Nat, as = [.val (.str (sg c))] ∧ 97 ≤ c ∧ c ≤ 122 ∧ Q (.bl true)
theorem sc_small : FnScope ["value"] ["value"] (defScope (top 7)) := ⟨rfl, rfl, rfl, by decide +kernel, rfl, by decide +kernel, by decide +kernel⟩
theorem ok_small {f : Addr} {fd : FuncData} (F : FunS K "is_small_letter" "is_small_letter" (top 7) f fd) (T : Txt K mg C) : GnOk P w K mg base 1 f fd ["value"] (lift K spSmall) := by
  refine gn_dl F sc_small (fun as Q h => by obtain ⟨_, rfl, _⟩ := h; rfl) (fun cdv A outer s H hr hG W as Q h => ?_)
  obtain ⟨c, rfl, h1, h2, q⟩ := h
  refine sds_cons (sd_ret (ed_and (ed_callB T.isi (ad_cons (nm 0 (ad_cons (ed_ty T.str (ad_nil (cd_isi (.str _) (.ty _) (same (by decide +kernel)) (kB ?_))))))))))
  show ED _ _ _ _ _
  refine ed_and (ed_cmp (ed_callB T.len (ad_cons (nm 0 (ad_nil (cd_lenS (z := sg c) (by show 1 ≤ 50000; decide) (ed_int (od_eqi (kB ?_)))))))))
  show ED _ _ _ _ _
  refine ed_one (ed_chain (ed_str (nm 0 (od_leS (kB ?_)))))
  rw [decide_eq_false (fun z => by have := (lt1 (c := c) (d := 97)).mp z; omega)]
  show ED _ _ _ _ _
  refine ed_str (od_leS ?_)
  rw [decide_eq_false (fun z => by have := (lt1 (c := 122) (d := c)).mp z; omega)]
  exact q
abbrev spRising : SpD := fun as Q => ∃ z : List Nat, as = [.val (.str (SX.S z))] ∧ LetZ z ∧ Q (.bl true)
theorem sc_rising : FnScope ["parts", "one", "two"] ["parts"] (defScope (top 8)) := ⟨rfl, rfl, rfl, by decide +kernel, rfl, by decide +kernel, by decide +kernel⟩
theorem ok_rising {f : Addr} {fd : FuncData} (F : FunS K "is_rising" "is_rising" (top 8) f fd) (T : Txt K mg C) : GnOk P w K mg base 1 f fd ["parts"] (lift K spRising) := by
  refine gn_dl F sc_rising (fun as Q h => by obtain ⟨_, rfl, _⟩ := h; rfl) (fun cdv A outer s H hr hG W as Q h => ?_)
  obtain ⟨z, rfl, hz, q⟩ := h
  have nd := sc_rising.nd
  have a2 : (SX.S (z.drop 1)).cps.all (· < 128) = true := by
    rw [Array.all_eq_true_iff_forall_mem]
    intro c hc
    have := hz.lo c (List.mem_of_mem_drop (i := 1) (by rw [List.mem_toArray] at hc; exact hc))
    simp only [decide_eq_true_eq]
    omega
  refine sds_cons (sd_ret (ed_callB T.all (ad_cons (ed_fd (fd_relCC (s := SX.S z) (t := SX.S (z.drop 1)) (fun _ _ y => y = .bl true) 1 2 (own := [("one", 1), ("two", 2)]) rfl nd T.zip (blkOk_by (by show blkC ["parts", "one", "two"] (defScope (top 8)) _ _ = true; decide +kernel)) (fun _ _ _ _ _ => pg_tup rfl (pgs_cons (pg_name (i := 1) nd rfl (Or.inl rfl)) (pgs_cons (pg_name (i := 2) nd rfl (Or.inl rfl)) pgs_nil rfl) rfl)) hz.asc a2 (by have := hz.l8; simp; omega) ?_ (by simp) (by simp) ?_ ?_)))))
  · exact ad_cons (nm 0 (ad_cons (ed_slS (nm 0 (ed_int ⟨z, 1, rfl, rfl, by have := hz.l8; omega, ad_nil rfl⟩)))))
  · intro n c d hc hd s2 H0 C2 cl fp
    have e1 : z[n]? = some c := by simpa using hc
    have e2 : z[n + 1]? = some d := by
      have : (z.drop 1)[n]? = some d := by simpa using hd
      rw [List.getElem?_drop, Nat.add_comm] at this
      exact this
    have lt : c < d := by
      obtain ⟨h1, rfl⟩ := List.getElem?_eq_some_iff.mp e1
      obtain ⟨h2, rfl⟩ := List.getElem?_eq_some_iff.mp e2
      exact List.pairwise_iff_getElem.mp hz.up n (n + 1) h1 h2 (by omega)
    refine ed_cmp (nm 1 (nm 2 (od_ltS ?_)))
    rw [decide_eq_true (lt1.mpr lt)]
  · intro out hl ho
    refine ad_nil (cd_allT rfl (fun y hy => ?_) q)
    obtain ⟨n, hn, rfl⟩ := List.getElem_of_mem hy
    have l1 : n < (SX.S z).cps.size := by omega
    have l2 : n < (SX.S (z.drop 1)).cps.size := by omega
    exact ho n _ _ _ (Array.getElem?_eq_getElem l1) (Array.getElem?_eq_getElem l2) (List.getElem?_eq_getElem hn)
abbrev spLet : SpD := fun as Q => ∃ z : List Nat, as = [.val (.str (SX.S z))] ∧ LetZ z ∧ Q (.bl true)
theorem sc_let : FnScope ["value", "letter"] ["value"] (defScope (top 30)) := ⟨rfl, rfl, rfl, by decide +kernel, rfl, by decide +kernel, by decide +kernel⟩
theorem ok_let {f : Addr} {fd : FuncData} (F : FunS K "is_letters" "is_letters" (top 30) f fd) (T : Txt K mg C) {tk : Tok} (ml : mg "MOST_LETTERS" = some (.int 8 tk)) (RI : Df P w K mg base "is_rising" 1 1 spRising) (SM : Df P w K mg base "is_small_letter" 1 1 spSmall) : GnOk P w K mg base 2 f fd ["value"] (lift K spLet) := by
  refine gn_dl F sc_let (fun as Q h => by obtain ⟨_, rfl, _⟩ := h; rfl) (fun cdv A outer s H hr hG W as Q h => ?_)
  obtain ⟨z, rfl, hz, q⟩ := h
  have nd := sc_let.nd
  have hl : ((SX.S z).length : Int) = (z.length : Int) := by rw [SX.S_len]
  refine sds_cons (sd_if (td_of (tw_or (td_not (td_val (ed_callB T.isi (ad_cons (nm 0 (ad_cons (ed_ty T.str (ad_nil (cd_isi (.str _) (.ty _) (same (by decide +kernel)) (kB ?_)))))))))))))
  show TW _ _ _ _ _
  refine tw_or1 (td_not (td_chain (ed_int (ed_callB T.len (ad_cons (nm 0 (ad_nil (cd_lenS (z := SX.S z) (by rw [SX.S_len]; have := hz.l8; omega) (od_le (kB ?_))))))))))
  rw [hl, decide_eq_true (by have := hz.l1; omega)]
  show ED _ _ _ _ _
  refine ed_gint ml (od_le (kB ?_))
  rw [decide_eq_true (by have := hz.l8; omega)]
  show SDs _ _ _ _ _ _
  refine sds_nil (sds_cons (sd_ret (ed_and (ed_call RI (hr.mono (j := 1) (by decide)) hG (ad_cons (nm 0 (ad_nil ⟨z, rfl, hz, kB ?_⟩)))))))
  show ED _ _ _ _ _
  refine ed_one (ed_callB T.all (ad_cons (ed_fd (fd_relC (s := SX.S z) (fun _ y => y = .bl true) 1 (own := [("letter", 1)]) rfl nd (blkOk_by (by show blkC ["value", "letter"] (defScope (top 30)) _ _ = true; decide +kernel)) (fun _ _ _ _ _ => pg_name (i := 1) nd rfl (Or.inl rfl)) (by have := hz.l8; simp; omega) (nm 0 rfl) (by simp) ?_ ?_))))
  · intro i c hc s2 H0 C2 cl fp
    have hc' : z[i]? = some c := by simpa using hc
    have := hz.lo c (List.mem_of_getElem? hc')
    exact ed_call SM (hr.mono (j := 1) (by decide)) hG (ad_cons (nm 1 (ad_nil ⟨c, rfl, this.1, this.2, rfl⟩)))
  · intro out ho
    exact ad_nil (cd_allT rfl (paired_true ho) q)
/-! one entry -/
abbrev spEntry (C : Addr) : SpD := fun as Q => ∃ kd, ∃ k : List Int, ∃ ad r, ∃ m : Nat, ∃ dg, as = [.val (.tup [kd, ad]), .val (.int (m : Int)), .val dg] ∧ SeqD kd (k.map D.int) ∧ k.length = m ∧ m ≤ 100 ∧ (∀ c ∈ k, (0 : Int) ≤ c) ∧ k.sum ≤ 8 ∧ Nq C 1000 ad r ∧ 0 < r ∧ (dg = .non ∨ dg = .int k.sum) ∧ Q (.bl true)
theorem cd_sumS {X : Cx} {Q : D → Prop} {d : D} {l : List Int} (hc : X.calm = true) (sd : SeqD d (l.map D.int)) (q : Q (.int l.sum)) : CD X (.builtin "sum") [.val d] Q := by
  rcases sd with rfl | rfl
  · exact cd_sumL hc q
  · exact cd_sumT hc q
theorem sc_entry : FnScope ["entry", "many", "degree", "counts", "amount"] ["entry", "many", "degree"] (defScope (top 32)) := ⟨rfl, rfl, rfl, by decide +kernel, rfl, by decide +kernel, by decide +kernel⟩
theorem ok_entry {f : Addr} {fd : FuncData} (F : FunS K "_is_entry" "_is_entry" (top 32) f fd) (T : Txt K mg C) (hsum : mg "sum" = none) {tk : Tok} (md : mg "MOST_DEGREE" = some (.int 8 tk)) (CO : Df P w K mg base "is_counts" 3 2 spCounts) (AB : Df P w K mg base "is_above" 5 1 (spAbove C)) : GnOk P w K mg base 6 f fd ["entry", "many", "degree"] (lift K (spEntry C)) := by
  refine gn_dl F sc_entry (fun as Q h => by obtain ⟨_, _, _, _, _, _, rfl, _⟩ := h; rfl) (fun cdv A outer s H hr hG W as Q h => ?_)
  obtain ⟨kd, k, ad, r, m, dg, rfl, sd, hl, hm, nn, h8, na, h0, hdg, q⟩ := h
  have nd := sc_entry.nd
  refine sds_cons (sd_if (td_of (tw_or (td_not (td_val (ed_callB T.isi (ad_cons (nm 0 (ad_cons (ed_ty T.tuple (ad_nil (cd_isi (.tup _) (.ty _) (same (by decide +kernel)) (kB ?_)))))))))))))
  show TW _ _ _ _ _
  refine tw_or1 (td_cmp (ed_callB T.len (ad_cons (nm 0 (ad_nil (cd_len (.inr rfl) (ed_int (od_nei (kB ?_)))))))))
  show SDs _ _ _ _ _ _
  refine sds_nil (sds_cons (sd_asg (nm 0 (gd_tup rfl (gds_cons (gd_name 3 nd rfl (gds_cons (gd_name 4 nd rfl (gds_nil ?_))))) rfl))))
  refine sds_cons (sd_if (td_of (tw_or (td_not (td_val (ed_call CO (hr.mono (j := 3) (by decide)) hG (ad_cons (nm 3 (ad_cons (nm 1 (ad_nil ⟨kd, k, m, rfl, sd, hl, hm, nn, kB ?_⟩)))))))))))
  show TW _ _ _ _ _
  refine tw_or1 (td_cmp (ed_callB hsum (ad_cons (nm 3 (ad_nil (cd_sumS rfl sd (ed_gint md (od_gt (kB ?_)))))))))
  rw [decide_eq_false (by omega)]
  show SDs _ _ _ _ _ _
  refine sds_nil (sds_cons (sd_ret (ed_and (ed_call AB (hr.mono (j := 5) (by decide)) hG (ad_cons (nm 4 (ad_nil ⟨ad, r, rfl, na, h0, kB ?_⟩)))))))
  show ED _ _ _ _ _
  refine ed_one (ed_or (ed_cmp (nm 2 (ed_non (od_isN (kB ?_))))))
  rcases hdg with rfl | rfl
  · exact q
  · show ED _ _ _ _ _
    refine ed_one (ed_cmp (ed_callB hsum (ad_cons (nm 3 (ad_nil (cd_sumS rfl sd (nm 2 (od_eqi ?_))))))))
    rw [decide_eq_true rfl]
    exact q
end
end K25

set_option Elab.async false
set_option linter.all false
set_option maxRecDepth 100000
set_option maxHeartbeats 4000000
/-! k25: what is reckoned with entries -/
namespace K25
open PySem L2 DL
section
variable {P : Program} {w : World} {K : PySem.W.Frag} {mg : Str → Option Value} {base : Heap} {C CB : Addr}
/-- what stands under the blends -/
structure Lv (P : Program) (w : World) (K : PySem.W.Frag) (mg : Str → Option Value) (base : Heap) (C : Addr) : Prop where
  V : Rt P w K mg base C
  ratof : Df P w K mg base "ratio_of" 4 1 (spRat C)
  mul : Sm P w K mg base C "__mul__" 5 (spOp C fun p q => Ra C (mulF p q))
  rmul : Sm P w K mg base C "__rmul__" 6 (spOp C fun p q => Ra C (mulF q p))
  eq : Sm P w K mg base C "__eq__" 1 (spEq C)
  add : Sm P w K mg base C "__add__" 5 (spOp C fun p q => Ra C (addF p q))
  radd : Sm P w K mg base C "__radd__" 6 (spOp C fun p q => Ra C (addF q p))
  sign : Pr P w K mg base C "sign" 1 (sp1 C fun p => .int (sgF p))
  lm : ∃ r, PySem.W.findIn K (.type "int") "__rmul__" = some r
  la : ∃ r, PySem.W.findIn K (.type "int") "__radd__" = some r
section
variable {X : Cx} {Q : D → Prop} {y : D} {r s : Rat}
theorem od_addQ (L : Lv X.prog X.w X.K X.mg X.base C) (hr : Room 6 X.A) (hG : X.A.guards = some (gOf X)) (hx : Bq 3000 r) (hy : Nq C 3000 y s) (k : Q (Ra C (fr (r + s)))) : OD X (binaryOp .Add) (Ra C (fr r)) y Q := by
  have r5 := hr.mono (j := 5) (by decide)
  rw [← addF_fr] at k
  cases hy with
  | rat s h => exact od_oo (op := .Add) L.V.T.nu L.add r5 hG ⟨_, _, _, rfl, hx, .rat _ h, k⟩
  | int i h => exact od_oi (op := .Add) L.V.T.nu L.add L.radd r5 hG ⟨_, _, _, rfl, hx, .int i h.t h.b, k⟩ PySem.F.fills_int_add L.la
/-- two fractions that are the same -/
theorem eqR_Ra (L : Lv X.prog X.w X.K X.mg X.base C) (r : Rat) : EqR X 1 (Ra C (fr r)) (Ra C (fr r)) :=
  (rcR_ins L.V.T.nu L.eq ⟨_, _, rfl, .inl ⟨_, rfl, by rw [decide_eq_true rfl, decide_eq_true rfl]; rfl⟩⟩).eq rfl rfl
end
structure Tb (K : PySem.W.Frag) (mg : Str → Option Value) (C CB : Addr) : Prop where
  T : Txt K mg C
  nu : Num K CB
  is : Isi K CB
  nL : NoAttr K CB "_letters"
  nD : NoAttr K CB "_degree"
  nA : NoAttr K CB "_amounts"
  ne : PySem.W.findIn K (.ref CB) "__ne__" = some (some (.builtin "object.__ne__"))
  mB : mg "Blend" = some (.ref CB)
  enum : mg "enumerate" = none
  sorted : mg "sorted" = none
  sum : mg "sum" = none
  min : mg "min" = none
  dict : mg "dict" = none
  ml : ∃ tk, mg "MOST_LETTERS" = some (.int 8 tk)
  md : ∃ tk, mg "MOST_DEGREE" = some (.int 8 tk)
  me : ∃ tk, mg "MOST_ENTRIES" = some (.int 300 tk)
/-! gathered -/
abbrev spGath (C : Addr) : SpD := fun as Q => ∃ es : List Ent, as = [Sl.val (.lst (enD C es))] ∧ (es.map (·.1)).Nodup ∧ es.length ≤ 40000 ∧ Q (.lst (enD C es))
theorem enD_len {es : List Ent} : (enD C es).length = es.length := by unfold enD; rw [List.length_map]
theorem enD_get {es : List Ent} {i : Nat} {d : D} (h : (enD C es)[i]? = some d) : ∃ e, es[i]? = some e ∧ d = .tup [tI e.1, Ra C (fr e.2)] := by
  unfold enD at h
  rw [List.getElem?_map] at h
  cases e : es[i]? with
  | none => rw [e] at h; cases h
  | some x => rw [e] at h; cases h; exact ⟨x, rfl, rfl⟩
theorem enD_snoc {es : List Ent} {i : Nat} {e : Ent} (h : es[i]? = some e) : enD C (es.take (i + 1)) = enD C (es.take i) ++ [.tup [tI e.1, Ra C (fr e.2)]] := by
  rw [List.take_add_one, h]
  unfold enD
  rw [List.map_append]
  rfl
theorem fresh {es : List Ent} {i : Nat} {e : Ent} (nd : (es.map (·.1)).Nodup) (h : es[i]? = some e) : e.1 ∉ (es.take i).map (·.1) := by
  intro z
  have s : es.take (i + 1) = es.take i ++ [e] := by rw [List.take_add_one, h]; rfl
  have n2 : ((es.take (i + 1)).map (·.1)).Nodup := nd.sublist ((List.take_sublist _ _).map _)
  rw [s, List.map_append, List.nodup_append] at n2
  exact n2.2.2 _ z _ (by simp) rfl
theorem sc_gath : FnScope ["pairs", "amounts", "counts", "amount"] ["pairs"] (defScope (top 31)) := ⟨rfl, rfl, rfl, by decide +kernel, rfl, by decide +kernel, by decide +kernel⟩
/-! all products -/
def plus (a b : List Int) : List Int := List.zipWith (· + ·) a b
def prods (es fs : List Ent) : List Ent := es.flatMap fun e => fs.map fun f => (plus e.1 f.1, e.2 * f.2)
abbrev spProds (C : Addr) : SpD := fun as Q => ∃ es fs : List Ent, ∃ m : Nat, as = [.val (.lst (enD C es)), .val (.lst (enD C fs))] ∧ (∀ e ∈ es, e.1.length = m) ∧ (∀ e ∈ fs, e.1.length = m) ∧ m ≤ 100 ∧ (∀ e ∈ es, Bq 1000 e.2) ∧ (∀ e ∈ fs, Bq 1000 e.2) ∧ es.length ≤ 60 ∧ fs.length ≤ 60 ∧ Q (.lst (enD C (prods es fs)))
abbrev NPr : List Str := ["entries", "others", "pairs", "counts", "amount", "more", "factor", "both", "one", "two"]
end
end K25

set_option Elab.async false
set_option linter.all false
set_option maxRecDepth 100000
set_option maxHeartbeats 2000000
/-! the empty tuple that a def has as a default: known by its address -/
namespace DL
open PySem L2 PyProof.Rows
def EmpT (K : PySem.W.Frag) (a : Addr) : Prop := ∃ (o : Obj) (n : Nat), K.lookup a = some o ∧ o.cls = .type "tuple" ∧ o.data = .seq #[] n
theorem EmpT.sq {K : PySem.W.Frag} {a : Addr} (h : EmpT K a) (H : Hp) : SqT K H a [] := by
  obtain ⟨o, n, e, c, d⟩ := h
  exact .inr ⟨o, #[], n, e, c, d, by decide, .nil⟩
section
variable {X : Cx} {B : Hp} {W0 : Wd} {S : En} {pos p p1 : Pos} {Q : D → Prop} {e : Expr} {E : Ends'}
theorem cd_isiK {a : Addr} {c c' : D} {u u' : Value} {k : Bool} (em : EmpT X.K a) (hc : ClD c u) (hc' : ClD c' u') (hk : PySem.W.kitAny X.K (.type "tuple") [u, u'] = some k) (q : Q (.bl k)) : CD X (.builtin "isinstance") [.val (.cls a), .val (.tup [c, c'])] Q := cd_of call_isiT fun vs W H ok ha R cc => by
  obtain ⟨v, w, rfl, h, h'⟩ := two_args ha
  obtain ⟨o, n, e, ec, ed⟩ := em
  cases h
  cases h' with
  | tup hp m =>
    cases m with
    | cons h1 m => cases m with
      | cons h2 m =>
        cases m
        exact ⟨_, _, _, .type "tuple", [u, u'], k, rfl, ok.ex _ _ hp, .cons (hc.v h1) (.cons (hc'.v h2) .nil), .kTuple e ec, hk, cc.now ok (.bl k) q⟩
theorem sd_forEnK {a : Addr} {elts : List Expr} {kk : Nat} {tpos : Pos} {body : List Stmt} (em : EmpT X.K a) (hp : PassesOwn (model X.prog X.w) X.A X.env X.xe) (hc : X.calm = true) (hm : X.mg "enumerate" = none) (h : AD X B S [e] fun as => as = [.val (.cls a)] ∧ E.nx S) (hg : Gl X "enumerate" := by rfl) (hs : starEach [e] X.env = [(false, eval e X.env)] := by rfl)
    (hf : ∀ x, foldedSetIterable (.Call (.Name "enumerate" p) [e] [] p1) X.env x = pure x := by intro _; rfl) : SD X B W0 S (.For (.Tuple elts kk tpos) (.Call (.Name "enumerate" p) [e] [] p1) body [] pos) E := fun σ W H r z D' k => by
  refine PS.w (ps_for hp hc (pi_en hg hm wa_pa hs) wg_pg wss_pss hf) ?_
  refine h σ W H r _ fun as vs W1 H1 s1 ok1 n1 q1 => ?_
  obtain ⟨rfl, q⟩ := q1
  obtain ⟨v, rfl, m⟩ := one_arg n1
  cases m
  refine ⟨a, rfl, em.sq H1, fun i m σ' H' => i = 0 ∧ σ' = σ ∧ H' = H1, ⟨0, rfl, rfl, rfl⟩, ?_⟩
  rintro i m σ' H' ⟨rfl, rfl, rfl⟩
  exact .inl ⟨⟨rfl, em.sq H'⟩, k.nx S σ' W1 H' (r.step s1 ok1) (z.trans r.ok s1) s1.I q⟩
end
end DL

set_option Elab.async false
set_option linter.all false
set_option maxRecDepth 100000
set_option maxHeartbeats 2000000
/-! name = [elt for x in a text]; texts that are the same -/
namespace DL
open PySem L2 PyProof.Rows
section
variable {X : Cx} {B : Hp} {S : En} {elt iter : Expr}
end
end DL

set_option Elab.async false
set_option linter.all false
set_option maxRecDepth 100000
set_option maxHeartbeats 2000000
/-! [..] * n of one's own; a loop over a range that is not empty -/
namespace DL
open PySem L2 PyProof.Rows
section
variable {X : Cx} {B : Hp} {W0 : Wd} {S : En} {pos : Pos} {a b : Expr}
end
section
variable {X : Cx} {B : Hp} {W0 : Wd} {S : En} {pos : Pos}
end
end DL

set_option Elab.async false
set_option linter.all false
set_option maxRecDepth 100000
set_option maxHeartbeats 2000000
/-! d.get(k, x) of a dict that is data -/
namespace DL
open PySem L2 PyProof.Rows
section
variable {X : Cx} {B : Hp} {S : En} {Q : D → Prop} {o e f : Expr} {apos cpos : Pos}
theorem ed_get2 (hu : X.A.units + 1 < cLine) (h : ED X B S o fun d => ∃ kvs, d = .dcT kvs ∧ ED X B S e fun y => ED X B S f fun z => ∃ k, y = tD k ∧ Q ((look kvs k).getD z)) (m : M2 X o "get" apos e f cpos := by exact ⟨rfl, rfl, rfl, rfl⟩) : ED X B S (.Call (.Attribute o "get" apos) [e, f] [] cpos) Q := fun σ W H r R k0 => by
  refine PE.w (pe_dget2 hu we_pe we_pe we_pe m) ?_
  refine h σ W H r _ fun d v W1 H1 s1 ok1 n1 q1 => ?_
  obtain ⟨kvs, rfl, q1⟩ := q1
  cases id n1 with
  | @dcT _ a o ws hp mm =>
    refine ⟨a, rfl, .inr ⟨ws, .inr ⟨o, ok1.ex _ _ hp⟩⟩, ?_⟩
    refine q1 σ W1 H1 (r.step s1 ok1) _ fun y u W2 H2 s2 ok2 n2 q2 => ?_
    refine q2 σ W2 H2 ((r.step s1 ok1).step s2 ok2) _ fun z x W3 H3 s3 ok3 n3 q3 => ?_
    obtain ⟨k, rfl, q3⟩ := q3
    obtain ⟨q, rfl, hb⟩ := dn_tupkey ok3 (n2.mono s3.I)
    have m3 := (mm.mono s2.I).mono s3.I
    have e3 : Rd H3 a (.dT ws) := .inr ⟨o, ok3.ex _ _ (s3.I _ _ (s2.I _ _ hp))⟩
    refine ⟨_, dget_of e3 hb, ?_⟩
    have k3 := ((k0.step s1 ok1).step s2 ok2).step s3 ok3
    obtain ⟨l1, l2⟩ := dnt_look (k := k) m3
    cases hl : look kvs k with
    | none =>
      rw [l2 hl]
      rw [hl] at q3
      exact k3.now ok3 n3 q3
    | some d =>
      obtain ⟨v, ev, nv⟩ := l1 d hl
      rw [ev]
      rw [hl] at q3
      exact k3.now ok3 nv q3
end
end DL

set_option Elab.async false
set_option linter.all false
set_option maxRecDepth 100000
set_option maxHeartbeats 2000000
/-! sorted of a list or a tuple of data, by itself -/
namespace SRT
open PySem PySem.W PySem.Calls PyProof.Rows
section
variable {prog : Program} {w : World} {A : Around} {E : Value → Shared → Prop} {s : Shared}
end
end SRT
namespace DL
open PySem PySem.Spec PySem.W PyProof.Rows L2
section
variable {X : Cx} {α : Type} {f : α → D} {enc : α → PyData} {bs : List α} {Q : D → Prop}
end
end DL

set_option Elab.async false
set_option linter.all false
set_option maxRecDepth 100000
set_option maxHeartbeats 2000000
/-! sorted(.., key=f), f a def of the text -/
namespace SRT
open PySem PySem.W PySem.Calls PyProof.Rows
section
variable {prog : Program} {w : World} {A : Around} {E : Value → Shared → Prop} {s : Shared} {a kS : Addr} {vs : List Value} {keys : Array Value} {e e1 : Nat} {P : PySem.Fin → Shared → Prop}
/-- the heap behind the sort: the keys' list emptied, the items put back -/
def endHeap (h : Heap) (kS a : Addr) (out : List Value) : Heap := (h.update kS (Obj.mapSeq fun _ => (#[] : Array Value))).update a (Obj.mapSeq fun _ => out.toArray)
end
end SRT
namespace DL
open PySem PySem.Spec PySem.W PyProof.Rows L2
section
variable {X : Cx} {α : Type} {f kD : α → D} {enc : α → PyData} {bs : List α} {Q : D → Prop} {B : Hp} {S : En}
theorem ed_imp {Q Q' : D → Prop} {e : Expr} (h : ED X B S e Q) (k : ∀ d, Q d → Q' d) : ED X B S e Q' := fun σ W H r R c => h σ W H r R fun d v W' H' st ok n q => c d v W' H' st ok n (k d q)
end
end DL

set_option Elab.async false
set_option linter.all false
set_option maxRecDepth 100000
set_option maxHeartbeats 2000000
/-! tuples and lists of ints: added, cut, looked into; comprehensions with a test, of two fors; enumerate of a tuple -/
namespace DL
open PySem PySem.Spec PyProof.Rows L2
section
variable {X : Cx} {B : Hp} {W0 : Wd} {S : En} {pos px p1 p p2 : Pos} {Q : D → Prop} {a b c e : Expr} {E : Ends'} {x : Str}
/-! ### + of tuples -/
theorem od_catT {l m : List D} (hl : l.length + m.length ≤ 100000) (q : Q (.tup (l ++ m))) : OD X (binaryOp .Add) (.tup l) (.tup m) Q := by
  refine od_of op_catA fun v u W H ok h1 h2 R c => ?_
  cases h1 with
  | @tup _ a1 xs e1 d1 => cases h2 with
    | @tup _ a2 ys e2 d2 =>
      refine ⟨_, _, _, _, rfl, rfl, SqT.of (ok.ex _ _ e1), SqT.of (ok.ex _ _ e2), Nat.le_trans (by rw [← d1.length, ← d2.length]; exact hl) (by decide), fun z => ?_, fun _ z => ?_, fun _ _ p hp => ?_⟩
      · subst z
        cases d1
        exact c.now ok (.tup e2 d2) q
      · subst z
        cases d2
        rw [List.append_nil] at q
        exact c.now ok (.tup e1 d1) q
      · have st := Stp.new (o := .tup (xs ++ ys)) ok hp
        exact c (.tup (l ++ m)) (.ref p) _ _ st (ok.new hp) (.tup (show upd W.I p _ p = _ from upd_same) ((d1.append d2).mono st.I)) q
/-- a tuple's items from j on, j whatever it is -/
theorem ed_slFrA (h : ED X B S e fun d => ED X B S b fun y => ∃ l, ∃ j : Nat, d = .tup l ∧ y = .int (j : Int) ∧ Q (.tup (l.drop j))) : ED X B S (.Subscript e (.Slice (some b) none none p2) pos) Q := fun σ W H r R k => by
  refine PE.w (pe_slice L2.sl_tupA we_pe (po_some we_pe) po_none) ?_
  refine h σ W H r _ fun d v W1 H1 s1 ok1 n1 q1 => ?_
  show WE X b σ H1 _
  refine q1 σ W1 H1 (r.step s1 ok1) _ fun d2 u W2 H2 s2 ok2 n2 q2 => ?_
  obtain ⟨l, j, rfl, rfl, q2⟩ := q2
  cases n2
  have k2 := (k.step s1 ok1).step s2 ok2
  cases n1.mono s2.I with
  | @tup _ a xs ha m =>
    have lm := m.length
    refine ⟨_, rfl, a, xs, rfl, SqT.of (ok2.ex _ _ ha), fun hw => ?_, fun _ p hp => ?_⟩
    · rw [HT.sIx_nat, HT.sIx_none] at hw
      rcases Nat.eq_zero_or_pos j with z | z
      · subst z
        rw [List.drop_zero] at q2
        exact k2.now ok2 (.tup ha m) q2
      · have lz : l = [] := List.eq_nil_of_length_eq_zero (by have := hw.1; omega)
        subst lz
        rw [List.drop_nil] at q2
        exact k2.now ok2 (.tup ha m) q2
    · have e : cutV xs (some (j : Int)) none = xs.drop j := by
        unfold cutV
        rw [HT.sIx_nat, HT.sIx_none]
        rcases Nat.le_total j xs.length with z | z
        · rw [Nat.min_eq_left z]
          exact List.take_of_length_le (by rw [List.length_drop]; omega)
        · rw [Nat.min_eq_right z, List.drop_eq_nil_of_le (Nat.le_refl _), List.drop_eq_nil_of_le z, List.take_nil]
      rw [e]
      have st := Stp.new (o := .tup (xs.drop j)) ok2 hp
      exact k2 (.tup (l.drop j)) (.ref p) _ _ st (ok2.new hp) (.tup (show upd W2.I p _ p = _ from upd_same) ((dns_drop j m).mono st.I)) q2
/-! ### slices of lists -/
theorem ed_slLF (h : ED X B S e fun d => ED X B S b fun y => ∃ l, ∃ j : Nat, d = .lst l ∧ y = .int (j : Int) ∧ l.length ≤ 100000 ∧ Q (.lst (l.drop j))) : ED X B S (.Subscript e (.Slice (some b) none none p2) pos) Q := fun σ W H r R k => by
  refine PE.w (pe_slice L2.sl_list we_pe (po_some we_pe) po_none) ?_
  refine h σ W H r _ fun d v W1 H1 s1 ok1 n1 q1 => ?_
  show WE X b σ H1 _
  refine q1 σ W1 H1 (r.step s1 ok1) _ fun d2 u W2 H2 s2 ok2 n2 q2 => ?_
  obtain ⟨l, j, rfl, rfl, hj, q2⟩ := q2
  cases n2
  have k2 := (k.step s1 ok1).step s2 ok2
  cases n1.mono s2.I with
  | @lst _ a xs ha m =>
    refine ⟨_, rfl, a, xs, rfl, SqL.of (ok2.ex _ _ ha), fun p hp => ?_⟩
    have e : cutV xs (some (j : Int)) none = xs.drop j := by
      unfold cutV
      rw [HT.sIx_nat, HT.sIx_none]
      rcases Nat.le_total j xs.length with z | z
      · rw [Nat.min_eq_left z]
        exact List.take_of_length_le (by rw [List.length_drop]; omega)
      · rw [Nat.min_eq_right z, List.drop_eq_nil_of_le (Nat.le_refl _), List.drop_eq_nil_of_le z, List.take_nil]
    rw [e]
    have st := Stp.new (o := .lst (xs.drop j)) ok2 hp
    exact k2 (.lst (l.drop j)) (.ref p) _ _ st (ok2.new hp) (.lst (show upd W2.I p _ p = _ from upd_same) ((dns_drop j m).mono st.I)) q2
theorem ed_slLT (h : ED X B S e fun d => ED X B S b fun y => ∃ l, ∃ j : Int, d = .lst l ∧ y = .int j ∧ ((∃ k : Nat, j = (k : Int) ∧ Q (.lst (l.take k))) ∨ (j = -1 ∧ Q (.lst l.dropLast)))) : ED X B S (.Subscript e (.Slice none (some b) none p2) pos) Q := fun σ W H r R k => by
  refine PE.w (pe_slice L2.sl_list we_pe po_none (po_some we_pe)) ?_
  refine h σ W H r _ fun d v W1 H1 s1 ok1 n1 q1 => ?_
  show WE X b σ H1 _
  refine q1 σ W1 H1 (r.step s1 ok1) _ fun d2 u W2 H2 s2 ok2 n2 q2 => ?_
  obtain ⟨l, j, rfl, rfl, q2⟩ := q2
  cases n2
  have k2 := (k.step s1 ok1).step s2 ok2
  cases n1.mono s2.I with
  | @lst _ a xs ha m =>
    refine ⟨_, rfl, a, xs, rfl, SqL.of (ok2.ex _ _ ha), fun p hp => ?_⟩
    rcases q2 with ⟨i, rfl, q2⟩ | ⟨rfl, q2⟩
    · have e : cutV xs none (some (i : Int)) = xs.take i := by
        unfold cutV
        rw [HT.sIx_nat, HT.sIx_none, List.drop_zero, Nat.sub_zero]
        rcases Nat.le_total i xs.length with z | z
        · rw [Nat.min_eq_left z]
        · rw [Nat.min_eq_right z, List.take_of_length_le (Nat.le_refl _), List.take_of_length_le z]
      rw [e]
      have st := Stp.new (o := .lst (xs.take i)) ok2 hp
      exact k2 (.lst (l.take i)) (.ref p) _ _ st (ok2.new hp) (.lst (show upd W2.I p _ p = _ from upd_same) ((dns_take i m).mono st.I)) q2
    · have e : cutV xs none (some (-1)) = xs.take (xs.length - 1) := by
        unfold cutV
        rw [HT.sIx_none, List.drop_zero, Nat.sub_zero]
        have : HT.sIx xs.length xs.length (some (-1)) = xs.length - 1 := by
          show (if (-1 : Int) < 0 then ((-1 : Int) + (xs.length : Int)).toNat else min (-1 : Int).toNat xs.length) = _
          rw [if_pos (by decide)]
          omega
        rw [this]
      rw [e]
      have st := Stp.new (o := .lst (xs.take (xs.length - 1))) ok2 hp
      have ml : l.dropLast = l.take (xs.length - 1) := by rw [List.dropLast_eq_take, m.length]
      rw [ml] at q2
      exact k2 (.lst (l.take (xs.length - 1))) (.ref p) _ _ st (ok2.new hp) (.lst (show upd W2.I p _ p = _ from upd_same) ((dns_take (xs.length - 1) m).mono st.I)) q2
/-! ### in -/
theorem inV_ints {i : Int} : ∀ l : List Int, inV (.int i) (l.map V.int) = decide (i ∈ l)
  | [] => by simp [inV]
  | j :: l => by
    have := inV_ints (i := i) l
    unfold inV at this ⊢
    rw [List.map_cons, List.any_cons, this]
    by_cases h : j = i
    · subst h; simp [eqV]
    · have h' : ¬ i = j := fun z => h z.symm
      simp [eqV, h, h']
theorem od_inI {i : Int} {l : List Int} {d : D} (sd : SeqD d (l.map D.int)) (q : Q (.bl (decide (i ∈ l)))) : OD X (compareOp .In) (.int i) d Q := od_of op_in_seq fun v u W H ok h1 h2 R c => by
  cases h1
  have hf : (l.map V.int).all flatV = true := by rw [List.all_map, List.all_eq_true]; intros; rfl
  rcases sd with rfl | rfl
  · cases h2 with
    | lst h m =>
      rw [m.ints] at h
      exact ⟨_, _, rfl, .inl (SqL.of (ok.ex _ _ h)), rfl, hf, by rw [inV_ints]; exact c.now ok (.bl _) q⟩
  · cases h2 with
    | tup h m =>
      rw [m.ints] at h
      exact ⟨_, _, rfl, .inr (SqT.of (ok.ex _ _ h)), rfl, hf, by rw [inV_ints]; exact c.now ok (.bl _) q⟩
abbrev pI (l : List Int) : PyData := .tuple (l.map .int)
theorem pyd_ints : ∀ l : List Int, PyDs (l.map D.int) (l.map .int)
  | [] => .nil
  | i :: l => .cons (.int i) (pyd_ints l)
theorem pyd_tI (l : List Int) : PyD (tI l) (pI l) := .tup (pyd_ints l)
theorem pyd_tIs : ∀ ls : List (List Int), PyDs (ls.map tI) (ls.map pI)
  | [] => .nil
  | l :: ls => .cons (pyd_tI l) (pyd_tIs ls)
theorem eqvA_ints : ∀ a b : List Int, PyData.eqvAll (a.map .int) (b.map .int) = decide (a = b)
  | [], [] => by simp [PyData.eqvAll]
  | [], _ :: _ => by simp [PyData.eqvAll]
  | _ :: _, [] => by simp [PyData.eqvAll]
  | x :: a, y :: b => by
    have := eqvA_ints a b
    simp only [List.map_cons, PyData.eqvAll, PyData.eqv, this]
    by_cases h : x = y <;> simp [h]
theorem eqv_pI (a b : List Int) : PyData.eqv (pI a) (pI b) = decide (a = b) := by
  show PyData.eqvAll _ _ = _
  exact eqvA_ints a b
theorem any_pI (l : List Int) : ∀ ls : List (List Int), ((ls.map pI).any fun z => PyData.eqv z (pI l)) = decide (l ∈ ls)
  | [] => by simp
  | m :: ls => by
    rw [List.map_cons, List.any_cons, any_pI l ls, eqv_pI]
    by_cases h : m = l
    · subst h; simp
    · have h' : ¬ l = m := fun z => h z.symm
      simp [h, h']
theorem can_ints : ∀ l : List Int, PyData.canLayAll0 (l.map .int) = true
  | [] => rfl
  | i :: l => by
    rw [List.map_cons, PyData.canLayAll0, can_ints l]
    rfl
theorem can_pIs : ∀ ls : List (List Int), PyData.canLayAll0 (ls.map pI) = true
  | [] => rfl
  | l :: ls => by
    rw [List.map_cons, PyData.canLayAll0, can_pIs ls, Bool.and_true]
    exact can_ints l
theorem dep_pIs : ∀ ls : List (List Int), PyData.depthAll (ls.map pI) ≤ 1
  | [] => Nat.zero_le _
  | l :: ls => by
    rw [List.map_cons, PyData.depthAll]
    have := dep_pIs ls
    have h : (pI l).depth = 1 := by
      show PyData.depthAll _ + 1 = 1
      rw [PySem.W.depth_ints]
    omega
theorem shaped_pI (l : List Int) : SeqAt.shaped (pI l) = true := by
  unfold SeqAt.shaped
  rw [Bool.and_eq_true, decide_eq_true_eq]
  refine ⟨can_ints l, ?_⟩
  show PyData.depthAll _ + 1 ≤ 64
  rw [PySem.W.depth_ints]
  decide
theorem shaped_pIs (ls : List (List Int)) : SeqAt.shaped (.list (ls.map pI)) = true := by
  unfold SeqAt.shaped
  rw [Bool.and_eq_true, decide_eq_true_eq]
  refine ⟨can_pIs ls, ?_⟩
  show PyData.depthAll _ + 1 ≤ 64
  have := dep_pIs ls
  omega
/-- a tuple of ints in a list of such -/
theorem od_inT {l : List Int} {ls : List (List Int)} (hu : X.A.units + 65 < cLine) (q : Q (.bl (decide (l ∈ ls)))) : OD X (compareOp .In) (tI l) (.lst (ls.map tI)) Q := od_of (op_inD hu) fun v u W H ok h1 h2 R c =>
  ⟨pI l, ls.map pI, (pyd_tI l).dp ok h1, (PyD.lst (pyd_tIs ls)).dp ok h2, shaped_pI l, shaped_pIs ls, by rw [any_pI]; exact c.now ok (.bl _) q⟩
end
end DL

set_option Elab.async false
set_option linter.all false
set_option maxRecDepth 100000
set_option maxHeartbeats 2000000
/-! a new dict that a name owns -/
namespace DL
open PySem PySem.Spec PyProof.Rows L2
section
variable {X : Cx} {B : Hp} {W0 : Wd} {S : En} {pos px : Pos} {e : Expr} {E : Ends'} {x : Str}
end
end DL

set_option Elab.async false
set_option linter.all false
set_option maxRecDepth 100000
set_option maxHeartbeats 2000000
/-! dicts of unlike lengths; {} as data -/
namespace DL
open PySem PySem.Spec PyProof.Rows L2 PySem.W
section
variable {X : Cx} {B : Hp} {S : En} {Q : D → Prop} {kvs kvs' : List (List Key × D)}
end
end DL

set_option Elab.async false
set_option linter.all false
set_option maxRecDepth 100000
set_option maxHeartbeats 2000000
/-! a dict != {} -/
namespace DL
open PySem PySem.Spec PyProof.Rows L2 PySem.W
section
variable {X : Cx} {Q : D → Prop} {kvs kvs' : List (List Key × D)}
end
end DL

set_option Elab.async false
set_option linter.all false
set_option maxRecDepth 100000
set_option maxHeartbeats 4000000
/-! dicts that a def hands back new; a dict of one entry; what a name owns, compared, asked, sorted; x, y = e, {} -/
namespace DL
open PySem PySem.Spec PyProof.Rows L2 PySem.W
/-- {k: v}, k a tuple -/
def tOneT (trs : List (TE × TE)) : TE := fun σ H Q => ∀ p, H p = none → tPairs trs σ (upd H p (.dT [])) fun ps H2 => H2 p = some (.dT []) ∧ ∃ ks b y, ps = [(.ref b, y)] ∧ H2 b = some (.tup (ks.map kV)) ∧ Q (.ref p) (upd H2 p (.dT [(ks, y)]))
/-! a new dict handed back -/
abbrev SpT := List Sl → (List (List Key × D) → Prop) → Prop
def liftT (K : PySem.W.Frag) (sp : SpT) : SpG := fun g vs H R => ∃ as W Q, Ok g W H ∧ Args K W as vs ∧ sp as Q ∧ ContT K g W H Q R
structure NfT (P : Program) (w : World) (K : PySem.W.Frag) (mg : Str → Option Value) (base : Heap) (x : Str) (k : Nat) (sp : SpT) : Prop where
  ex : ∃ f fd ps, GnOk P w K mg base k f fd ps (liftT K sp) ∧ mg x = some (.ref f) ∧ PySem.W.keepIn K (.ref f) = true ∧ Binds K fd ps []
section
variable {X : Cx} {B : Hp} {W0 : Wd} {S : En} {pos p apos : Pos} {e o : Expr} {es : List Expr} {x : Str} {k : Nat}
end
/-- a block that ends by handing a new dict back -/
def ST (X : Cx) (B : Hp) (W0 : Wd) (S : En) (sts : List Stmt) (Q : List (List Key × D) → Prop) : Prop := ∀ σ W H, Rep X.K (gOf X) B S σ W H → Stp W0 B W H → ∀ R, ContT X.K (gOf X) W0 B Q R → WSs X sts { nx := fun _ H' => R .non H', rt := R } σ H
section
variable {X : Cx} {B : Hp} {W0 : Wd} {S : En} {pos px : Pos} {x : Str} {st : Stmt} {sts : List Stmt} {Q : List (List Key × D) → Prop}
end
section
variable {P : Program} {w : World} {K : PySem.W.Frag} {mg : Str → Option Value} {base : Heap}
end
section
variable {X : Cx} {B : Hp} {W0 : Wd} {S : En} {pos px py p p1 : Pos} {Q : D → Prop} {QB : Bool → Prop} {a b e f key value : Expr} {x y : Str} {E : Ends'}
abbrev RSortK (X : Cx) (dd : Nat) (Bb : Int) : List V → Hp → VK → Prop := fun xs H Q => ∃ d kvs, xs = [V.ref d] ∧ Rd H d (.dT kvs) ∧ kvs.length < 64 ∧ (∀ p ∈ kvs, ∃ l : List Int, p.1 = ik l ∧ l.length = dd ∧ TS.Bd Bb l) ∧
    ∀ bs ys p, IsKeys H kvs bs → ys.Perm (bs.map V.ref) → ys.Pairwise (fun x y => ∀ n m, TupI X.K H x n → TupI X.K H y m → TS.code Bb n ≤ TS.code Bb m) → H p = none → Q (.ref p) (upd H p (.lst ys))
end
end DL

set_option Elab.async false
set_option linter.all false
set_option maxRecDepth 100000
set_option maxHeartbeats 4000000
/-! sorted(d), keys tuples of ints, of any number -/
namespace TSB
open PySem PySem.W PySem.Calls PyProof.Rows DL
theorem lex_lt : ∀ {B : Int} {a b : List Int}, a.length = b.length → TS.Bd B a → TS.Bd B b → TS.code B a < TS.code B b → a < b
  | _, [], [], _, _, _, h => absurd h (Int.lt_irrefl _)
  | B, x :: a, y :: b, hl, ha, hb, h => by
    have hl' := Nat.succ.inj hl
    rw [List.cons_lt_cons_iff]
    rcases Int.lt_trichotomy x y with c | c | c
    · exact .inl c
    · subst c
      exact .inr ⟨rfl, lex_lt hl' ha.tail hb.tail ((TS.code_same hl').mp h)⟩
    · have := TS.code_lt hl'.symm hb.tail ha.tail c
      omega
theorem le_code {B : Int} {a b : List Int} (hl : a.length = b.length) (ha : TS.Bd B a) (hb : TS.Bd B b) (h : dataLe false pI a b = true) : TS.code B a ≤ TS.code B b := by
  by_cases c : TS.code B a ≤ TS.code B b
  · exact c
  · have lt := lex_lt hl.symm hb ha (by omega)
    have e : dataLe false pI a b = !decide (b < a) := by
      show (!PySem.W.dataLt (pI b) (pI a)) = _
      congr 1
      exact PySem.W.dataLt_ints b a
    rw [e, decide_eq_true lt] at h
    cases h
theorem reads_ints {h : Heap} : ∀ {vs : List Value} {ns : List Int}, IntsAre vs ns → ReadsAll h vs (ns.map .int) []
  | _, _, .nil => .nil
  | _, _, .cons n t r => .cons (.int n t) (reads_ints r)
theorem reads_tup {h : Heap} {v : Value} {ns : List Int} (x : TS.TupInts h v ns) : ∃ as, Reads h v (pI ns) as := by
  obtain ⟨a, xs, rfl, ⟨o, ho, hc, n, hd⟩, hi⟩ := x
  exact ⟨_, reads_tuple_at ho hc hd (reads_ints hi)⟩
theorem dl (a b : List Int) : dataLe false pI a b = !decide (b < a) := by
  show (!PySem.W.dataLt (pI b) (pI a)) = _
  congr 1
  exact PySem.W.dataLt_ints b a
theorem le_tr (a b c : List Int) (h1 : dataLe false pI a b = true) (h2 : dataLe false pI b c = true) : dataLe false pI a c = true := by
  rw [dl] at *
  simp only [Bool.not_eq_true', decide_eq_false_iff_not] at *
  exact List.le_trans (l₁ := a) (l₂ := b) (l₃ := c) h1 h2
theorem le_tot (a b : List Int) : (dataLe false pI a b || dataLe false pI b a) = true := by
  rw [dl, dl]
  rcases List.le_total a b with h | h
  · have : ¬ b < a := h
    rw [decide_eq_false this]
    rfl
  · have : ¬ a < b := h
    rw [decide_eq_false this, Bool.not_false, Bool.or_true]
section
variable {prog : Program} {w : World} {A : Around} {E : Value → Shared → Prop} {s : Shared}
theorem each_self {h : Heap} : ∀ {vs : List Value} {P : Value → Prop}, (∀ v ∈ vs, P v) → EachIs (fun v b => b = TS.intsOf h v ∧ P v) vs (vs.map (TS.intsOf h))
  | [], _, _ => .nil
  | v :: vs, P, x => .cons ⟨rfl, x v (List.mem_cons_self ..)⟩ (each_self fun u hu => x u (List.mem_cons_of_mem _ hu))
theorem of_self {h : Heap} {P : Value → Prop} : ∀ {out : List Value} {bs : List (List Int)}, EachIs (fun v b => b = TS.intsOf h v ∧ P v) out bs → bs = out.map (TS.intsOf h) ∧ ∀ v ∈ out, P v
  | _, _, .nil => ⟨rfl, nofun⟩
  | _, _, .cons ⟨e, p⟩ r => by
    obtain ⟨e2, p2⟩ := of_self r
    refine ⟨by rw [e, e2]; rfl, fun v hv => ?_⟩
    rcases List.mem_cons.mp hv with rfl | hv
    · exact p
    · exact p2 v hv
/-- xs.sort() -/
theorem call_sort_big {a : Addr} {vs : List Value} {n d : Nat} {B : Int} {Q : Value → Shared → Prop} (ho : s.heap.get? a = some (seqObj "list" vs.toArray n)) (hL : vs.length ≤ sizeLine) (hu : A.in1.units + 1 < cLine) (hd0 : 1 ≤ d) (x : TS.TupsOk s.heap d B vs)
    (h : ∀ out : Array Value, out.toList.Perm vs → out.toList.Pairwise (fun u v => TS.code B (TS.intsOf s.heap u) ≤ TS.code B (TS.intsOf s.heap v)) → Q .none { s with heap := sortedHeap s.heap a vs out }) :
    wpAny (model prog w) A (call (.builtin "list.sort") [.ref a]) Q E s := by
  have keep : ∀ b o, s.heap.get? b = some o → o.cls = .type "tuple" → (sortingHeap s.heap a vs).get? b = some o := fun b o e hc => by
    refine sortingHeap_old ?_ e
    rintro rfl
    rw [ho] at e
    have e' : seqObj "list" vs.toArray n = o := Option.some.inj e
    rw [← e'] at hc
    have c' : Value.type "list" = Value.type "tuple" := hc
    injection c' with c''
    exact absurd c'' (by decide)
  have es : EachIs (fun v b => b = TS.intsOf s.heap v ∧ v ∈ vs) vs (vs.map (TS.intsOf s.heap)) := each_self fun v hv => hv
  have er : EachIs (fun v b => ∃ as, Reads (sortingHeap s.heap a vs) v (pI b) as) vs (vs.map (TS.intsOf s.heap)) := es.mono fun v b ⟨e, hv⟩ => by
    obtain ⟨ns, t, _⟩ := x v hv
    rw [e, t.ints]
    exact reads_tup (t.keeps keep)
  have hal : AllAlike ((vs.map (TS.intsOf s.heap)).map pI) := AllAlike.of fun b b' => by simp [PySem.W.alike, PySem.W.alike_ints]
  have hk : Sortable ((vs.map (TS.intsOf s.heap)).map pI) := .inl fun q hq => by
    obtain ⟨l, hl, rfl⟩ := List.mem_map.mp hq
    obtain ⟨v, hv, rfl⟩ := List.mem_map.mp hl
    obtain ⟨ns, t, l1, _⟩ := x v hv
    rw [t.ints]
    cases ns with
    | nil => rw [List.length_nil] at l1; omega
    | cons y ys => exact ⟨_, _, rfl⟩
  refine wpAny_call_entry slot_list_sort ⟨_, ho, rfl⟩ entry_list_sort ?_ (args_list_sort _)
  refine list_sort_vals (κ := dataKind (sortingHeap s.heap a vs) ((vs.map (TS.intsOf s.heap)).map pI)) ho (SortsAt.data (s := { s with heap := sortingHeap s.heap a vs }) (each_map (R := fun v d => ∃ as, Reads (sortingHeap s.heap a vs) v d as) pI er) hal hk fun d hd => ?_) hL ⟨_, rfl, h _ ?_ ?_⟩
  · obtain ⟨l, _, rfl⟩ := List.mem_map.mp hd
    show A.in1.units + (PyData.depthAll _ + 1) < cLine
    rw [PySem.W.depth_ints]
    exact hu
  · show (((vs.zip vs).mergeSort _).map Prod.snd).Perm vs
    have z := (List.mergeSort_perm (vs.zip vs) (sortLe (dataKind (sortingHeap s.heap a vs) ((vs.map (TS.intsOf s.heap)).map pI)).toKeyOrd false fun p : Keyed => keyD (dataKind (sortingHeap s.heap a vs) ((vs.map (TS.intsOf s.heap)).map pI)) p.1)).map Prod.snd
    rw [List.map_snd_zip (Nat.le_refl _)] at z
    exact z
  · have eo := sortVals_data (R := fun v b => b = TS.intsOf s.heap v ∧ v ∈ vs) (enc := pI) (h' := sortingHeap s.heap a vs) false es er hal
    obtain ⟨e1, e2⟩ := of_self eo
    have pw := List.pairwise_mergeSort (le := dataLe false pI) le_tr le_tot (vs.map (TS.intsOf s.heap))
    rw [e1, List.pairwise_map] at pw
    refine pw.imp_of_mem fun {u v} hu hv le => ?_
    obtain ⟨ns, t, l1, b1⟩ := x u (e2 u hu)
    obtain ⟨ms, t', l2, b2⟩ := x v (e2 v hv)
    rw [t.ints, t'.ints] at le ⊢
    exact le_code (by rw [l1, l2]) b1 b2 le
end
end TSB
namespace DL
open PySem PySem.Spec PyProof.Rows L2
theorem cr_sortKb {X : Cx} {dd : Nat} {B : Int} (hc : X.calm = true) (hd : 1 ≤ dd) (hu : X.A.units + 100 < cLine) : CallR X (.builtin "sorted") (fun xs H Q => ∃ d kvs, xs = [V.ref d] ∧ Rd H d (.dT kvs) ∧ kvs.length ≤ 50000 ∧ (∀ p ∈ kvs, ∃ l : List Int, p.1 = ik l ∧ l.length = dd ∧ TS.Bd B l) ∧
    ∀ bs ys p, IsKeys H kvs bs → ys.Perm (bs.map V.ref) → ys.Pairwise (fun x y => ∀ n m, TupI X.K H x n → TupI X.K H y m → TS.code B n ≤ TS.code B m) → H p = none → Q (.ref p) (upd H p (.lst ys))) := by
  intro pins t τ H xs us Q J r q
  obtain ⟨d, kvs, rfl, rd, few, hx, q⟩ := q
  rw [Vals.ref1 r]
  obtain ⟨z, ns, ks, pr, o, es, ep, ho, hex, hdt, he, nd⟩ := (show ObjOk X.prog X.w H t.heap d (.dT kvs) from rd.ok J.hok)
  have l1 : es.size = ks.length := size_of_entries he
  have l2 : kvs.length = ks.length := Paired.length pr
  have small : ks.length ≤ sizeLine := l2 ▸ z
  have isk := keyPairs J.hok pr
  refine Calls.call_function_entry kind_sorted plain_sorted entry_sorted (args_sorted1 _) ?_
  unfold Builtin.«sorted»
  refine wpAny_bind (m := checkCount "sorted" 1 1 _) (wpAny_pure ?_)
  refine wpAny_bind (PySem.W.kdu_collect (A := X.A.in1) (kdl_raw ns hex hdt) (J.ok.hd hc) ho (by omega) fun h' tk acc keep it => ?_)
  have ea := accKeys (acc := acc.toList) he (by rw [Array.length_toList, it.1]; exact l1) fun j v e => it.2 j v (by rw [← Array.getElem?_toList]; exact e)
  have J1 : Inv X pins τ H { t with heap := h', toks := tk } := J.kept keep
  generalize eb : (ks.map fun x => x.2.1) = bs at isk ea
  have lb : bs.length = ks.length := by rw [← eb, List.length_map]
  rw [ea]
  refine wpAny_bind (wpAny_newList ?_ (by rw [List.length_map, lb]; exact small))
  have at_ : (h'.push (seqObj "list" (bs.map Value.ref).toArray 0)).get? h'.objs.size = some (seqObj "list" (bs.map Value.ref).toArray 0) := Heap.get?_push_size _ rfl
  have raw : ∀ b ∈ bs, ∃ l, SqT X.K H b (l.map V.int) ∧ l.length = dd ∧ TS.Bd B l := fun b hb => by
    obtain ⟨j, hj, e⟩ := List.getElem_of_mem hb
    have hjk : j < kvs.length := by omega
    obtain ⟨b', hb', hH⟩ := Itemz isk j hjk
    rw [List.getElem?_eq_getElem hj, e] at hb'
    cases hb'
    obtain ⟨l, e1, e2, e3⟩ := hx _ (List.getElem_mem hjk)
    rw [e1] at hH
    refine ⟨l, SqT.of ?_, e2, e3⟩
    have : (ik l).map kV = l.map V.int := by simp [ik, kV, Function.comp_def]
    rw [← this]
    exact hH
  have up : ∀ b u, t.heap.get? b = some u → (h'.push (seqObj "list" (bs.map Value.ref).toArray 0)).get? b = some u := fun b u e => Heap.get?_push_of_some _ (keep b u e)
  have tups : TS.TupsOk (h'.push (seqObj "list" (bs.map Value.ref).toArray 0)) dd B (bs.map Value.ref) := fun v hv => by
    obtain ⟨b, hb, rfl⟩ := List.mem_map.mp hv
    obtain ⟨l, h1, h2, h3⟩ := raw b hb
    exact ⟨l, (tupI_raw J h1).keeps fun c u e _ => up c u e, h2, h3⟩
  show wpAny _ _ _ _ _ { t with heap := h'.push (seqObj "list" (bs.map Value.ref).toArray 0), toks := tk }
  refine wpAny_bind (wpAny_holding (TSB.call_sort_big (s := { t with heap := h'.push (seqObj "list" (bs.map Value.ref).toArray 0), toks := tk }) at_ (by rw [List.length_map, lb]; exact small) (show X.A.units + 1 + 1 + 1 < cLine by omega) hd tups fun out p1 p2 => ?_))
  have refs : ∀ u ∈ out.toList, ∃ a, u = Value.ref a := fun u hu => by
    obtain ⟨b, _, e⟩ := List.mem_map.mp (p1.mem_iff.mp hu)
    exact ⟨b, e.symm⟩
  have perm : (out.toList.map bkV).Perm (bs.map V.ref) := by
    have := p1.map bkV
    rwa [List.map_map] at this
  obtain ⟨e', at2⟩ := sortedHeap_at (vs := bs.map Value.ref) (out := out) at_
  have fit : (out.toList.map bkV).length ≤ sizeLine := by rw [perm.length_eq, List.length_map, lb]; exact small
  refine wpAny_pure ⟨_, rfl, .ref h'.objs.size, upd H h'.objs.size (.lst (out.toList.map bkV)), J1.laid (t' := tk) (fun b u e => ?_) (Nat.le_refl _) ⟨fit, out.toList, e', bkV_vals refs, at2⟩, rfl, q bs _ _ isk perm ?_ (J1.hok.fresh (Nat.le_refl _))⟩
  · have lt : b < h'.objs.size := Heap.lt_size e
    rw [sortedHeap_old (Nat.ne_of_lt lt) (by rw [size_push']; exact Nat.lt_succ_of_lt lt)]
    exact Heap.get?_push_of_some _ e
  · rw [List.pairwise_map]
    refine List.Pairwise.imp (fun {u v} le n m hn hm => ?_) p2
    obtain ⟨a1, f1, g1⟩ := hn
    obtain ⟨a2, f2, g2⟩ := hm
    have i1 := ((tupI_raw J g1).keeps (h' := h'.push (seqObj "list" (bs.map Value.ref).toArray 0)) fun c u e _ => up c u e).ints
    have i2 := ((tupI_raw J g2).keeps (h' := h'.push (seqObj "list" (bs.map Value.ref).toArray 0)) fun c u e _ => up c u e).ints
    rw [bkV_ref f1, bkV_ref f2] at le
    have le' : TS.code B (TS.intsOf (h'.push (seqObj "list" (bs.map Value.ref).toArray 0)) (.ref a1)) ≤ TS.code B (TS.intsOf (h'.push (seqObj "list" (bs.map Value.ref).toArray 0)) (.ref a2)) := le
    rw [i1, i2] at le'
    exact le'
/-- sorted(d), keys of ints, of any number -/
theorem cd_sortKb {X : Cx} {Q : D → Prop} {dd : Nat} {B : Int} {kvs : List (List Key × D)} {ls : List (List Int)} (hc : X.calm = true) (hu : X.A.units + 100 < cLine) (hd : 1 ≤ dd) (hk : kvs.map (·.1) = ls.map ik) (hl : ls.length ≤ 50000) (hx : ∀ l ∈ ls, l.length = dd ∧ TS.Bd B l)
    (q : ∀ ls' : List (List Int), ls'.Perm ls → ls'.Pairwise (fun a b => TS.code B a ≤ TS.code B b) → Q (.lst (ls'.map tI))) : CD X (.builtin "sorted") [.val (.dcT kvs)] Q := cd_of (cr_sortKb (dd := dd) (B := B) hc hd hu) fun vs W H ok ha R c => by
  obtain ⟨v, rfl, m⟩ := one_arg ha
  cases m with
  | @dcT _ a o ws hp m =>
    have hl2 : kvs.length = ls.length := by have := congrArg List.length hk; simpa using this
    refine ⟨a, ws, rfl, .inr ⟨o, ok.ex _ _ hp⟩, by rw [← m.length, hl2]; exact hl, fun p hm => ?_, fun bs ys p isk perm pw hn => ?_⟩
    · have : p.1 ∈ ls.map ik := by
        rw [← hk, m.keys]
        exact List.mem_map_of_mem hm
      obtain ⟨l, hl, e⟩ := List.mem_map.mp this
      exact ⟨l, e.symm, hx l hl⟩
    · obtain ⟨W2, s2, ok2, e2⟩ := extN isk ok
      have dk := dns_keysOf (m.mono s2.I) e2
      rw [keysD_ik hk] at dk
      obtain ⟨ls', p1, n1⟩ := dns_perm perm dk
      have st := Stp.new (o := .lst ys) ok2 hn
      exact c _ _ _ _ (s2.trans ok2 st) (ok2.new hn) (.lst (show upd W2.I p _ p = _ from upd_same) (n1.mono st.I)) (q ls' p1 (dns_pair ok2 n1 pw))
end DL
namespace DL
open PySem L2 PyProof.Rows
theorem un100 {k : Nat} {A : Around} (r : Room k A) : A.units + 100 < cLine := by have := r.un; omega
end DL

set_option Elab.async false
set_option linter.all false
set_option maxRecDepth 100000
set_option maxHeartbeats 2000000
/-! comprehensions told by functions: what each item becomes, which are kept -/
namespace DL
open PySem PySem.Spec PyProof.Rows L2
theorem take1 {α β : Type} (u : α → β) {l : List α} {i : Nat} {a : α} (h : l[i]? = some a) : (l.take (i + 1)).map u = (l.take i).map u ++ [u a] := by
  rw [List.take_add_one, h]
  simp
section
variable {X : Cx} {B : Hp} {W0 : Wd} {S : En} {pos : Pos} {e elt iter c : Expr} {x : Str} {px : Pos} {scope : Scope} {own : List (Str × Nat)} {d0 : D} {Q : List D → Prop} {E : Ends'} {α : Type} {f u : α → D} {t : α → Bool} {l : List α}
/-- [elt for x in a list or a tuple] -/
theorem fd_mp (j : Nat) (hc : X.calm = true) (hN : X.N.Nodup) (ok : BlkOk X.N X.env.scope scope own) (hg : AllBlk X scope fun Y => PG Y (.Name x px) (gName j)) (hj : j ∈ own.map (·.2)) (hl : l.length ≤ 50000) (sd : SeqD d0 (l.map f)) (hit : ED X B S iter fun d => d = d0)
    (he : ∀ a ∈ l, AllBlk X scope fun Y => ED Y B (itE S own j (f a)) elt fun y => y = u a) (q : Q (l.map u)) (hs : ∀ x, foldedSetIterable iter X.env x = pure x := by intro _; rfl) : FD X B S (.ListComp elt [⟨.Name x px, iter, [], 0⟩] scope pos) Q := by
  have step : ∀ (i : Nat) d acc, (l.map f)[i]? = some d → acc.length = i → acc = (l.take i).map u → AllBlk X scope fun Y => ED Y B (itE S own j d) elt fun y => acc ++ [y] = (l.take (i + 1)).map u := by
    intro i d acc hi _ ha s H0 C cl fp
    rw [List.getElem?_map] at hi
    obtain ⟨a, h1, rfl⟩ := Option.map_eq_some_iff.mp hi
    refine ed_imp (he a (List.mem_of_getElem? h1) s H0 C cl fp) fun y ey => ?_
    rw [take1 u h1, ha, ey]
  have fin : ∀ acc : List D, acc.length = (l.map f).length → acc = (l.take (l.map f).length).map u → Q acc := by
    intro acc _ e
    rw [List.length_map, List.take_length] at e
    rw [e]
    exact q
  have hl' : (l.map f).length ≤ 50000 := by rw [List.length_map]; exact hl
  rcases sd with rfl | rfl
  · exact fd_lcL (fun i acc => acc = (l.take i).map u) (fun d => itE S own j d) hc hN ok hg (ed_imp hit fun d e => ⟨e, hl', rfl⟩) (fun d _ => pat_name j hj) step fin hs
  · exact fd_lcT (fun i acc => acc = (l.take i).map u) (fun d => itE S own j d) hc hN ok hg (ed_imp hit fun d e => ⟨e, hl', rfl⟩) (fun d _ => pat_name j hj) step fin hs
/-- [elt for x in range(n) if c] -/
theorem fd_ftR {p1 pos1 : Pos} {n : Nat} {u : Nat → D} {t : Nat → Bool} (j : Nat) (hc : X.calm = true) (hN : X.N.Nodup) (hm : X.mg "range" = none) (ok : BlkOk X.N X.env.scope scope own) (hg : AllBlk X scope fun Y => PG Y (.Name x px) (gName j)) (hj : j ∈ own.map (·.2)) (hn : n ≤ 50000) (h : AD X B S [e] fun as => as = [.val (.int (n : Int))])
    (ht : ∀ i, i < n → AllBlk X scope fun Y => TD Y B (itE S own j (.int (i : Int))) c fun b => b = t i) (he : ∀ i, i < n → t i = true → AllBlk X scope fun Y => ED Y B (itE S own j (.int (i : Int))) elt fun y => y = u i) (q : Q (((List.range n).filter t).map u)) (hgl : Gl X "range" := by rfl) (hst : starEach [e] X.env = [(false, eval e X.env)] := by rfl)
    (hs : ∀ x, foldedSetIterable (.Call (.Name "range" p1) [e] [] pos1) X.env x = pure x := by intro _; rfl) : FD X B S (.ListComp elt [⟨.Name x px, .Call (.Name "range" p1) [e] [] pos1, [c], 0⟩] scope pos) Q := fun σ W H r R k => by
  refine PE.w (pe_lc (te := WEb X scope elt) (tt := WTb X scope c) hc hN (pi_range1 hgl hm wa_pa hst) ok hg (fun s H C cl fp => pts_one (wtb_pt s H C cl fp)) web_pe hs) ?_
  refine h σ W H r _ fun as vs W1 H1 s1 ok1 n1 q1 => ?_
  subst q1
  obtain ⟨v, rfl, m⟩ := one_arg n1
  cases m
  refine ⟨(n : Int), rfl, by omega, by omega, fun p hp0 => ?_⟩
  have r1 := r.step s1 ok1
  refine lc_range (lo := 0) (n := (n : Int).toNat) (fun i H' => ∃ acc W', Mid X.K (gOf X) W1 H1 p acc W' H' ∧ acc.length ≤ i ∧ acc = ((List.range i).filter t).map u) ⟨[], W1, ⟨Stp.own hp0, ok1.own hp0, ok1.notP hp0, ok1.free hp0, [], upd_same, .nil⟩, Nat.le_refl _, rfl⟩ ?_ ?_
  · rintro i H' hi ⟨acc, W', mm, hl2, ha⟩
    rw [Int.zero_add]
    have hi' : i < n := by omega
    have r2 := r1.step mm.st mm.ok
    refine pat_name j hj (gOf X) B σ W' H' (.int (i : Int)) r2 (.int _) _ fun σ2 e2 r3 => ⟨e2, ?_⟩
    show WTb X scope c σ2 H' _
    intro s H0 C cl fp
    refine ht i hi' s H0 C cl fp σ2 W' H' r3 _ fun b W2 H2 s2 ok2 q2 => ?_
    subst q2
    have er : ((List.range (i + 1)).filter t).map u = acc ++ if t i = true then [u i] else [] := by
      rw [List.range_succ, List.filter_append, List.map_append, ha]
      cases c : t i <;> simp [c]
    cases ta : t i with
    | false => exact iteF ⟨acc, W2, mm.step s2 ok2, Nat.le_succ_of_le hl2, by rw [er, ta]; simp⟩
    | true =>
      refine iteT ?_
      show WEb X scope elt σ2 H2 _
      intro s H0 C cl fp
      refine he i hi' ta s H0 C cl fp σ2 W2 H2 (r3.step s2 ok2) _ fun y v W3 H3 s3 ok3 n3 q3 => ?_
      obtain ⟨xs', e1, e3, m3⟩ := ((mm.step s2 ok2).step s3 ok3).more hp0 n3 (by omega)
      exact ⟨xs', e1, e3, _, W3, m3, by simp only [List.length_append, List.length_singleton]; omega, by rw [er, ta, if_pos rfl, q3]⟩
  · rintro H' ⟨acc, W', mm, hl2, ha⟩
    obtain ⟨ys, hH, ds⟩ := mm.h
    rw [Int.toNat_natCast] at ha
    exact k acc p ys W' H' (s1.trans ok1 mm.st) mm.ok (s1.free ok1 hp0) mm.n mm.i hH ds (by rw [ha]; exact q)
end
end DL

set_option Elab.async false
set_option linter.all false
set_option maxRecDepth 100000
set_option maxHeartbeats 4000000
/-! enumerate of a tuple; dict comprehensions told by functions; list(range(n)) -/
namespace DL
open PySem PySem.Spec PyProof.Rows L2
def Ite2 (K : PySem.W.Frag) (a : Addr) : It :=
  ⟨fun i H => ∃ (xs : List V) (x : V), SqT K H a xs ∧ xs[i]? = some x, fun i H v H' => ∃ T x, v = .ref T ∧ H T = none ∧ H' = upd H T (.tup [.int (i : Nat), x]) ∧ ∀ xs, SqT K H a xs → xs[i]? = some x, fun i H => ∃ xs : List V, SqT K H a xs ∧ xs.length ≤ i⟩
theorem enum_endT {prog : Program} {w : World} {A : Around} {E : Value → Shared → Prop} {s : Shared} {e it l : Addr} {i : Nat} {items : Array Value} {old : Value} {Q : Option Value → Shared → Prop} (hh : A.handled = none) (he : IsEnum s.heap e it i old) (hit : s.heap.IsTupleIter it l i) (hl : s.heap.IsTuple l items) (hx : items[i]? = none)
    (hQ : ∀ h', Heap.ExtBut it s.heap h' → Q none { s with heap := h' }) : wpAny (model prog w) A (pyNext (.ref e)) Q E s := by
  have hT : s.TypeIs (.ref e) "enumerate" := ⟨_, he, rfl⟩
  unfold pyNext
  refine wpAny_bind (wpAny_attempt (wpAny_callSpecial?_slot (name := Str.ofString "__next__") hT F.slot_enumerate_next
    (wpAny_call_entry F.slot_enumerate_next hT F.entry_enumerate_next ?_ (F.args_enumerate_next_1 _))))
  show wpAny _ _ (field (.ref e) 2 >>= _) _ _ _
  refine wpAny_bind (wpAny_field he rfl (x := .ref it) rfl ?_)
  refine wpAny_bind (RZ.nextOf_tuple_end (A := A.in1) hh hit hl hx fun h' x he' hx' => ?_)
  obtain ⟨o, ho, hc⟩ := hx'
  refine wpAny_bind (wpAny_isInstance (T := "StopIteration") (b := true) ⟨o, ho, hc⟩ isSubtype_stop ?_)
  exact wpAny_pure (hQ _ he')
theorem turn_enumT {P : Program} {w : World} {K : PySem.W.Frag} {elts : List Expr} {kk : Nat} {tpos : Pos} (a e it : Addr) :
    Turn P w K (.Tuple elts kk tpos) (Ite2 K a) [e, it] e (fun i h => (∃ old, IsEnum h e it ((i : Nat) : Int) old) ∧ h.IsTupleIter it a i ∧ e ≠ it ∧ a ≠ it ∧ a ≠ e) where
  mem := by simp
  obj := fun i h st b hb => by
    obtain ⟨⟨old, he⟩, ⟨o, ho, hc, hd⟩, _⟩ := st
    have e' : b = e ∨ b = it := by simpa using hb
    rcases e' with z | z
    · rw [z]; exact ⟨_, he, fun v q => nomatch q⟩
    · rw [z]; exact ⟨o, ho, fun v q => by rw [hd] at q; cases q⟩
  keep := fun i h h' st k => let ⟨⟨old, he⟩, hi, hne⟩ := st; ⟨⟨old, k e (by simp) _ he⟩, hi.at fun o q => k it (by simp) o q, hne⟩
  item := by
    intro X hP hw hK hc i pins s σ H E I hf st hg
    subst hP hw hK
    obtain ⟨⟨old, he⟩, hit, hne, nai, nae⟩ := st
    obtain ⟨xs, x, hq, hx⟩ := hg
    obtain ⟨its, rv, tp, hz⟩ := I.tuple hq
    obtain ⟨u, hu, ru⟩ := rv.get hx
    have hel : e < s.heap.objs.size := Heap.lt_size he
    have hil : it < s.heap.objs.size := by obtain ⟨_, q, _⟩ := hit; exact Heap.lt_size q
    have lt : i < its.toArray.size := by
      rw [List.size_toArray]
      exact (List.getElem?_eq_some_iff.mp hu).1
    refine wpAny_pyNext_enum_itemD (Draws.tuple (A := X.A.in1) (I.ok.hd hc) it a nai its.toArray) he ⟨hit, tp⟩ lt hne (by simp [hne, Ne.symm nae]) fun x' h' tk hP ho hit' hT hsz hk => ?_
    have ex : x' = u := by
      have : its.toArray[i]? = some u := by simpa using hu
      rw [this] at hP
      exact (Option.some.inj hP).symm
    subst ex
    refine ⟨_, rfl, wpAny_letOwnedTupleGo_enum (s := { s with heap := h', toks := tk + 1 }) ho fun h'' he' sb => ?_⟩
    have hT2 : h''.get? s.heap.objs.size = some { cls := .type "tuple", data := .seq #[.int i tk, x'] } := (sb.2 _ (Nat.ne_of_gt hel)).trans hT
    have new : ObjOk X.prog X.w (upd H s.heap.objs.size (.tup [.int (i : Nat), x])) h'' s.heap.objs.size (.tup [.int (i : Nat), x]) :=
      ⟨by show 2 ≤ sizeLine; decide, [.int i tk, x'], .cons ⟨_, rfl⟩ (.cons ru .nil), ⟨_, hT2, rfl, _, rfl⟩⟩
    have I1 : Inv X pins σ (upd H s.heap.objs.size (.tup [.int (i : Nat), x])) { s with heap := h'', toks := tk + 1 } :=
      I.turnedNew (ch := [e, it]) (fun b ob hb q => (sb.2 b (fun z => hb (by simp [z]))).trans (hk b ob (fun z => hb (by simp [z])) (fun z => hb (by simp [z])) q)) hf (Nat.le_refl _) new
    refine ⟨.ref s.heap.objs.size, _, I1, rfl, ⟨_, x, rfl, I.hok.fresh (Nat.le_refl _), rfl, fun ys hy => by rw [I.tuple_inj hy hq]; exact hx⟩, ⟨⟨x', ?_⟩, hit'.1.at fun o q => (sb.2 it (Ne.symm hne)).trans q, hne, nai, nae⟩, fun b hb => ?_⟩
    · have e1 : ((i + 1 : Nat) : Int) = (i : Int) + 1 := by omega
      rw [e1]; exact he'
    · have hb' : b < s.heap.objs.size := by
        have e' : b = e ∨ b = it := by simpa using hb
        rcases e' with z | z
        · rw [z]; exact hel
        · rw [z]; exact hil
      rw [upd_ne (Nat.ne_of_lt hb')]
      exact (hf b hb).1
  done := by
    intro X hP hw hK hc i pins s σ H E I hf st hg
    subst hP hw hK
    obtain ⟨⟨old, he⟩, hit, hne, nai, nae⟩ := st
    obtain ⟨xs, hq, hx⟩ := hg
    obtain ⟨its, rv, tp, hz⟩ := I.tuple hq
    obtain ⟨f0, f1, f2, f3, f4, f5⟩ := hf it (by simp)
    have hl := rv.length
    exact enum_endT (I.ok.hd hc) he hit tp (by simp; omega) fun h' eb => ⟨rfl, I.turned (t' := s.toks) (fun b o hb q => eb b o hb q) f0 f1 f3 f4 f5⟩
  self := fun A i s Q E st h => let ⟨⟨_, he⟩, _⟩ := st; wpAny_pyIter_enum he h
def iEnumT (K : PySem.W.Frag) (ta : TA) : TI := fun σ H R => ta σ H fun vs H1 => ∃ a xs, vs = [.ref a] ∧ SqT K H1 a xs ∧ R (Ite2 K a) H1
theorem pi_enumT {X : Cx} {e : Expr} {ta : TA} {p pos tpos : Pos} {elts : List Expr} {kk : Nat} (hg : Gl X "enumerate") (hm : X.mg "enumerate" = none) (ha : PA X [e] ta) (hs : starEach [e] X.env = [(false, eval e X.env)] := by rfl) :
    PI X (.Tuple elts kk tpos) (.Call (.Name "enumerate" p) [e] [] pos) (iEnumT X.K ta) := by
  refine ⟨fun pins s σ H R J h => Call_ (ld_blt J hg hm boot_enumerate (PyProof.Rows.callWith_type1 (thn (ha.run pos pins s σ H _ J h) fun us s1 ⟨vs, H1, J1, r1, q1⟩ => ?_) hs rfl))⟩
  obtain ⟨a, xs, rfl, sq, q⟩ := q1
  cases r1 with
  | cons r rr =>
    cases rr
    cases r
    obtain ⟨its, rv, tp, _⟩ := J1.tuple sq
    refine EZ.call_enum tp fun h' h1 h2 keep => wpAny_pyIter_enum h1 ?_
    have J2 : Inv X pins σ H1 { s1 with heap := h' } := J1.kept (t' := s1.toks) keep
    have lt : a < s1.heap.objs.size := by obtain ⟨_, g, _⟩ := tp; exact Heap.lt_size g
    refine ⟨s1.heap.objs.size + 1, [s1.heap.objs.size + 1, s1.heap.objs.size], _, _, H1, rfl, J2, turn_enumT a _ _, ⟨⟨_, h1⟩, h2, Nat.succ_ne_self _, Nat.ne_of_lt lt, Nat.ne_of_lt (Nat.lt_succ_of_lt lt)⟩, fun b hb => ?_, q⟩
    have le : s1.heap.objs.size ≤ b := by
      have z : b = s1.heap.objs.size + 1 ∨ b = s1.heap.objs.size := by simpa using hb
      rcases z with z | z <;> rw [z]
      · exact Nat.le_add_right _ _
      · exact Nat.le_refl _
    exact J1.fpOk le (J1.hok.fresh le)
theorem walk_enumT {K : PySem.W.Frag} {a : Addr} {xs : List V} : Walk (Ite2 K a) xs.length (fun H => SqT K H a xs) (YPair (fun i => some (.int (i : Nat))) (fun i => xs[i]?)) := by
  refine ⟨fun i _ hi q => ⟨xs, xs[i], q, by simp [hi]⟩, fun _ q => ⟨xs, q, Nat.le_refl _⟩, fun i H v H' _ q y => ?_⟩
  obtain ⟨T, x, h1, h2, h3, h4⟩ := y
  exact ⟨T, .int (i : Nat), x, h1, h2, h3, rfl, h4 xs q⟩
section
variable {X : Cx} {B : Hp} {W0 : Wd} {S : En} {pos px p1 p apos cpos : Pos} {Q : D → Prop} {a b c e e2 o elt iter value : Expr} {es : List Expr} {E : Ends'} {x : Str}
/-- for i, x in enumerate(a tuple) -/
theorem sd_forET {elts : List Expr} {kk : Nat} {tpos : Pos} {body : List Stmt} {l : List D} (hp : PassesOwn (model X.prog X.w) X.A X.env X.xe) (hc : X.calm = true) (hm : X.mg "enumerate" = none) (Inv : Nat → En → Prop) (h : AD X B S [e] fun as => as = [.val (.tup l)] ∧ Inv 0 S)
    (hs : ∀ (i : Nat) d S', l[i]? = some d → Inv i S' → GD X B W0 S' (.Tuple elts kk tpos) (.tup [.int (i : Int), d]) fun S2 => SDs X B W0 S2 body { nx := Inv (i + 1), rt := E.rt, bk := E.nx, ct := Inv (i + 1) })
    (hd : ∀ S', Inv l.length S' → E.nx S') (hg : Gl X "enumerate" := by rfl) (hst : starEach [e] X.env = [(false, eval e X.env)] := by rfl) (hf : ∀ x, foldedSetIterable (.Call (.Name "enumerate" p) [e] [] p1) X.env x = pure x := by intro _; rfl) :
    SD X B W0 S (.For (.Tuple elts kk tpos) (.Call (.Name "enumerate" p) [e] [] p1) body [] pos) E := fun σ W H r z D' k => by
  refine PS.w (ps_for hp hc (pi_enumT hg hm wa_pa hst) wg_pg wss_pss hf) ?_
  refine h σ W H r _ fun as vs W1 H1 s1 ok1 n1 q1 => ?_
  obtain ⟨rfl, i0⟩ := q1
  obtain ⟨v, rfl, m⟩ := one_arg n1
  cases m with
  | @tup _ a xs ha m =>
    refine ⟨a, xs, rfl, SqT.of (ok1.ex _ _ ha), for_it walk_enumT (fun i σ' H' => ∃ S' W', Rep X.K (gOf X) B S' σ' W' H' ∧ Stp W0 B W' H' ∧ Ex W1.I W'.I ∧ Inv i S') ⟨S, W1, r.step s1 ok1, z.trans r.ok s1, Ex.refl _, i0⟩
      (fun i σ' H' _ ⟨S', W', r', _, e', _⟩ => SqT.of (r'.ok.ex _ _ (e' _ _ ha))) ?_ ?_⟩
    · rintro i y σ' H' H2 hi ⟨S', W', r', z', e', i'⟩ ⟨T, x1, x2, rfl, hT, rfl, ex1, ex2⟩
      obtain ⟨d, hd', nd⟩ := m.get ex2
      cases ex1
      have st := Stp.new (o := .tup [.int (i : Nat), x2]) r'.ok hT
      have ok2 := r'.ok.new (o := .tup [.int (i : Nat), x2]) hT
      refine hs i d S' hd' i' σ' _ _ _ (r'.step st ok2) (z'.trans r'.ok st) (.tup (show upd W'.I T _ T = _ from upd_same) (.cons (.int _) (.cons ((nd.mono e').mono st.I) .nil))) _ fun S3 σ3 W3 H3 r3 z3 e3 q3 => ?_
      have e4 := (e'.trans st.I).trans e3
      exact q3 σ3 W3 H3 r3 z3 _ ⟨fun S5 σ5 W5 H5 r5 z5 e5 q5 => ⟨S5, W5, r5, z5, e4.trans e5, q5⟩, fun d5 v5 W5 H5 r5 z5 e5 n5 q5 => k.rt d5 v5 W5 H5 r5 z5 ((s1.I.trans e4).trans e5) n5 q5,
        fun S5 σ5 W5 H5 r5 z5 e5 q5 => k.nx S5 σ5 W5 H5 r5 z5 ((s1.I.trans e4).trans e5) q5, fun S5 σ5 W5 H5 r5 z5 e5 q5 => ⟨S5, W5, r5, z5, e4.trans e5, q5⟩⟩
    · rintro σ' H' ⟨S', W', r', z', e', i'⟩
      rw [← m.length] at i'
      exact k.nx S' σ' W' H' r' z' (s1.I.trans e') (hd S' i')
/-- for i, x in enumerate(a list or a tuple) -/
theorem sd_forES {elts : List Expr} {kk : Nat} {tpos : Pos} {body : List Stmt} {l : List D} {d0 : D} (sd : SeqD d0 l) (hp : PassesOwn (model X.prog X.w) X.A X.env X.xe) (hc : X.calm = true) (hm : X.mg "enumerate" = none) (Inv : Nat → En → Prop) (h : AD X B S [e] fun as => as = [.val d0] ∧ Inv 0 S)
    (hs : ∀ (i : Nat) d S', l[i]? = some d → Inv i S' → GD X B W0 S' (.Tuple elts kk tpos) (.tup [.int (i : Int), d]) fun S2 => SDs X B W0 S2 body { nx := Inv (i + 1), rt := E.rt, bk := E.nx, ct := Inv (i + 1) })
    (hd : ∀ S', Inv l.length S' → E.nx S') (hg : Gl X "enumerate" := by rfl) (hst : starEach [e] X.env = [(false, eval e X.env)] := by rfl) (hf : ∀ x, foldedSetIterable (.Call (.Name "enumerate" p) [e] [] p1) X.env x = pure x := by intro _; rfl) :
    SD X B W0 S (.For (.Tuple elts kk tpos) (.Call (.Name "enumerate" p) [e] [] p1) body [] pos) E := by
  rcases sd with rfl | rfl
  · exact sd_forE hp hc hm Inv h hs hd hg hst hf
  · exact sd_forET hp hc hm Inv h hs hd hg hst hf
end
end DL

set_option Elab.async false
set_option linter.all false
set_option maxRecDepth 100000
set_option maxHeartbeats 4000000
/-! k25: Blend -/
namespace K25
open PySem L2 DL
def dgD (n : Nat) (es : List Ent) : D := if es.isEmpty = true then .non else .int (n : Int)
def bf (C : Addr) (z : List Nat) (n : Nat) (es : List Ent) : List (Str × D) := [("_letters", .str (SX.S z)), ("_degree", dgD n es), ("_amounts", .dcT (kvD C es))]
abbrev Bo (C CB : Addr) (z : List Nat) (n : Nat) (es : List Ent) : D := .obj CB (bf C z n es)
section
variable {C : Addr} {z : List Nat} {n : Nat} {es : List Ent}
theorem lkL : (bf C z n es).lookup ("_letters" : Str) = some (.str (SX.S z)) := rfl
theorem lkD : (bf C z n es).lookup ("_degree" : Str) = some (dgD n es) := by
  unfold bf
  rw [List.lookup_cons, show (("_degree" : Str) == ("_letters" : Str)) = false by decide +kernel]
  rfl
theorem lkA : (bf C z n es).lookup ("_amounts" : Str) = some (.dcT (kvD C es)) := by
  unfold bf
  rw [List.lookup_cons, show (("_amounts" : Str) == ("_letters" : Str)) = false by decide +kernel]
  show List.lookup _ (_ :: _) = _
  rw [List.lookup_cons, show (("_amounts" : Str) == ("_degree" : Str)) = false by decide +kernel]
  rfl
theorem lkN {m : Str} (h1 : (m == ("_letters" : Str)) = false) (h2 : (m == ("_degree" : Str)) = false) (h3 : (m == ("_amounts" : Str)) = false) : (bf C z n es).lookup m = none := by
  unfold bf
  rw [List.lookup_cons, h1, List.lookup_cons, h2, List.lookup_cons, h3]
  rfl
theorem dgD_ne (h : es ≠ []) : dgD n es = .int (n : Int) := by
  unfold dgD
  rw [if_neg (by cases es with
    | nil => exact absurd rfl h
    | cons _ _ => simp)]
end
section
variable {P : Program} {w : World} {K : PySem.W.Frag} {mg : Str → Option Value} {base : Heap} {C CB : Addr}
section
variable {X : Cx} {B : Hp} {S : En} {pos : Pos} {Q : D → Prop} {o : Expr} {z : List Nat} {n : Nat} {es : List Ent}
theorem fL (T : Tb X.K X.mg C CB) (h : ED X B S o fun x => x = Bo C CB z n es ∧ Q (.str (SX.S z))) (hb : attributeBase o "_letters" X.env (eval o X.env) = eval o X.env := by rfl) : ED X B S (.Attribute o "_letters" pos) Q :=
  ed_fld T.nu.cl T.nL (fun σ W H r R c => h σ W H r R fun d v W' H' s ok n' ⟨e, q⟩ => c d v W' H' s ok n' ⟨bf C z n es, _, e, lkL, q⟩) hb
theorem fD (T : Tb X.K X.mg C CB) (h : ED X B S o fun x => x = Bo C CB z n es ∧ Q (dgD n es)) (hb : attributeBase o "_degree" X.env (eval o X.env) = eval o X.env := by rfl) : ED X B S (.Attribute o "_degree" pos) Q :=
  ed_fld T.nu.cl T.nD (fun σ W H r R c => h σ W H r R fun d v W' H' s ok n' ⟨e, q⟩ => c d v W' H' s ok n' ⟨bf C z n es, _, e, lkD, q⟩) hb
theorem fA (T : Tb X.K X.mg C CB) (h : ED X B S o fun x => x = Bo C CB z n es ∧ Q (.dcT (kvD C es))) (hb : attributeBase o "_amounts" X.env (eval o X.env) = eval o X.env := by rfl) : ED X B S (.Attribute o "_amounts" pos) Q :=
  ed_fld T.nu.cl T.nA (fun σ W H r R c => h σ W H r R fun d v W' H' s ok n' ⟨e, q⟩ => c d v W' H' s ok n' ⟨bf C z n es, _, e, lkA, q⟩) hb
end
abbrev spB1 (C CB : Addr) (f : List Nat → Nat → List Ent → D) : SpD := fun as Q => ∃ z n es, as = [.val (Bo C CB z n es)] ∧ Q (f z n es)
theorem sc_letters : FnScope ["self"] ["self"] (defScope (ble 1)) := ⟨rfl, rfl, rfl, by decide +kernel, rfl, by decide +kernel, by decide +kernel⟩
theorem ok_letters {f : Addr} {fd : FuncData} (F : FunS K "letters" "Blend.letters" (ble 1) f fd) (T : Tb K mg C CB) : GnOk P w K mg base 1 f fd ["self"] (lift K (spB1 C CB fun z _ _ => .str (SX.S z))) := by
  refine gn_dl F sc_letters (fun as Q h => by obtain ⟨_, _, _, rfl, _⟩ := h; rfl) (fun cdv A outer s H hr hG W as Q h => ?_)
  obtain ⟨z, n, es, rfl, q⟩ := h
  exact sds_cons (sd_ret (fL T (nm 0 ⟨rfl, q⟩)))
theorem sc_degree : FnScope ["self"] ["self"] (defScope (ble 2)) := ⟨rfl, rfl, rfl, by decide +kernel, rfl, by decide +kernel, by decide +kernel⟩
theorem ok_degree {f : Addr} {fd : FuncData} (F : FunS K "degree" "Blend.degree" (ble 2) f fd) (T : Tb K mg C CB) : GnOk P w K mg base 1 f fd ["self"] (lift K (spB1 C CB fun _ n es => dgD n es)) := by
  refine gn_dl F sc_degree (fun as Q h => by obtain ⟨_, _, _, rfl, _⟩ := h; rfl) (fun cdv A outer s H hr hG W as Q h => ?_)
  obtain ⟨z, n, es, rfl, q⟩ := h
  exact sds_cons (sd_ret (fD T (nm 0 ⟨rfl, q⟩)))
theorem sc_nought : FnScope ["self"] ["self"] (defScope (ble 3)) := ⟨rfl, rfl, rfl, by decide +kernel, rfl, by decide +kernel, by decide +kernel⟩
theorem ok_nought {f : Addr} {fd : FuncData} (F : FunS K "is_nought" "Blend.is_nought" (ble 3) f fd) (T : Tb K mg C CB) : GnOk P w K mg base 1 f fd ["self"] (lift K (spB1 C CB fun _ _ es => .bl es.isEmpty)) := by
  refine gn_dl F sc_nought (fun as Q h => by obtain ⟨_, _, _, rfl, _⟩ := h; rfl) (fun cdv A outer s H hr hG W as Q h => ?_)
  obtain ⟨z, n, es, rfl, q⟩ := h
  refine sds_cons (sd_ret (ed_cmp (fD T (nm 0 ⟨rfl, ed_non (od_isN ?_)⟩))))
  cases es with
  | nil => exact q
  | cons _ _ => exact q
/-! entries -/
abbrev spEnts (C CB : Addr) : SpD := fun as Q => ∃ z n es, as = [.val (Bo C CB z n es)] ∧ (es.map (·.1)).Nodup ∧ es.length ≤ 200 ∧ Q (.lst (enD C es))
theorem sc_entries : FnScope ["self", "counts"] ["self"] (defScope (ble 5)) := ⟨rfl, rfl, rfl, by decide +kernel, rfl, by decide +kernel, by decide +kernel⟩
theorem ok_entries {f : Addr} {fd : FuncData} (F : FunS K "entries" "Blend.entries" (ble 5) f fd) (T : Tb K mg C CB) : GnOk P w K mg base 1 f fd ["self"] (lift K (spEnts C CB)) := by
  refine gn_dl F sc_entries (fun as Q h => by obtain ⟨_, _, _, rfl, _⟩ := h; rfl) (fun cdv A outer s H hr hG W as Q h => ?_)
  obtain ⟨z, n, es, rfl, nde, hl, q⟩ := h
  have nd := sc_entries.nd
  refine sds_cons (sd_ret (ed_fd (fd_lcK (kvs := kvD C es) (fun i acc => acc = enD C (es.take i)) (fun d => itE [some (.val (Bo C CB z n es)), none] [("counts", 1)] 1 d) rfl nd (blkOk_by (by show blkC ["self", "counts"] (defScope (ble 5)) _ _ = true; decide +kernel)) (fun _ _ _ _ _ => pg_name (i := 1) nd rfl (Or.inl rfl)) (fA T (nm 0 ⟨rfl, rfl, by rw [kvD_len]; omega, rfl⟩)) (fun d => pat_name 1 (by simp)) ?_ ?_)))
  · rintro i k d acc hi hacc rfl s2 H0 C2 cl fp
    have hi' : (es.map fun e => (ik e.1, Ra C (fr e.2)))[i]? = some (k, d) := hi
    rw [List.getElem?_map] at hi'
    cases e : es[i]? with
    | none => rw [e] at hi'; cases hi'
    | some x =>
      rw [e] at hi'
      cases hi'
      rw [tD_ik]
      refine ed_tup (ad_cons (nm 1 (ad_cons (ed_dget (un1 hr) (fA T (nm 0 ⟨rfl, nm 1 ⟨_, ik x.1, _, rfl, (tD_ik _).symm, look_kvD nde (List.mem_of_getElem? e), ad_nil ⟨[tI x.1, Ra C (fr x.2)], rfl, by simp, ?_⟩⟩⟩))))))
      rw [enD_snoc e]
  · rintro acc hacc rfl
    rw [kvD_len, List.take_length]
    exact q
/-! == -/
section
variable {X : Cx} {z : List Nat} {n : Nat} {es : List Ent}
theorem rcR_kv (L : Lv X.prog X.w X.K X.mg X.base C) (nde : (es.map (·.1)).Nodup) : RcR X 2 (.dcT (kvD C es)) (.dcT (kvD C es)) := rcR_dct rfl fun k d h => by
  unfold kvD at h
  obtain ⟨e, he, q⟩ := List.mem_map.mp h
  cases q
  exact ⟨_, look_kvD nde he, eqR_Ra L e.2⟩
end
abbrev spBEq (C CB : Addr) : SpD := fun as Q => ∃ z n es, as = [.val (Bo C CB z n es), .val (Bo C CB z n es)] ∧ (es.map (·.1)).Nodup ∧ Q (.bl true)
theorem sc_beq : FnScope ["self", "other"] ["self", "other"] (defScope (ble 10)) := ⟨rfl, rfl, rfl, by decide +kernel, rfl, by decide +kernel, by decide +kernel⟩
theorem ok_beq {f : Addr} {fd : FuncData} (F : FunS K "__eq__" "Blend.__eq__" (ble 10) f fd) (T : Tb K mg C CB) (L : Lv P w K mg base C) : GnOk P w K mg base 4 f fd ["self", "other"] (lift K (spBEq C CB)) := by
  refine gn_dl F sc_beq (fun as Q h => by obtain ⟨_, _, _, rfl, _⟩ := h; rfl) (fun cdv A outer s H hr hG W as Q h => ?_)
  obtain ⟨z, n, es, rfl, nde, q⟩ := h
  refine sds_cons (sd_ret (ed_and (ed_callB T.T.isi (ad_cons (nm 1 (ad_cons (ed_cls T.mB (ad_nil (cd_isi (.obj _ T.is) (.cls _) (same (beq_self_eq_true _)) (kB ?_))))))))))
  show ED _ _ _ _ _
  refine ed_and (ed_cmp (fL T (nm 0 ⟨rfl, fL T (nm 1 ⟨rfl, od_eqs (kB ?_)⟩)⟩)))
  rw [decide_eq_true rfl]
  show ED _ _ _ _ _
  exact ed_one (ed_cmp (fA T (nm 0 ⟨rfl, fA T (nm 1 ⟨rfl, od_eqR (rcR_kv L nde) (hr.mono (j := 2) (by decide)) hG q⟩)⟩)))
/-! check_blend -/
abbrev spCk (C CB : Addr) : SpD := fun as Q => ∃ z n es, as = [.val (Bo C CB z n es)] ∧ Q .non
theorem sc_ck : FnScope ["blend"] ["blend"] (defScope (top 35)) := ⟨rfl, rfl, rfl, by decide +kernel, rfl, by decide +kernel, by decide +kernel⟩
theorem ok_ck {f : Addr} {fd : FuncData} (F : FunS K "check_blend" "check_blend" (top 35) f fd) (T : Tb K mg C CB) : GnOk P w K mg base 1 f fd ["blend"] (lift K (spCk C CB)) := by
  refine gn_dl F sc_ck (fun as Q h => by obtain ⟨_, _, _, rfl, _⟩ := h; rfl) (fun cdv A outer s H hr hG W as Q h => ?_)
  obtain ⟨z, n, es, rfl, q⟩ := h
  refine sds_cons (sd_if (td_not (td_val (ed_callB T.T.isi (ad_cons (nm 0 (ad_cons (ed_cls T.mB (ad_nil (cd_isi (.obj _ T.is) (.cls _) (same (beq_self_eq_true _)) (kB ?_)))))))))))
  exact sds_nil (sds_nil q)
/-! is_list, also of the empty default -/
abbrev spLK (K : PySem.W.Frag) : SpD := fun as Q => ∃ d, as = [.val d] ∧ ((∃ l, d = .lst l ∨ d = .tup l) ∨ ∃ a, d = .cls a ∧ EmpT K a) ∧ Q (.bl true)
theorem ok_islistK {f : Addr} {fd : FuncData} (F : FunS K "is_list" "is_list" sIsList f fd) (T : Txt K mg C) : GnOk P w K mg base 1 f fd ["value"] (lift K (spLK K)) := by
  refine gn_dl F sc_islist (fun as Q h => by obtain ⟨_, rfl, _⟩ := h; rfl) (fun cdv A outer s H hr hG W as Q h => ?_)
  obtain ⟨d, rfl, hd, q⟩ := h
  refine sds_cons (sd_ret (ed_callB T.isi (ad_cons (nm 0 (ad_cons (ed_tup (ad_cons (ed_ty T.list (ad_cons (ed_ty T.tuple (ad_nil ⟨[.ty "list", .ty "tuple"], rfl, by decide, ad_nil ?_⟩)))))))))))
  rcases hd with ⟨l, rfl | rfl⟩ | ⟨a, rfl, em⟩
  · exact cd_isi2 (.lst l) (.ty _) (.ty _) T.l1 q
  · exact cd_isi2 (.tup l) (.ty _) (.ty _) T.l2 q
  · exact cd_isiK em (.ty _) (.ty _) T.l2 q
/-! Blend(letters, entries) -/
def EntD (C : Addr) (b : Nat) (x : D) (e : Ent) : Prop := ∃ kd ad, x = .tup [kd, ad] ∧ SeqD kd (e.1.map D.int) ∧ Nq C b ad e.2
theorem paired_get {α β : Type} {R : α → β → Prop} : ∀ {l : List α} {m : List β} {i : Nat} {x : α}, Paired R l m → l[i]? = some x → ∃ y, m[i]? = some y ∧ R x y
  | _, _, _, _, .nil, e => by simp at e
  | _, _, 0, _, .cons h _, e => by cases e; exact ⟨_, rfl, h⟩
  | _, _, i + 1, _, .cons _ t, e => paired_get (i := i) t e
abbrev spBl (K : PySem.W.Frag) (C : Addr) : SpI := fun as Q => (∃ z, ∃ m n b : Nat, ∃ es xs d0, as = [.val (.str (SX.S z)), .val d0] ∧ SeqD d0 xs ∧ LetZ z ∧ z.length = m ∧ n ≤ 8 ∧ b ≤ 1000 ∧ GE m n b es ∧ Paired (EntD C b) xs es ∧ Q (bf C z n (srt es))) ∨
  (∃ z a, as = [.val (.str (SX.S z)), .val (.cls a)] ∧ LetZ z ∧ EmpT K a ∧ ∀ n, Q (bf C z n []))
theorem cd_tupleS {X : Cx} {Q : D → Prop} {d : D} {l : List D} (sd : SeqD d l) (q : Q (.tup l)) : CD X (.type "tuple") [.val d] Q := by
  rcases sd with rfl | rfl
  · exact cd_tuple q
  · exact cd_tupleT q
abbrev NB : List Str := ["self", "letters", "entries", "amounts", "degree", "position", "entry", "counts"]
theorem sc_binit : FnScope NB ["self", "letters", "entries"] (defScope (ble 0)) := ⟨rfl, rfl, rfl, by decide +kernel, rfl, by decide +kernel, by decide +kernel⟩
theorem dg_take {n : Nat} {es : List Ent} {i : Nat} {e : Ent} (h : es[i]? = some e) : dgD n (es.take (i + 1)) = .int (n : Int) := dgD_ne fun z => by
  rw [List.take_add_one, h] at z
  simp at z
/-- what stands behind the loop -/
theorem binit_end {f : Addr} {cdv : Value} {A : Around} {outer : List Env} {s : Shared} {H B : Hp} {W : Wd} {Q : List (Str × D) → Prop} {p dx : Addr} {z : List Nat} {m n b : Nat} {es : List Ent} {d2 : D} {o5 o6 : Option Sl} (T : Tb K mg C CB)
    (hr : Room 6 (A.deeper (PyProof.Rows.envOfC "Blend.__init__" (defScope (ble 0)) s.heap.objs.size f cdv))) (hz : LetZ z) (hm : z.length = m) (hn : n ≤ 8) (ge : GE m n b es) (n5 : notInst o5 = true) (n6 : notInst o6 = true) (q : Q (bf C z n (srt es))) :
    SDs (Bx P w K mg base NB "Blend.__init__" (ble 0) f cdv A outer s H) B W [some (.inst CB p dx []), some (.val (.str (SX.S z))), some (.val d2), some (.ownT (kvD C es)), some (.val (dgD n es)), o5, o6, none] ((defBody (ble 0)).drop 5) { nx := fun S' => ∃ fs, S'[0]? = some (some (.inst CB p dx fs)) ∧ Q fs, rt := fun _ => False } := by
  have nd := sc_binit.nd
  obtain ⟨tk, me⟩ := T.me
  refine sds_frzT 3 _ rfl ?_
  refine sds_cons (sd_if (td_cmp (ed_callB T.T.len (ad_cons (nm 3 (ad_nil (cd_lenT (ed_gint me (od_gt (kB ?_))))))))))
  rw [decide_eq_false (by rw [kvD_len]; have := ge.ln; omega)]
  refine sds_nil ?_
  refine sds_cons (sd_fld 0 [] T.nu.cl T.nL rfl rfl (by decide) (by simp [notInst, List.all_cons]; exact ⟨n5, n6⟩) (nm 1 ?_))
  refine sds_cons (sd_fld 0 _ T.nu.cl T.nD rfl rfl (by simp [putD]) (by simp [notInst, List.all_cons]; exact ⟨n5, n6⟩) (nm 4 ?_))
  have ed : dgD n es = dgD n (srt es) := by
    unfold dgD
    have : es.isEmpty = (srt es).isEmpty := by
      rw [Bool.eq_iff_iff, List.isEmpty_iff_length_eq_zero, List.isEmpty_iff_length_eq_zero, (srt_perm es).length_eq]
    rw [this]
  have m1 : 1 ≤ m := by rw [← hm]; exact hz.l1
  refine sds_cons (sd_fld 0 _ T.nu.cl T.nA rfl rfl (by simp [putD]; split <;> simp) (by simp [notInst, List.all_cons]; exact ⟨n5, n6⟩) (ed_ft (ft_dcL (l := ((srt es).map (·.1)).map tI) (fun i acc => acc = kvD C ((srt es).take i)) (fun d => itE _ [("counts", 7)] 7 d) rfl (un1 hr) nd (blkOk_by (by show blkC NB (defScope (ble 0)) _ _ = true; decide +kernel)) (fun _ _ _ _ _ => pg_name (i := 7) nd rfl (Or.inl rfl)) (ed_callB T.sorted (ad_cons (nm 3 (ad_nil (cd_sortKb rfl (un100 hr) (dd := m) (B := 9) (ls := es.map (·.1)) m1 kvD_keys (by rw [List.length_map]; have := ge.ln; omega) ?_ ?_))))) (fun d _ => pat_name 7 (by simp)) ?_ ?_)))
  · intro l hl
    obtain ⟨e, he, rfl⟩ := List.mem_map.mp hl
    exact ⟨ge.len e he, ge.bd hn he⟩
  · intro ls' pm pw
    refine ⟨by rw [keys_srt ge hn pm pw], by rw [List.length_map, List.length_map, (srt_perm es).length_eq]; have := ge.ln; omega, rfl⟩
  · rintro i d acc hi rfl s2 H0 C2 cl fp
    rw [List.getElem?_map, List.getElem?_map] at hi
    cases e : (srt es)[i]? with
    | none => rw [e] at hi; cases hi
    | some x =>
      rw [e] at hi
      cases hi
      have mx := (srt_perm es).mem_iff.mp (List.mem_of_getElem? e)
      refine nm 7 ⟨ik x.1, (tD_ik _).symm, fun s3 H3 C3 cl3 fp3 => ed_dget (un1 hr) (nm 3 (nm 7 ⟨_, ik x.1, _, rfl, (tD_ik _).symm, look_kvD ge.nd mx, ?_⟩))⟩
      have fs := fresh (srt_ge ge).nd e
      rw [put_kvD fs, List.take_add_one, e]
      rfl
  · rintro acc rfl
    refine sds_nil ⟨_, rfl, ?_⟩
    rw [List.length_map, List.length_map, List.take_length, ed]
    have e1 : putD "_amounts" (D.dcT (kvD C (srt es))) (putD "_degree" (dgD n (srt es)) (putD "_letters" (D.str (SX.S z)) [])) = bf C z n (srt es) := by
      show putD _ _ (if ("_letters" : Str) = "_degree" then _ else (("_letters" : Str), D.str _) :: [(("_degree" : Str), dgD n (srt es))]) = _
      rw [if_neg (by decide +kernel)]
      show (if ("_letters" : Str) = "_amounts" then _ else (("_letters" : Str), D.str _) :: (if ("_degree" : Str) = "_amounts" then _ else (("_degree" : Str), dgD n (srt es)) :: [(("_amounts" : Str), D.dcT (kvD C (srt es)))])) = _
      rw [if_neg (by decide +kernel), if_neg (by decide +kernel)]
      rfl
    rw [e1]
    exact q
end
end K25

set_option Elab.async false
set_option linter.all false
set_option maxRecDepth 100000
set_option maxHeartbeats 4000000
/-! k25: a Blend made; normal, abnormal -/
namespace K25
open PySem L2 DL
section
variable {P : Program} {w : World} {K : PySem.W.Frag} {mg : Str → Option Value} {base : Heap} {C CB : Addr}
theorem dg_or (n : Nat) (es : List Ent) : dgD n es = .non ∨ dgD n es = .int (n : Int) := by
  unfold dgD
  split
  · exact .inl rfl
  · exact .inr rfl
theorem ok_binit {f : Addr} {fd : FuncData} (F : FunS K "__init__" "Blend.__init__" (ble 0) f fd) (T : Tb K mg C CB) (R : Df P w K mg base "ratio_of" 4 1 (spRat C)) (LE : Df P w K mg base "is_letters" 2 1 spLet) (IL : Df P w K mg base "is_list" 1 1 (spLK K)) (EN : Df P w K mg base "_is_entry" 6 3 (spEntry C)) : GnOk P w K mg base 7 f fd ["self", "letters", "entries"] (liftI K CB (spBl K C)) := by
  refine init_dl F sc_binit (fun as Q h => by rcases h with ⟨_, _, _, _, _, _, _, rfl, _⟩ | ⟨_, _, rfl, _⟩ <;> rfl) (fun cdv A outer s H hr hG W B as Q p dx h => ?_)
  have nd := sc_binit.nd
  rcases h with ⟨z, m, n, b, es, xs, d0, rfl, sd0, hz, hm, hn, hb, ge, pe, q⟩ | ⟨z, a, rfl, hz, em, q⟩
  · refine sds_cons (sd_if (td_not (td_val (ed_call LE (hr.mono (j := 2) (by decide)) hG (ad_cons (nm 1 (ad_nil ⟨z, rfl, hz, kB ?_⟩)))))))
    refine sds_nil (sds_cons (sd_if (td_not (td_val (ed_call IL (hr.mono (j := 1) (by decide)) hG (ad_cons (nm 2 (ad_nil ⟨_, rfl, .inl ⟨xs, sd0⟩, kB ?_⟩))))))))
    refine sds_nil (sds_cons (sd_newT 3 nd rfl (sds_cons (sd_set 4 nd rfl (ed_non ?_)))))
    have lx : xs.length = es.length := Paired.length pe
    have hl : ((SX.S z).length : Int) = (m : Int) := by rw [SX.S_len, hm]
    refine sds_cons (sd_forES (l := xs) sd0 PassesOwn.never rfl T.enum (fun i S' => ∃ o5 o6, notInst o5 = true ∧ notInst o6 = true ∧ S' = [some (.inst CB p dx []), some (.val (.str (SX.S z))), some (.val d0), some (.ownT (kvD C (es.take i))), some (.val (dgD n (es.take i))), o5, o6, none]) (ad_cons (nm 2 (ad_nil ⟨rfl, none, none, rfl, rfl, rfl⟩))) ?_ ?_)
    · rintro i d S' hi ⟨o5, o6, n5, n6, rfl⟩
      obtain ⟨e, he, kd, ad, rfl, sd, na⟩ := paired_get pe hi
      have me := List.mem_of_getElem? he
      have li : i < es.length := (List.getElem?_eq_some_iff.mp he).1
      have fs := fresh ge.nd he
      have ln := ge.ln
      refine gd_tup rfl (gds_cons (gd_name 5 nd rfl (gds_cons (gd_name 6 nd rfl (gds_nil ?_))))) rfl
      refine sds_cons (sd_if (td_of (tw_or (td_not (td_val (ed_call EN (hr.mono (j := 6) (by decide)) hG (ad_cons (nm 6 (ad_cons (ed_callB T.T.len (ad_cons (nm 1 (ad_nil (cd_lenS (z := SX.S z) (by rw [SX.S_len]; have := hz.l8; omega) (ad_cons (nm 4 (ad_nil ⟨kd, e.1, ad, e.2, m, dgD n (es.take i), by rw [hl], sd, ge.len e me, by have := hz.l8; omega, ge.nn e me, by rw [ge.sum e me]; omega, na.mono hb, ge.pos e me, by rw [ge.sum e me]; exact dg_or n (es.take i), kB ?_⟩)))))))))))))))))
      show TW _ _ _ _ _
      refine tw_or1 (td_inT 3 (kvD C (es.take i)) (un1 hr) rfl rfl (ed_callTy T.T.tuple (ad_cons (ed_ix (nm 6 (ed_int ⟨_, 0, kd, .inr rfl, rfl, rfl, ad_nil (cd_tupleS sd ⟨ik e.1, (tD_ik _).symm, ?_⟩)⟩))))))
      rw [look_no fs]
      show SDs _ _ _ _ _ _
      refine sds_nil (sds_cons (sd_putT 3 (kvD C (es.take i)) (un1 hr) rfl rfl (by rw [kvD_len, List.length_take]; omega) (ed_call R (hr.mono (j := 4) (by decide)) hG (ad_cons (ed_ix (nm 6 (ed_int ⟨_, 1, ad, .inr rfl, rfl, rfl, ad_nil ⟨ad, _, rfl, (na.mono (by omega)).nr, ed_callTy T.T.tuple (ad_cons (ed_ix (nm 6 (ed_int ⟨_, 0, kd, .inr rfl, rfl, rfl, ad_nil (cd_tupleS sd ⟨ik e.1, (tD_ik _).symm, ?_⟩)⟩))))⟩⟩)))))))
      refine sds_cons (sd_set 4 nd rfl (ed_callB T.sum (ad_cons (ed_ix (nm 6 (ed_int ⟨_, 0, kd, .inr rfl, rfl, rfl, ad_nil (cd_sumS rfl sd ?_)⟩))))))
      refine sds_nil ⟨some (.val (.int (i : Int))), some (.val (.tup [kd, ad])), rfl, rfl, ?_⟩
      rw [put_kvD fs, dg_take he, ge.sum e me, List.take_add_one, he]
      rfl
    · rintro S' ⟨o5, o6, n5, n6, rfl⟩
      rw [lx, List.take_length]
      exact binit_end T hr hz hm hn ge n5 n6 q
  · refine sds_cons (sd_if (td_not (td_val (ed_call LE (hr.mono (j := 2) (by decide)) hG (ad_cons (nm 1 (ad_nil ⟨z, rfl, hz, kB ?_⟩)))))))
    refine sds_nil (sds_cons (sd_if (td_not (td_val (ed_call IL (hr.mono (j := 1) (by decide)) hG (ad_cons (nm 2 (ad_nil ⟨_, rfl, .inr ⟨a, rfl, em⟩, kB ?_⟩))))))))
    refine sds_nil (sds_cons (sd_newT 3 nd rfl (sds_cons (sd_set 4 nd rfl (ed_non ?_)))))
    refine sds_cons (sd_forEnK em PassesOwn.never rfl T.enum (ad_cons (nm 2 (ad_nil ⟨rfl, ?_⟩))))
    exact binit_end (es := []) (n := 0) (b := 0) T hr hz rfl (by decide) GE.nil rfl rfl (by rw [srt_nil]; exact q 0)
structure Bt (P : Program) (w : World) (K : PySem.W.Frag) (mg : Str → Option Value) (base : Heap) (C CB : Addr) : Prop where
  T : Tb K mg C CB
  L : Lv P w K mg base C
  mkA : Kl P w K mg base "Blend" CB 7 [] (spBl K C)
  mk0 : ∃ a, EmpT K a ∧ Kl P w K mg base "Blend" CB 7 [.cls a] (spBl K C)
  letters : Pr P w K mg base CB "letters" 1 (spB1 C CB fun z _ _ => .str (SX.S z))
  degree : Pr P w K mg base CB "degree" 1 (spB1 C CB fun _ n es => dgD n es)
  nought : Pr P w K mg base CB "is_nought" 1 (spB1 C CB fun _ _ es => .bl es.isEmpty)
  entries : Mt P w K mg base CB "entries" 1 (spEnts C CB)
  beq : Sm P w K mg base CB "__eq__" 4 (spBEq C CB)
  ck : Df P w K mg base "check_blend" 1 1 (spCk C CB)
section
variable {X : Cx} {B : Hp} {S : En} {pos apos : Pos} {Q : D → Prop} {o : Expr} {z : List Nat} {n m b : Nat} {es : List Ent}
theorem pL (V : Bt X.prog X.w X.K X.mg X.base C CB) (hr : Room 2 X.A) (hG : X.A.guards = some (gOf X)) (h : ED X B S o fun x => x = Bo C CB z n es ∧ Q (.str (SX.S z))) (hb : attributeBase o "letters" X.env (eval o X.env) = eval o X.env := by rfl) : ED X B S (.Attribute o "letters" pos) Q :=
  ed_prop V.T.nu.cl V.letters hr hG (fun σ W H r R c => h σ W H r R fun d v W' H' s ok n' ⟨e, q⟩ => c d v W' H' s ok n' ⟨bf C z n es, e, z, n, es, by rw [e], q⟩) hb
theorem mE {pl : Sem Bool} (V : Bt X.prog X.w X.K X.mg X.base C CB) (ge : GE m n b es) (hr : Room 1 X.A) (hG : X.A.guards = some (gOf X)) (h : ED X B S o fun x => x = Bo C CB z n es ∧ Q (.lst (enD C es)))
    (ht : eval (.Call (.Attribute o "entries" apos) [] [] pos) X.env = (do
      let ov ← eval o X.env
      standAt apos.atName
      let (f, first) ← holding [ov] (getMethod ov "entries" pl)
      callWith pos f first (backTo pos (starEach [] X.env)) (backToKw pos (keywordEach [] X.env))) := by rfl) : ED X B S (.Call (.Attribute o "entries" apos) [] [] pos) Q :=
  ed_meth0 V.T.nu.cl V.entries hr hG (fun σ W H r R c => h σ W H r R fun d v W' H' s ok n' ⟨e, q⟩ => c d v W' H' s ok n' ⟨bf C z n es, e, lkN (by decide +kernel) (by decide +kernel) (by decide +kernel), z, n, es, by rw [e], ge.nd, ge.ln, q⟩) ht
end
structure Okb (z : List Nat) (m n b : Nat) (es : List Ent) : Prop where
  hz : LetZ z
  hm : z.length = m
  hn : n ≤ 8
  hb : b ≤ 800
  ge : GE m n b es
  so : srt es = es
abbrev spNorm (C CB : Addr) (g : Ent → Ent) : SpD := fun as Q => ∃ z, ∃ m n b : Nat, ∃ es, as = [.val (Bo C CB z n es)] ∧ Okb z m n b es ∧ Q (Bo C CB z n (es.map g))
end
end K25

set_option Elab.async false
set_option linter.all false
set_option maxRecDepth 100000
set_option maxHeartbeats 4000000
/-! k25: amount, +, scaled -/
namespace K25
open PySem L2 DL
section
variable {P : Program} {w : World} {K : PySem.W.Frag} {mg : Str → Option Value} {base : Heap} {C CB : Addr}
/-! the amount at a key -/
def amt (es : List Ent) (k : List Int) : Rat := ((es.find? fun e => decide (e.1 = k)).map (·.2)).getD 0
theorem amt_look {es : List Ent} (k : List Int) : (look (kvD C es) (ik k)).getD (Ra C (fr 0)) = Ra C (fr (amt es k)) := by
  unfold amt look kvD
  rw [List.find?_map]
  have e : ((fun kv : List Key × D => decide (kv.1 = ik k)) ∘ fun e : Ent => (ik e.1, Ra C (fr e.2))) = fun e : Ent => decide (e.1 = k) := funext fun e => by
    show decide (ik e.1 = ik k) = decide (e.1 = k)
    by_cases h : e.1 = k
    · rw [decide_eq_true h, decide_eq_true (by rw [h])]
    · rw [decide_eq_false h, decide_eq_false fun z => h (ik_inj z)]
  rw [e]
  cases es.find? fun e => decide (e.1 = k) with
  | none => rfl
  | some x => rfl
abbrev spAmount (C CB : Addr) : SpD := fun as Q => ∃ z n es kd, ∃ k : List Int, as = [.val (Bo C CB z n es), .val kd] ∧ SeqD kd (k.map D.int) ∧ k.length = z.length ∧ z.length ≤ 8 ∧ (∀ c ∈ k, (0 : Int) ≤ c) ∧ Q (Ra C (fr (amt es k)))
theorem sc_amount : FnScope ["self", "counts"] ["self", "counts"] (defScope (ble 6)) := ⟨rfl, rfl, rfl, by decide +kernel, rfl, by decide +kernel, by decide +kernel⟩
theorem ok_amount {f : Addr} {fd : FuncData} (F : FunS K "amount" "Blend.amount" (ble 6) f fd) (V : Bt P w K mg base C CB) (CO : Df P w K mg base "is_counts" 3 2 spCounts) : GnOk P w K mg base 4 f fd ["self", "counts"] (lift K (spAmount C CB)) := by
  refine gn_dl F sc_amount (fun as Q h => by obtain ⟨_, _, _, _, _, rfl, _⟩ := h; rfl) (fun cdv A outer s H hr hG W as Q h => ?_)
  obtain ⟨z, n, es, kd, k, rfl, sd, hl, h8, nn, q⟩ := h
  have T := V.T
  have hz : ((SX.S z).length : Int) = (z.length : Int) := by rw [SX.S_len]
  refine sds_cons (sd_if (td_not (td_val (ed_call CO (hr.mono (j := 3) (by decide)) hG (ad_cons (nm 1 (ad_cons (ed_callB T.T.len (ad_cons (fL T (nm 0 ⟨rfl, ad_nil (cd_lenS (z := SX.S z) (by rw [SX.S_len]; omega) (ad_nil ⟨kd, k, z.length, by rw [hz], sd, hl, by omega, nn, kB ?_⟩))⟩)))))))))))
  refine sds_nil (sds_cons (sd_ret (ed_get2 (un1 hr) (fA T (nm 0 ⟨rfl, _, rfl, ed_callTy T.T.tuple (ad_cons (nm 1 (ad_nil (cd_tupleS sd (ed_make V.L.V.mk1 (hr.mono (j := 3) (by decide)) hG (ad_cons (ed_int (ad_nil (mk_ok (n := 1) (by decide) (by decide) (by decide) (by decide) ⟨ik k, (tD_ik _).symm, ?_⟩)))))))))⟩)))))
  rw [low_one]
  show Q ((look (kvD C es) (ik k)).getD (Ra C (fr 0)))
  rw [amt_look]
  exact q
/-! gathered, keys more than once -/
def insE (acc : List Ent) (p : Ent) : List Ent := if p.1 ∈ acc.map (·.1) then acc.map (fun e => if e.1 = p.1 then (e.1, e.2 + p.2) else e) else acc ++ [p]
def gath (ps : List Ent) : List Ent := ps.foldl insE []
theorem insE_keys {acc : List Ent} {p : Ent} : (insE acc p).map (·.1) = if p.1 ∈ acc.map (·.1) then acc.map (·.1) else acc.map (·.1) ++ [p.1] := by
  unfold insE
  split
  · rw [List.map_map]
    refine List.map_congr_left fun e _ => ?_
    show (if e.1 = p.1 then (e.1, e.2 + p.2) else e).1 = e.1
    split <;> rfl
  · rw [List.map_append]; rfl
theorem insE_nd {acc : List Ent} {p : Ent} (h : (acc.map (·.1)).Nodup) : ((insE acc p).map (·.1)).Nodup := by
  rw [insE_keys]
  split
  · exact h
  · rename_i c
    rw [List.nodup_append]
    exact ⟨h, by simp, fun a ha b hb z => by rw [List.mem_singleton] at hb; rw [z, hb] at ha; exact c ha⟩
theorem insE_len {acc : List Ent} {p : Ent} : (insE acc p).length ≤ acc.length + 1 := by
  unfold insE
  split
  · rw [List.length_map]; omega
  · rw [List.length_append, List.length_singleton]; omega
theorem gath_snoc {ps : List Ent} {i : Nat} {p : Ent} (h : ps[i]? = some p) : gath (ps.take (i + 1)) = insE (gath (ps.take i)) p := by
  unfold gath
  rw [List.take_add_one, h, List.foldl_append]
  rfl
theorem gath_nd : ∀ {ps : List Ent} (i : Nat), ((gath (ps.take i)).map (·.1)).Nodup ∧ (gath (ps.take i)).length ≤ i
  | ps, 0 => by rw [List.take_zero]; exact ⟨.nil, Nat.le_refl _⟩
  | ps, i + 1 => by
    obtain ⟨h1, h2⟩ := gath_nd (ps := ps) i
    cases e : ps[i]? with
    | none =>
      have l := List.getElem?_eq_none_iff.mp e
      have z : ps.take (i + 1) = ps.take i := by rw [List.take_of_length_le (by omega : ps.length ≤ i + 1), List.take_of_length_le l]
      rw [z]
      exact ⟨h1, by omega⟩
    | some p =>
      rw [gath_snoc e]
      exact ⟨insE_nd h1, Nat.le_trans insE_len (by omega)⟩
abbrev spGathG (C : Addr) : SpD := fun as Q => ∃ ps : List Ent, as = [.val (.lst (enD C ps))] ∧ ps.length ≤ 4000 ∧ (∀ e ∈ ps, Bq 3000 e.2) ∧ (∀ i, ∀ e ∈ gath (ps.take i), Bq 3000 e.2) ∧ Q (.lst (enD C (gath ps)))
theorem put_ins {acc : List Ent} {k : List Int} {r : Rat} {x : Ent} (nd : (acc.map (·.1)).Nodup) (hx : x ∈ acc) (hk : x.1 = k) : putE (kvD C acc) (ik k) (Ra C (fr (x.2 + r))) = kvD C (insE acc (k, r)) := by
  have hm : k ∈ acc.map (·.1) := by rw [← hk]; exact List.mem_map_of_mem hx
  unfold putE insE
  have h : DL.has (kvD C acc) (ik k) = true := by
    unfold DL.has
    rw [List.any_eq_true]
    exact ⟨(ik x.1, Ra C (fr x.2)), List.mem_map_of_mem hx, decide_eq_true (by rw [hk])⟩
  rw [if_pos h, if_pos hm]
  unfold kvD
  rw [List.map_map, List.map_map]
  refine List.map_congr_left fun e he => ?_
  show (if ik e.1 = ik k then (ik e.1, Ra C (fr (x.2 + r))) else (ik e.1, Ra C (fr e.2))) = (fun e : Ent => (ik e.1, Ra C (fr e.2))) (if e.1 = k then (e.1, e.2 + r) else e)
  by_cases y : e.1 = k
  · rw [if_pos (by rw [y]), if_pos y, nd_inj nd he hx (by rw [y, hk])]
  · rw [if_neg (fun z => y (ik_inj z)), if_neg y]
theorem ok_gathG {f : Addr} {fd : FuncData} (F : FunS K "gathered" "gathered" (top 31) f fd) (L : Lv P w K mg base C) : GnOk P w K mg base 7 f fd ["pairs"] (lift K (spGathG C)) := by
  refine gn_dl F sc_gath (fun as Q h => by obtain ⟨_, rfl, _⟩ := h; rfl) (fun cdv A outer s H hr hG W as Q h => ?_)
  obtain ⟨ps, rfl, hl, bp, bg, q⟩ := h
  have nd := sc_gath.nd
  refine sds_cons (sd_newT 1 nd rfl ?_)
  refine sds_cons (sd_forL (l := enD C ps) PassesOwn.never rfl (fun i S' => ∃ o2 o3, S' = [some (.val (.lst (enD C ps))), some (.ownT (kvD C (gath (ps.take i)))), o2, o3]) (nm 0 ⟨rfl, none, none, rfl⟩) ?_ ?_)
  · rintro i d S' hi ⟨o2, o3, rfl⟩
    obtain ⟨e, he, rfl⟩ := enD_get hi
    obtain ⟨gn, gl⟩ := gath_nd (ps := ps) i
    have li : i < ps.length := (List.getElem?_eq_some_iff.mp he).1
    refine gd_tup rfl (gds_cons (gd_name 2 nd rfl (gds_cons (gd_name 3 nd rfl (gds_nil ?_))))) rfl
    refine sds_cons (sd_putT 1 (kvD C (gath (ps.take i))) (un1 hr) rfl rfl (by rw [kvD_len]; omega) (ed_ifx (td_inT 1 (kvD C (gath (ps.take i))) (un1 hr) rfl rfl (nm 2 ⟨ik e.1, (tD_ik _).symm, ?_⟩))))
    by_cases c : e.1 ∈ (gath (ps.take i)).map (·.1)
    · obtain ⟨x, hx, ex⟩ := List.mem_map.mp c
      have lk := look_kvD (C := C) gn hx
      rw [ex] at lk
      rw [lk]
      show ED _ _ _ _ _
      refine ed_bin (ed_getT 1 (kvD C (gath (ps.take i))) (un1 hr) rfl rfl (nm 2 ⟨ik e.1, _, (tD_ik _).symm, lk, nm 3 (od_addQ L (hr.mono (j := 6) (by decide)) hG (bg i x hx) (.rat _ (bp e (List.mem_of_getElem? he))) (nm 2 ⟨ik e.1, (tD_ik _).symm, sds_nil ⟨some (Sl.val (tI e.1)), some (Sl.val (Ra C (fr e.2))), ?_⟩⟩))⟩))
      rw [put_ins gn hx ex, gath_snoc he]
      rfl
    · rw [look_no c]
      show ED _ _ _ _ _
      refine nm 3 (nm 2 ⟨ik e.1, (tD_ik _).symm, sds_nil ⟨some (Sl.val (tI e.1)), some (Sl.val (Ra C (fr e.2))), ?_⟩⟩)
      rw [put_kvD c, gath_snoc he]
      unfold insE
      rw [if_neg c]
      rfl
  · rintro S' ⟨o2, o3, rfl⟩
    rw [enD_len, List.take_length]
    have gn := (gath_nd (ps := ps) ps.length).1
    have gl := (gath_nd (ps := ps) ps.length).2
    rw [List.take_length] at gn gl
    refine sds_frzT 1 _ rfl ?_
    refine sds_cons (sd_ret (ed_fd (fd_lcK (kvs := kvD C (gath ps)) (fun i acc => acc = enD C ((gath ps).take i)) (fun d => itE [some (.val (.lst (enD C ps))), some (.val (.dcT (kvD C (gath ps)))), o2, o3] [("counts", 2)] 2 d) rfl nd (blkOk_by (by show blkC ["pairs", "amounts", "counts", "amount"] (defScope (top 31)) _ _ = true; decide +kernel)) (fun _ _ _ _ _ => pg_name (i := 2) nd rfl (Or.inl rfl)) (nm 1 ⟨rfl, by rw [kvD_len]; omega, rfl⟩) (fun d => pat_name 2 (by simp)) ?_ ?_)))
    · rintro i k d acc hi hacc rfl s2 H0 C2 cl fp
      have hi' : ((gath ps).map fun e => (ik e.1, Ra C (fr e.2)))[i]? = some (k, d) := hi
      rw [List.getElem?_map] at hi'
      cases e : (gath ps)[i]? with
      | none => rw [e] at hi'; cases hi'
      | some x =>
        rw [e] at hi'
        cases hi'
        rw [tD_ik]
        refine ed_tup (ad_cons (nm 2 (ad_cons (ed_dget (un1 hr) (nm 1 (nm 2 ⟨_, ik x.1, _, rfl, (tD_ik _).symm, look_kvD gn (List.mem_of_getElem? e), ad_nil ⟨[tI x.1, Ra C (fr x.2)], rfl, by simp, ?_⟩⟩))))))
        rw [enD_snoc e]
    · rintro acc hacc rfl
      rw [kvD_len, List.take_length]
      exact q
/-! + -/
abbrev spBAdd (C CB : Addr) : SpD := fun as Q => ∃ z, ∃ m n n2 n3 b : Nat, ∃ es fs, as = [.val (Bo C CB z n es), .val (Bo C CB z n2 fs)] ∧ LetZ z ∧ z.length = m ∧ n3 ≤ 8 ∧ b ≤ 1000 ∧ GE m n b es ∧ GE m n2 b fs ∧ (es = [] ∨ fs = [] ∨ n = n2) ∧ (∀ i, ∀ e ∈ gath ((es ++ fs).take i), Bq 3000 e.2) ∧ GE m n3 b (gath (es ++ fs)) ∧ Q (Bo C CB z n3 (srt (gath (es ++ fs))))
/-! scaled -/
def scE (r : Rat) (e : Ent) : Ent := (e.1, e.2 * r)
abbrev spScaled (C CB : Addr) : SpD := fun as Q => ∃ z, ∃ m n b c : Nat, ∃ es x r, as = [.val (Bo C CB z n es), .val x] ∧ Okb z m n b es ∧ Nq C c x r ∧ 0 < r ∧ b + c ≤ 800 ∧ Q (Bo C CB z n (es.map (scE r)))
end
end K25

set_option Elab.async false
set_option linter.all false
set_option maxRecDepth 100000
set_option maxHeartbeats 8000000
/-! k25: what the law draws; its own fractions -/
namespace K25
open PySem L2 DL
section
variable {X : Cx} {B : Hp} {W0 : Wd} {S : En} {st : Stmt} {E : Ends'}
theorem sd_mid (QS : En → Prop) (k : ∀ S', QS S' → E.nx S') (h : SD X B W0 S st { E with nx := QS }) : SD X B W0 S st E := fun σ W H r z D' q => h σ W H r z D' ⟨fun S' σ' W' H' r' z' x' y => q.nx S' σ' W' H' r' z' x' (k S' y), q.rt, q.bk, q.ct⟩
end
section
variable {P : Program} {w : World} {K : PySem.W.Frag} {mg : Str → Option Value} {base : Heap} {C : Addr}
abbrev spPot : SpN := fun as Q => ∃ ns, ∃ k : Nat, as = [.val (.frl ns), .val (.int (k : Int))] ∧ k < 100 ∧ ∀ a b : Int, 0 ≤ b ∧ b < 2 ^ 31 → Q [.int a, .int b]
theorem sc_pot : FnScope ["_law_script", "_law_k", "_law_cell"] ["_law_script", "_law_k"] (defScope (top 50)) := ⟨rfl, rfl, rfl, by decide +kernel, rfl, by decide +kernel, by decide +kernel⟩
theorem ok_pot {f : Addr} {fd : FuncData} (F : FunS K "_law_pot" "_law_pot" (top 50) f fd) (T : Txt K mg C) : GnOk P w K mg base 1 f fd ["_law_script", "_law_k"] (liftN K spPot) := by
  refine gn_new F sc_pot (fun as Q h => by obtain ⟨_, _, rfl, _⟩ := h; rfl) (fun cdv A outer s H hr hG W as Q h => ?_)
  obtain ⟨ns, k, rfl, hk, q⟩ := h
  have nd := sc_pot.nd
  have rest : ∀ z : Int, SN (Bx P w K mg base ["_law_script", "_law_k", "_law_cell"] "_law_pot" (top 50) f cdv A outer s H) H W [some (.val (.frl ns)), some (.val (.int (k : Int))), some (.val (.int z))] ((defBody (top 50)).drop 1) Q := fun z => by
    refine sn_ret (fd_lst (ad_cons (ed_callB T.max (ad_cons (ed_int (ad_cons (ed_bin (nm 2 (ed_bin (ed_int (ed_int (od_pow ⟨by decide, by decide, by decide⟩ (od_sub (ad_nil (cd_max rfl (ad_cons (ed_bin (ed_bin (ed_callTy T.int (ad_cons (ed_bin (ed_bin (ed_bin (ed_bin (ed_callTy T.int (ad_cons (nm 2 (ad_nil (cd_int (ed_int (od_mod (by decide) (ed_int (od_mulS (.inr (by decide)) (ed_bin (ed_int (nm 1 (od_mulS (.inl (by decide)) (od_add (ed_int (od_add (ad_nil (cd_int (ed_int (od_mod (by decide) (ed_int (od_add (ad_nil ⟨[.int _, .int _], rfl, by simp, q _ _ ?_⟩)))))))))))))))))))))))))))))))))))))))))))))))
    constructor <;> omega
  refine sn_cons (sd_mid (fun S' => ∃ z : Int, S' = [some (.val (.frl ns)), some (.val (.int (k : Int))), some (.val (.int z))]) ?_ (sd_set 2 nd rfl (ed_ifx (td_cmp (nm 1 (ed_callB T.len (ad_cons (nm 0 (ad_nil (cd_lenF (od_lt (kB ?_))))))))))))
  · rintro S' ⟨z, rfl⟩
    exact rest z
  · by_cases c : k < ns.length
    · rw [decide_eq_true (by omega)]
      exact ed_callB T.abs (ad_cons (ed_ixF (nm 0 (nm 1 ⟨_, k, ns[k], rfl, rfl, List.getElem?_eq_getElem c, ad_nil (cd_abs ⟨_, rfl⟩)⟩))))
    · rw [decide_eq_false (by omega)]
      exact ed_bin (ed_bin (ed_int (nm 1 (od_mulS (.inl (by decide)) (ed_int (od_add ⟨_, rfl⟩))))))
theorem sc_draw : FnScope ["_law_pot_here", "_law_many", "_law_digit"] ["_law_pot_here", "_law_many"] (defScope (top 51)) := ⟨rfl, rfl, rfl, by decide +kernel, rfl, by decide +kernel, by decide +kernel⟩
abbrev spDraw : SpD := fun as Q => ∃ n : Int, as = [.pot, .val (.int n)] ∧ 0 < n ∧ n < 1073741824 ∧ ∀ d : Nat, (d : Int) < n → Q (.int (d : Int))
theorem small_mul {a b : Int} (h : 0 ≤ a ∧ a < 2 ^ 31) (k : 0 ≤ b ∧ b < 2 ^ 31) : (-(2 ^ 64) < a ∧ a < 2 ^ 64) ∨ (-(2 ^ 64) < b ∧ b < 2 ^ 64) := .inl (by omega)
theorem ok_draw {f : Addr} {fd : FuncData} (F : FunS K "_law_draw" "_law_draw" (top 51) f fd) (T : Txt K mg C) : GnOk P w K mg base 1 f fd ["_law_pot_here", "_law_many"] (lift K spDraw) := by
  refine gn_dl F sc_draw (fun as Q h => by obtain ⟨n, rfl, _⟩ := h; rfl) (fun cdv A outer s H hr hG W as Q h => ?_)
  obtain ⟨n, rfl, h0, h1, q'⟩ := h
  have q : ∀ d : Int, 0 ≤ d → d < n → Q (.int d) := fun d d0 d1 => by
    have := q' d.toNat (by rw [Int.toNat_of_nonneg d0]; exact d1)
    rw [Int.toNat_of_nonneg d0] at this
    exact this
  have nd := sc_draw.nd
  refine sds_cons (sd_if (td_cmp (ed_potix (j := 0) 0 rfl rfl (by decide) fun z _ => ed_int (od_gt (kB ?_)))))
  cases decide (0 < z) with
  | true =>
    refine sds_cons (sd_asg (ed_callB T.divmod (ad_cons (ed_potix (j := 0) 0 rfl rfl (by decide) fun z _ => ad_cons (nm 1 (ad_nil (cd_divmod ⟨h0, h1⟩ ?_)))))))
    refine gd_tup rfl (gds_cons (gd_pot (j := 0) 0 rfl rfl (by decide) (fun z => absurd z (by decide)) (gds_cons (gd_name 2 nd rfl (gds_nil ?_))))) rfl
    exact sds_cons (sd_ret (nm 2 (q _ (Int.emod_nonneg _ (by omega)) (Int.emod_lt_of_pos _ h0))))
  | false =>
    refine sds_nil (sds_cons (sd_asg (ed_bin (ed_callTy T.int (ad_cons (ed_bin (ed_bin (ed_potix (j := 1) 0 rfl rfl (by decide) fun z hz => ed_int (od_mulS (.inr (by decide)) (ed_int (od_add (ad_nil (cd_int (ed_int (od_mod (by decide) ?_)))))))))))))))
    refine gd_pot (j := 1) 0 rfl rfl (by decide) (fun _ => ⟨Int.emod_nonneg _ (by decide), Int.lt_trans (Int.emod_lt_of_pos _ (by decide)) (by decide)⟩) ?_
    refine sds_cons (sd_ret (ed_bin (ed_callTy T.int (ad_cons (ed_bin (ed_bin (ed_callTy T.int (ad_cons (ed_bin (ed_potix (j := 1) 0 rfl rfl (by decide) fun y hy => ed_potix (j := 1) 0 rfl rfl (by decide) fun x hx => od_mulS (small_mul (hy rfl) (hx rfl)) (ad_nil (cd_int (ed_int (od_mod (by decide) (ed_int (od_fdiv ⟨by decide, by decide⟩ (ad_nil (cd_int (nm 1 (od_mod h0 ?_))))))))))))))))))))
    exact q _ (Int.emod_nonneg _ (by omega)) (Int.emod_lt_of_pos _ h0)
theorem sc_pick : FnScope ["_law_pot_here", "_law_some"] ["_law_pot_here", "_law_some"] (defScope (top 52)) := ⟨rfl, rfl, rfl, by decide +kernel, rfl, by decide +kernel, by decide +kernel⟩
abbrev spPick : SpD := fun as Q => ∃ l : List D, as = [.pot, .val (.lst l)] ∧ 0 < l.length ∧ l.length < 1000 ∧ ∀ d ∈ l, Q d
theorem ok_pick {f : Addr} {fd : FuncData} (F : FunS K "_law_pick" "_law_pick" (top 52) f fd) (T : Txt K mg C) (G : Df P w K mg base "_law_draw" 1 2 spDraw) : GnOk P w K mg base 2 f fd ["_law_pot_here", "_law_some"] (lift K spPick) := by
  refine gn_dl F sc_pick (fun as Q h => by obtain ⟨n, rfl, _⟩ := h; rfl) (fun cdv A outer s H hr hG W as Q h => ?_)
  obtain ⟨l, rfl, h0, h1, q⟩ := h
  refine sds_cons (sd_ret (ed_ix (nm 1 (ed_call G hr hG (ad_pot 0 rfl rfl (ad_cons (ed_callB T.len (ad_cons (nm 1 (ad_nil (cd_len (.inl rfl) (ad_nil ⟨(l.length : Int), rfl, by omega, by omega, fun d d1 => ?_⟩))))))))))))
  have hd : d < l.length := by omega
  exact ⟨l, d, l[d], .inl rfl, rfl, atI_nat (List.getElem?_eq_getElem hd), q _ (List.getElem_mem _)⟩
abbrev spLow : SpD := fun as Q => ∃ t b, as = [.val (.int t), .val (.int b)] ∧ b ≠ 0 ∧ t.natAbs < 2 ^ 8000 ∧ b.natAbs < 2 ^ 8000 ∧ Q (pr (low t b))
section
variable {X : Cx} {B : Hp} {S : En} {pos pos2 : Pos} {Q : D → Prop} {o : Expr} {j2 : Option Str}
end
abbrev spFF (f : Fr → Fr → Fr) : SpD := fun as Q => ∃ p q, as = [.val (pr p), .val (pr q)] ∧ Bd 3000 p ∧ Bd 3000 q ∧ Q (pr (f p q))
theorem dv_pos {a b : Int} (ha : 0 < a) (hb : 0 < b) : 0 < Rat.divInt a b := by
  rw [Rat.divInt_eq_div, Rat.div_def]
  exact Rat.mul_pos (Rat.intCast_pos.mpr ha) (Rat.inv_pos.mpr (Rat.intCast_pos.mpr hb))
abbrev prq (r : Rat) : D := pr (fr r)
abbrev spAm : SpD := fun as Q => as = [.pot] ∧ ∀ r : Rat, 0 < r → Bq 10 r → Q (prq r)
end
end K25

set_option Elab.async false
set_option linter.all false
set_option maxRecDepth 100000
set_option maxHeartbeats 4000000
/-! small rules: x[e] of an owned list; s[:i]; min of two; an if whose branches want little; dict != dict, both the same -/
namespace DL
open PySem PySem.Spec PyProof.Rows L2
section
variable {X : Cx} {B : Hp} {W0 : Wd} {S : En} {pos px p2 : Pos} {Q : D → Prop} {e b : Expr} {x : Str}
/-- x[e], x the owner of its list -/
theorem ed_ixOwn (i : Nat) (l : List D) (hN : X.N[i]? = some x) (h : S[i]? = some (some (.own l))) (he : ED X B S b fun y => ∃ (j : Nat) (d : D), y = .int (j : Int) ∧ l[j]? = some d ∧ Q d) (hs : PlainIx b := by exact fun _ _ => rfl)
    (hv : Vis X.env.scope x := by first | exact Or.inl rfl | exact Or.inr (Or.inl rfl) | exact Or.inr (Or.inr rfl)) (hd : (x == ("__debug__" : Str)) = false := by decide) (hcd : (x == ("__classdict__" : Str)) = false := by decide) : ED X B S (.Subscript (.Name x px) b pos) Q := fun σ W H r R k => by
  refine PE.w (pe_ix ix_list (pe_var hN hv hd hcd) we_pe hs) ?_
  obtain ⟨v, e1, p, xs, rfl, hB, n, hI, hH, d0⟩ := r.sl i _ h
  refine ⟨_, e1, he σ W H r _ fun y u W2 H2 s2 ok2 n2 q2 => ?_⟩
  obtain ⟨j, d, rfl, e, q⟩ := q2
  cases n2
  obtain ⟨z, ez, nz⟩ := (d0.mono s2.I).get' e
  exact ⟨p, xs, (j : Int), z, rfl, rfl, SqL.of (s2.keep _ _ hH n), atI_nat ez, (k.step s2 ok2).now ok2 nz q⟩
theorem cd_min2 {i j : Int} (hc : X.calm = true) (q : Q (.int (if j < i then j else i))) : CD X (.builtin "min") [.val (.int i), .val (.int j)] Q := cd_of (call_min2 hc) fun vs W H ok ha R c => by
  obtain ⟨v, u, rfl, h, h'⟩ := two_args ha
  cases h; cases h'
  exact ⟨i, j, rfl, c.now ok (.int _) q⟩
theorem sd_ifAny {c : Expr} {x y : List Stmt} {E : Ends'} (PB : Bool → Prop) (h : TD X B S c PB) (hx : PB true → SDs X B W0 S x E) (hy : PB false → SDs X B W0 S y E) : SD X B W0 S (.If c x y pos) E :=
  sd_if (fun σ W H r R k => h σ W H r R fun b W' H' s ok q => k b W' H' s ok (by
    cases b with
    | true => exact hx q
    | false => exact hy q))
end
end DL

namespace DL
open PySem PySem.Spec PyProof.Rows L2
section
variable {X : Cx} {Q : D → Prop} {C : Addr} {k : Nat} {sp : SpD} {fs : List (Str × D)}
end
section
variable {X : Cx} {B : Hp} {W0 : Wd} {S : En} {pos : Pos}
/-- for over a range that may be empty -/
theorem sd_forR0 {tg a : Expr} {p pos1 : Pos} {N : Nat} {body : List Stmt} {E : Ends'} (hp : PassesOwn (model X.prog X.w) X.A X.env X.xe) (hc : X.calm = true) (hm : X.mg "range" = none) (Inv : Nat → En → Prop) (h : AD X B S [a] fun as => ∃ n : Nat, as = [.val (.int (n : Int))] ∧ n ≤ N ∧ n ≤ 50000 ∧ Inv 0 S)
    (hs : ∀ (i : Nat) S', i < N → Inv i S' → GD X B W0 S' tg (.int i) fun S2 => SDs X B W0 S2 body { nx := Inv (i + 1), rt := E.rt, bk := E.nx, ct := Inv (i + 1) })
    (hd : ∀ (n : Nat) S', n ≤ N → Inv n S' → E.nx S') (hg : Gl X "range" := by rfl) (hst : starEach [a] X.env = [(false, eval a X.env)] := by rfl) (hf : ∀ x, foldedSetIterable (.Call (.Name "range" p) [a] [] pos1) X.env x = pure x := by intro _; rfl) : SD X B W0 S (.For tg (.Call (.Name "range" p) [a] [] pos1) body [] pos) E := fun σ W H r z D' k => by
  refine PS.w (ps_for hp hc (pi_range1 hg hm wa_pa hst) wg_pg wss_pss hf) ?_
  refine h σ W H r _ fun as vs W1 H1 s1 ok1 n1 q1 => ?_
  obtain ⟨n, rfl, hn, hn2, i0⟩ := q1
  obtain ⟨v, rfl, m⟩ := one_arg n1
  cases m
  refine ⟨(n : Int), rfl, by omega, by omega, for_range (lo := 0) (n := (n : Int).toNat) (fun i σ' H' => ∃ S' W', Rep X.K (gOf X) B S' σ' W' H' ∧ Stp W0 B W' H' ∧ Ex W1.I W'.I ∧ Inv i S') ⟨S, W1, r.step s1 ok1, z.trans r.ok s1, Ex.refl _, i0⟩ ?_ ?_⟩
  · rintro i σ' H' hi ⟨S', W', r', z', e', i'⟩
    rw [Int.zero_add]
    refine hs i S' (by omega) i' σ' W' H' _ r' z' (.int _) _ fun S2 σ2 W2 H2 r2 z2 e2 q2 => ?_
    exact q2 σ2 W2 H2 r2 z2 _ ⟨fun S3 σ3 W3 H3 r3 z3 e3 q3 => ⟨S3, W3, r3, z3, (e'.trans e2).trans e3, q3⟩, fun d3 v3 W3 H3 r3 z3 e3 n3 q3 => k.rt d3 v3 W3 H3 r3 z3 (((s1.I.trans e').trans e2).trans e3) n3 q3,
      fun S3 σ3 W3 H3 r3 z3 e3 q3 => k.nx S3 σ3 W3 H3 r3 z3 (((s1.I.trans e').trans e2).trans e3) q3, fun S3 σ3 W3 H3 r3 z3 e3 q3 => ⟨S3, W3, r3, z3, (e'.trans e2).trans e3, q3⟩⟩
  · rintro σ' H' ⟨S', W', r', z', e', i'⟩
    rw [Int.toNat_natCast] at i'
    exact k.nx S' σ' W' H' r' z' (s1.I.trans e') (hd n S' hn i')
end
end DL

set_option Elab.async false
set_option linter.all false
set_option maxRecDepth 100000
set_option maxHeartbeats 4000000
/-! k25: the law's own products; numbers over a common one -/
namespace K25
open PySem L2 DL
def oth (es : List Ent) (k : List Int) : List Ent := es.filter fun e => !decide (e.1 = k)
def put (es : List Ent) (k : List Int) (r : Rat) : List Ent := oth es k ++ [(k, r)]
def kvP (es : List Ent) : List (List Key × D) := es.map fun e => (ik e.1, prq e.2)
def insP (es : List Ent) (k : List Int) (r : Rat) : List Ent := if k ∈ es.map (·.1) then es.map (fun e => if e.1 = k then (k, r) else e) else es ++ [(k, r)]
theorem sds_st {X : Cx} {B : Hp} {W0 : Wd} {S S' : En} {sts : List Stmt} {E : Ends'} (e : S = S') (k : SDs X B W0 S' sts E) : SDs X B W0 S sts E := e ▸ k
/-! numbers over a common one -/
def Ov (M K : Nat) (r : Rat) : Prop := ∃ a : Int, r = Rat.divInt a (M : Int) ∧ a.natAbs ≤ K
end K25

set_option Elab.async false
set_option linter.all false
set_option maxRecDepth 100000
set_option maxHeartbeats 4000000
/-! k25: numbers passed, letters, counts, what is drawn -/
namespace K25
open PySem L2 DL
section
variable {P : Program} {w : World} {K : PySem.W.Frag} {mg : Str → Option Value} {base : Heap} {C CB : Addr}
abbrev spPass (C : Addr) : SpD := fun as Q => ∃ b r, as = [.pot, .val (prq r)] ∧ b ≤ 1000 ∧ Bq b r ∧ ∀ d, Nq C b d r → Q d
abbrev spPair (C : Addr) : SpD := fun as Q => ∃ r, as = [.val (Ra C (fr r))] ∧ Q (prq r)
/-! letters -/
def lsA : List Nat := [97, 98, 99, 100, 101, 102, 103, 104]
def lsB : List Nat := [97, 99, 101, 103, 109, 113, 120, 122]
def lsC : List Nat := [115, 116, 117, 118, 119, 120, 121, 122]
def lsD : List Nat := [98, 100, 102, 104, 106, 108, 110, 112]
abbrev spLets : SpD := fun as Q => ∃ m : Nat, as = [.pot, .val (.int (m : Int))] ∧ 1 ≤ m ∧ m ≤ 8 ∧ ∀ z, LetZ z → z.length = m → Q (.str (SX.S z))
/-! counts -/
abbrev spCnt : SpD := fun as Q => ∃ m n : Nat, as = [.pot, .val (.int (m : Int)), .val (.int (n : Int))] ∧ 1 ≤ m ∧ m ≤ 8 ∧ n ≤ 8 ∧ ∀ k : List Int, k.length = m → (∀ c ∈ k, 0 ≤ c) → k.sum = (n : Int) → Q (tI k)
abbrev NCn : List Str := ["_law_pot_here", "_law_many", "_law_degree", "_law_found", "_law_turn", "_law_at"]
/-! an amount -/
abbrev spAmt : SpD := fun as Q => as = [.pot] ∧ ∀ r : Rat, 0 < r → Bq 10 r → Ov 12 360 r → Q (prq r)
/-! drawn products -/
abbrev spDrawn : SpD := fun as Q => ∃ m n mo : Nat, as = [.pot, .val (.int (m : Int)), .val (.int (n : Int)), .val (.int (mo : Int))] ∧ 1 ≤ m ∧ m ≤ 8 ∧ n ≤ 8 ∧ mo ≤ 20 ∧ ∀ es : List Ent, GE m n 10 es → (∀ e ∈ es, Ov 12 360 e.2) → es.length ≤ mo → Q (.dcT (kvP es))
abbrev NDr : List Str := ["_law_pot_here", "_law_many", "_law_degree", "_law_most", "_law_found", "_law_turn"]
end
end K25

set_option Elab.async false
set_option linter.all false
set_option maxRecDepth 100000
set_option maxHeartbeats 8000000
/-! k25: entries as they are passed, blends, what a blend tells -/
namespace K25
open PySem L2 DL
theorem paired_snoc {α β : Type} {R : α → β → Prop} {a : α} {b : β} (h : R a b) : ∀ {l : List α} {m : List β}, Paired R l m → Paired R (l ++ [a]) (m ++ [b])
  | _, _, .nil => .cons h .nil
  | _, _, .cons k t => .cons k (paired_snoc h t)
section
variable {P : Program} {w : World} {K : PySem.W.Frag} {mg : Str → Option Value} {base : Heap} {C CB : Addr}
abbrev spEntr (C : Addr) : SpD := fun as Q => ∃ m n b : Nat, ∃ es, as = [.pot, .val (.dcT (kvP es))] ∧ 1 ≤ m ∧ n ≤ 8 ∧ b ≤ 1000 ∧ GE m n b es ∧ ∀ d xs ps, SeqD d xs → ps.Perm es → Paired (EntD C b) xs ps → Q d
abbrev NEn : List Str := ["_law_pot_here", "_law_own", "_law_found", "_law_counts_here", "_law_entry"]
/-! a blend -/
abbrev spBln (C CB : Addr) : SpD := fun as Q => ∃ z, ∃ m n b : Nat, ∃ es, as = [.pot, .val (.str (SX.S z)), .val (.dcT (kvP es))] ∧ LetZ z ∧ z.length = m ∧ n ≤ 8 ∧ b ≤ 1000 ∧ GE m n b es ∧ Q (Bo C CB z n (srt es))
/-! len -/
abbrev spBLen (C CB : Addr) : SpD := fun as Q => ∃ z n es, as = [.val (Bo C CB z n es)] ∧ Q (.int (es.length : Int))
/-! what a blend tells -/
theorem od_neb {X : Cx} {i j : Bool} {Q : D → Prop} (hu : X.A.units + 64 < cLine) (q : Q (.bl (!decide (i = j)))) : OD X (compareOp .NotEq) (.bl i) (.bl j) Q := by
  refine od_ned hu (.bl i) (.bl j) (by rfl) (by rfl) ?_
  have e : PyData.eqv (.bool i) (.bool j) = decide (i = j) := by cases i <;> cases j <;> simp [PyData.eqv]
  rw [e]
  exact q
abbrev spTold (C CB : Addr) : SpD := fun as Q => ∃ z, ∃ m n b : Nat, ∃ es, as = [.val (Bo C CB z n es), .val (.str (SX.S z))] ∧ LetZ z ∧ z.length = m ∧ n ≤ 8 ∧ b ≤ 1000 ∧ GE m n b es ∧ srt es = es ∧ Q (.dcT (kvP es))
abbrev NTo : List Str := ["_law_blend_here", "_law_letters_here", "_law_found", "_law_entry", "_law_degree"]
end
end K25

set_option Elab.async false
set_option linter.all false
set_option maxRecDepth 100000
set_option maxHeartbeats 4000000
/-! texts of lists and tuples that hold own objects -/
namespace DL
open PySem PySem.Spec PyProof.Rows L2
mutual
/-- data that can be written, each told by where it stands -/
inductive Rp : D → Prop
  | non : Rp .non
  | bl (b) : Rp (.bl b)
  | int (i) : Rp (.int i)
  | str (s) : Rp (.str s)
  | tup {l} : Rps l → Rp (.tup l)
  | lst {l} : Rps l → Rp (.lst l)
  | obj {C fs} : Rpf fs → Rp (.obj C fs)
  | dcT {kvs} : Rpt kvs → Rp (.dcT kvs)
  | dcK0 : Rp (.dcK [])
inductive Rps : List D → Prop
  | nil : Rps []
  | cons {d l} : Rp d → Rps l → Rps (d :: l)
inductive Rpf : List (Str × D) → Prop
  | nil : Rpf []
  | cons {f d l} : Rp d → Rpf l → Rpf ((f, d) :: l)
inductive Rpt : List (List Key × D) → Prop
  | nil : Rpt []
  | cons {k d l} : Rp d → Rpt l → Rpt ((k, d) :: l)
end
section
variable {K : PySem.W.Frag} {I : Hp}
mutual
theorem Dn.uniq : ∀ {d d' : D} {v : V}, Dn K I d v → Rp d → Rp d' → Dn K I d' v → d = d'
  | _, _, _, .non, _, r', n' => by cases n' <;> first | rfl | cases r'
  | _, _, _, .bl b, _, r', n' => by cases n' <;> first | rfl | cases r'
  | _, _, _, .int i, _, r', n' => by cases n' <;> first | rfl | cases r'
  | _, _, _, .str s, _, r', n' => by cases n' <;> first | rfl | cases r'
  | _, _, _, .ty n, r, _, _ => by cases r
  | _, _, _, .cls a, r, _, _ => by cases r
  | _, _, _, .frl h, r, _, _ => by cases r
  | _, _, _, .dct h, r, _, _ => by cases r
  | _, _, _, .dcK h m, r, r', n' => by
    cases r
    cases n' with
    | dcK h' m' => cases r'; rfl
    | tup h' m' => rw [h] at h'; cases h'
    | lst h' m' => rw [h] at h'; cases h'
    | obj h' m' => rw [h] at h'; cases h'
    | cls _ => cases r'
    | dct _ => cases r'
    | dcT h' m' => rw [h] at h'; cases h'
    | frl _ => cases r'
  | _, _, _, .tup h m, r, r', n' => by
    cases n' with
    | tup h' m' =>
      rw [h] at h'
      cases h'
      cases r with
      | tup r => cases r' with
        | tup r' => rw [Dns.uniq m r r' m']
    | lst h' m' => rw [h] at h'; cases h'
    | obj h' m' => rw [h] at h'; cases h'
    | cls _ => cases r'
    | dct _ => cases r'
    | dcT h' m' => rw [h] at h'; cases h'
    | dcK h' m' => rw [h] at h'; cases h'
    | frl _ => cases r'
  | _, _, _, .lst h m, r, r', n' => by
    cases n' with
    | lst h' m' =>
      rw [h] at h'
      cases h'
      cases r with
      | lst r => cases r' with
        | lst r' => rw [Dns.uniq m r r' m']
    | tup h' m' => rw [h] at h'; cases h'
    | obj h' m' => rw [h] at h'; cases h'
    | cls _ => cases r'
    | dct _ => cases r'
    | dcT h' m' => rw [h] at h'; cases h'
    | dcK h' m' => rw [h] at h'; cases h'
    | frl _ => cases r'
  | _, _, _, .obj h m, r, r', n' => by
    cases n' with
    | obj h' m' =>
      rw [h] at h'
      cases h'
      cases r with
      | obj r => cases r' with
        | obj r' => rw [Dnf.uniq m r r' m']
    | tup h' m' => rw [h] at h'; cases h'
    | lst h' m' => rw [h] at h'; cases h'
    | cls _ => cases r'
    | dct _ => cases r'
    | dcT h' m' => rw [h] at h'; cases h'
    | dcK h' m' => rw [h] at h'; cases h'
    | frl _ => cases r'
  | _, _, _, .dcT h m, r, r', n' => by
    cases n' with
    | dcT h' m' =>
      rw [h] at h'
      cases h'
      cases r with
      | dcT r => cases r' with
        | dcT r' => rw [Dnt.uniq m r r' m']
    | tup h' m' => rw [h] at h'; cases h'
    | lst h' m' => rw [h] at h'; cases h'
    | obj h' m' => rw [h] at h'; cases h'
    | cls _ => cases r'
    | dct _ => cases r'
    | dcK h' m' => rw [h] at h'; cases h'
    | frl _ => cases r'
termination_by structural _ _ _ x => x
theorem Dnt.uniq : ∀ {l l' : List (List Key × D)} {xs : List (List Key × V)}, Dnt K I l xs → Rpt l → Rpt l' → Dnt K I l' xs → l = l'
  | _, _, _, .nil, _, _, n' => by cases n'; rfl
  | _, _, _, .cons h m, r, r', n' => by
    cases n' with
    | cons h' m' =>
      cases r with
      | cons r1 r2 => cases r' with
        | cons r1' r2' => rw [Dn.uniq h r1 r1' h', Dnt.uniq m r2 r2' m']
termination_by structural _ _ _ x => x
theorem Dns.uniq : ∀ {l l' : List D} {xs : List V}, Dns K I l xs → Rps l → Rps l' → Dns K I l' xs → l = l'
  | _, _, _, .nil, _, _, n' => by cases n'; rfl
  | _, _, _, .cons h m, r, r', n' => by
    cases n' with
    | cons h' m' =>
      cases r with
      | cons r1 r2 => cases r' with
        | cons r1' r2' => rw [Dn.uniq h r1 r1' h', Dns.uniq m r2 r2' m']
termination_by structural _ _ _ x => x
theorem Dnf.uniq : ∀ {l l' : List (Str × D)} {xs : List (Str × V)}, Dnf K I l xs → Rpf l → Rpf l' → Dnf K I l' xs → l = l'
  | _, _, _, .nil, _, _, n' => by cases n'; rfl
  | _, _, _, .cons h m, r, r', n' => by
    cases n' with
    | cons h' m' =>
      cases r with
      | cons r1 r2 => cases r' with
        | cons r1' r2' => rw [Dn.uniq h r1 r1' h', Dnf.uniq m r2 r2' m']
termination_by structural _ _ _ x => x
end
open Classical in
noncomputable def del (I : Hp) (a : Addr) : Hp := fun b => if b = a then none else I b
theorem del_same {a : Addr} : del I a a = none := if_pos rfl
theorem del_ne {a b : Addr} (h : b ≠ a) : del I a b = I b := if_neg h
/-- the same data without what stands at a, which is greater than they are -/
theorem del_sub {a : Addr} {big : D} (rb : Rp big) (nb : Dn K I big (.ref a)) : ∀ n, (∀ d v, sizeOf d < n → sizeOf d < sizeOf big → Rp d → Dn K I d v → Dn K (del I a) d v) ∧ (∀ l xs, sizeOf l < n → sizeOf l < sizeOf big → Rps l → Dns K I l xs → Dns K (del I a) l xs) ∧ (∀ l xs, sizeOf l < n → sizeOf l < sizeOf big → Rpf l → Dnf K I l xs → Dnf K (del I a) l xs) ∧ (∀ l xs, sizeOf l < n → sizeOf l < sizeOf big → Rpt l → Dnt K I l xs → Dnt K (del I a) l xs) := by
  intro n
  induction n with
  | zero => exact ⟨fun _ _ h => absurd h (Nat.not_lt_zero _), fun _ _ h => absurd h (Nat.not_lt_zero _), fun _ _ h => absurd h (Nat.not_lt_zero _), fun _ _ h => absurd h (Nat.not_lt_zero _)⟩
  | succ n ih =>
    obtain ⟨i1, i2, i3, i4⟩ := ih
    refine ⟨fun d v hn hb r m => ?_, fun l xs hn hb r m => ?_, fun l xs hn hb r m => ?_, fun l xs hn hb r m => ?_⟩
    · have ne : ∀ b, v = .ref b → b ≠ a := fun b e z => by
        subst z
        subst e
        have := Dn.uniq m r rb nb
        rw [this] at hb
        exact Nat.lt_irrefl _ hb
      cases m with
      | non => exact .non
      | bl b => exact .bl b
      | int i => exact .int i
      | str s => exact .str s
      | ty _ => cases r
      | cls _ => cases r
      | frl _ => cases r
      | dct _ => cases r
      | dcT h m =>
        cases r with
        | dcT r =>
          simp only [D.dcT.sizeOf_spec] at hn hb
          exact .dcT (by rw [del_ne (ne _ rfl)]; exact h) (i4 _ _ (by omega) (by omega) r m)
      | dcK h m =>
        cases r
        exact .dcK (by rw [del_ne (ne _ rfl)]; exact h) (by cases m; exact .nil)
      | tup h m =>
        cases r with
        | tup r =>
          simp only [D.tup.sizeOf_spec] at hn hb
          exact .tup (by rw [del_ne (ne _ rfl)]; exact h) (i2 _ _ (by omega) (by omega) r m)
      | lst h m =>
        cases r with
        | lst r =>
          simp only [D.lst.sizeOf_spec] at hn hb
          exact .lst (by rw [del_ne (ne _ rfl)]; exact h) (i2 _ _ (by omega) (by omega) r m)
      | obj h m =>
        cases r with
        | obj r =>
          simp only [D.obj.sizeOf_spec] at hn hb
          exact .obj (by rw [del_ne (ne _ rfl)]; exact h) (i3 _ _ (by omega) (by omega) r m)
    · cases m with
      | nil => exact .nil
      | cons h m =>
        cases r with
        | cons r1 r2 =>
          simp only [List.cons.sizeOf_spec] at hn hb
          exact .cons (i1 _ _ (by omega) (by omega) r1 h) (i2 _ _ (by omega) (by omega) r2 m)
    · cases m with
      | nil => exact .nil
      | cons h m =>
        cases r with
        | cons r1 r2 =>
          simp only [List.cons.sizeOf_spec, Prod.mk.sizeOf_spec] at hn hb
          exact .cons (i1 _ _ (by omega) (by omega) r1 h) (i3 _ _ (by omega) (by omega) r2 m)
    · cases m with
      | nil => exact .nil
      | cons h m =>
        cases r with
        | cons r1 r2 =>
          simp only [List.cons.sizeOf_spec, Prod.mk.sizeOf_spec] at hn hb
          exact .cons (i1 _ _ (by omega) (by omega) r1 h) (i4 _ _ (by omega) (by omega) r2 m)
theorem del_lst {a : Addr} {l : List D} {xs : List V} (r : Rps l) (h : I a = some (.lst xs)) (m : Dns K I l xs) : Dns K (del I a) l xs :=
  (del_sub (big := .lst l) (.lst r) (.lst h m) (sizeOf l + 1)).2.1 l xs (by omega) (by simp only [D.lst.sizeOf_spec]; omega) r m
theorem del_tup {a : Addr} {l : List D} {xs : List V} (r : Rps l) (h : I a = some (.tup xs)) (m : Dns K I l xs) : Dns K (del I a) l xs :=
  (del_sub (big := .tup l) (.tup r) (.tup h m) (sizeOf l + 1)).2.1 l xs (by omega) (by simp only [D.tup.sizeOf_spec]; omega) r m
end
/-! being written: a stands no more among what never changes, and is back behind it -/
section
variable {g : List Code} {W W2 : Wd} {H H2 : Hp} {a : Addr} {o : HO}
theorem Ok.write {id : String} {rest : List Value} {kw : List (Str × Value)} (ok : Ok g W H) (ha : W.I a = some o) (hk : ∀ ks : List Key, o ≠ .tup (ks.map kV)) : Ok (.builtin id ⟨.ref a :: rest, kw⟩ :: g) ⟨del W.I a, W.P⟩ H where
  gd := fun b hb => by
    obtain ⟨i, r, k, h⟩ := hb
    rcases List.mem_cons.mp h with e | h
    · cases e
      exact ⟨del_same, (fun z => by rw [ok.ex _ _ ha] at z; cases z), fun ks z => by rw [ok.ex _ _ ha] at z; exact hk ks (Option.some.inj z)⟩
    · obtain ⟨n1, n2⟩ := ok.gd b ⟨i, r, k, h⟩
      refine ⟨?_, n2⟩
      show del W.I a b = none
      rw [del_ne (fun z => by rw [z, ha] at n1; cases n1)]
      exact n1
  ex := fun b u e => by
    have e' : del W.I a b = some u := e
    by_cases z : b = a
    · rw [z, del_same] at e'; cases e'
    · rw [del_ne z] at e'; exact ok.ex b u e'
  pot := fun b pb => by
    obtain ⟨n, x⟩ := ok.pot b pb
    refine ⟨?_, x⟩
    by_cases z : b = a
    · rw [z]; exact del_same
    · show del W.I a b = none
      rw [del_ne z]; exact n
theorem InG.cons {c : Code} {b : Addr} (h : InG g b) : InG (c :: g) b := let ⟨i, r, k, m⟩ := h; ⟨i, r, k, List.mem_cons_of_mem _ m⟩
/-- behind the writing -/
theorem written_stp {c : Code} (hc : InG (c :: g) a) (ok : Ok g W H) (ha : W.I a = some o) (st : Stp ⟨del W.I a, W.P⟩ H W2 H2) (ok2 : Ok (c :: g) W2 H2) : Stp W H (W2.new a o) H2 ∧ Ok g (W2.new a o) H2 := by
  have hH : H a = some o := ok.ex _ _ ha
  have nP : ¬ W.P a := fun z => by rw [(ok.pot a z).1] at ha; cases ha
  have h2 : H2 a = some o := st.keep a o hH nP
  have i2 : W2.I a = none := (ok2.gd a hc).1
  have nP2 : ¬ W2.P a := fun z => nP (st.oldP a o hH z)
  have ng : ¬ InG g a := fun z => by rw [(ok.gd a z).1] at ha; cases ha
  refine ⟨⟨fun b u e => ?_, st.P, st.keep, fun b u e hu n => ?_, st.oldP⟩, ?_⟩
  · show upd W2.I a o b = some u
    by_cases z : b = a
    · subst z
      rw [ha] at e
      cases e
      exact upd_same
    · rw [upd_ne z]
      exact st.I b u (by show del W.I a b = some u; rw [del_ne z]; exact e)
  · show upd W2.I a o b = none
    have z : b ≠ a := fun z => by rw [z, ha] at n; cases n
    rw [upd_ne z]
    exact st.old b u e hu (by show del W.I a b = none; rw [del_ne z]; exact n)
  · exact {
      gd := fun b hb => by
        obtain ⟨n1, n2⟩ := ok2.gd b hb.cons
        refine ⟨?_, n2⟩
        show upd W2.I a o b = none
        have ne : b ≠ a := fun z => ng (z ▸ hb)
        rw [upd_ne ne]
        exact n1
      ex := fun b u e => by
        have e' : upd W2.I a o b = some u := e
        by_cases z : b = a
        · subst z; rw [upd_same] at e'; cases e'; exact h2
        · rw [upd_ne z] at e'; exact ok2.ex b u e'
      pot := fun b pb => by
        obtain ⟨n, x⟩ := ok2.pot b pb
        refine ⟨?_, x⟩
        show upd W2.I a o b = none
        have ne : b ≠ a := fun z => nP2 (z ▸ pb)
        rw [upd_ne ne]
        exact n }
end
end DL

set_option Elab.async false
set_option linter.all false
set_option maxRecDepth 100000
set_option maxHeartbeats 4000000
/-! how lists and tuples that hold own objects are written -/
namespace DL
open PySem PySem.Spec PyProof.Rows L2 Builtin Builtin.List
/-- an around that stands in the same def -/
structure Ar (X : Cx) (k : Nat) (A : Around) : Prop where
  r : Room k A
  f : A.frames = some X.stack
theorem Ar.env {X : Cx} {k : Nat} {A : Around} {pins : List (Addr × Obj)} {σ : L2.St} {H : Hp} {s : Shared} (h : Ar X k A) (I : Inv X pins σ H s) : Env0 X.prog X.w X.K X.mg X.base A X.stack s H :=
  let e := I.env0
  ⟨h.f, e.mod, e.bs, e.bsz, e.funs, e.frf, e.hok, e.bare⟩
theorem ar_loop {X : Cx} {k : Nat} {A : Around} {args : PySem.Args} (h : Ar X (k + 1) A) : Ar X k (A.under (.builtin "list.__repr__.loop" args)) where
  r := ⟨h.r.hd, by
    have := h.r.dp
    have e : (A.under (.builtin "list.__repr__.loop" args)).depth ≤ A.depth + 1 := by
      first | exact Nat.le_refl _ | exact Nat.le_succ _ | simp [Around.under, Code.weight, Code.isCreation, Code.isGuard, Code.isCaller, Code.frames, Code.isFrame, guardIds]
    omega, by have := h.r.un; rw [units_under_list_loop]; omega⟩
  f := by first | exact h.f | (simpa [Around.under, Code.envs, Code.isFrame, pushEnvs] using h.f)
theorem ar_tup {X : Cx} {k : Nat} {A : Around} {id : String} {args : PySem.Args} (h : Ar X (k + 1) A) (hi : id = "tuple.__repr__" ∨ id = "tuple.__repr__.under") : Ar X k (A.under (.builtin id args)) := by
  rcases hi with rfl | rfl
  · exact ⟨⟨h.r.hd, by
      have := h.r.dp
      have e : (A.under (.builtin "tuple.__repr__" args)).depth ≤ A.depth + 1 := by
        first | exact Nat.le_refl _ | exact Nat.le_succ _ | simp [Around.under, Code.weight, Code.isCreation, Code.isGuard, Code.isCaller, Code.frames, Code.isFrame, guardIds]
      omega, by have := h.r.un; rw [units_under_tuple_repr]; omega⟩, by first | exact h.f | (simpa [Around.under, Code.envs, Code.isFrame, pushEnvs] using h.f)⟩
  · exact ⟨⟨h.r.hd, by
      have := h.r.dp
      have e : (A.under (.builtin "tuple.__repr__.under" args)).depth ≤ A.depth + 1 := by
        first | exact Nat.le_refl _ | exact Nat.le_succ _ | simp [Around.under, Code.weight, Code.isCreation, Code.isGuard, Code.isCaller, Code.frames, Code.isFrame, guardIds]
      omega, by have := h.r.un; rw [units_under_tuple_repr_under]; omega⟩, by first | exact h.f | (simpa [Around.under, Code.envs, Code.isFrame, pushEnvs] using h.f)⟩
/-- d is written as t -/
def Wr (X : Cx) (k : Nat) (d : D) (t : Str) : Prop := ∀ (A : Around) (g : List Code) (W : Wd) (H : Hp) (pins : List (Addr × Obj)) (σ : L2.St) (s : Shared) (v : V) (u : Value) (base : Nat) (Q : Str → Shared → Prop) (E : Value → Shared → Prop), Ar X k A → A.guards = some g → Ok g W H → Inv X pins σ H s → Dn X.K W.I d v → RelV v u → base + t.length ≤ sizeLine →
  (∀ W' H' s', Stp W H W' H' → Ok g W' H' → Inv X pins σ H' s' → Q t s') → wpAny (model X.prog X.w) A (pyReprUnder base u) Q E s
section
variable {X : Cx} {k : Nat}
theorem Ok.swap {g : List Code} {W : Wd} {H : Hp} {id id' : String} {a : Addr} {r r' : List Value} {kw kw' : List (Str × Value)} (ok : Ok (.builtin id ⟨.ref a :: r, kw⟩ :: g) W H) : Ok (.builtin id' ⟨.ref a :: r', kw'⟩ :: g) W H where
  gd := fun b hb => by
    obtain ⟨i, rr, k, h⟩ := hb
    rcases List.mem_cons.mp h with e | h
    · cases e
      exact ok.gd _ ⟨id, r, kw, List.mem_cons_self⟩
    · exact ok.gd b ⟨i, rr, k, List.mem_cons_of_mem _ h⟩
  ex := ok.ex
  pot := ok.pot
theorem vals_strs : ∀ {ts : List Str} {its : List Value}, Vals (ts.map V.str) its → ∃ done : List (Str × Tok), its = strValues done ∧ done.map (·.1) = ts
  | [], _, .nil => ⟨[], rfl, rfl⟩
  | t :: ts, _, .cons ⟨tk, e⟩ r => by
    obtain ⟨done, e1, e2⟩ := vals_strs r
    subst e e1
    exact ⟨(t, tk) :: done, rfl, by rw [List.map_cons, e2]⟩
theorem dns_strs {K : PySem.W.Frag} {I : Hp} : ∀ {ts : List Str} {xs : List V}, Dns K I (ts.map D.str) xs → xs = ts.map V.str
  | [], _, .nil => rfl
  | t :: ts, _, .cons (.str _) r => by rw [List.map_cons, dns_strs r]
section
variable {A : Around} {g : List Code} {a P : Addr} {W1 : Wd} {H1 : Hp} {pins : List (Addr × Obj)} {σ : L2.St} {l : List D} {xs : List V} {ts : List Str} {base : Nat} {R : PySem.Result → Shared → Prop}
theorem wr_loop (hA : Ar X (k + 1) A) (hg : A.guards = some g) (ha : H1 a = some (.lst xs)) (nP : ¬ W1.P a) (hm : Dns X.K W1.I l xs) (hP : H1 P = none) (hlen : ts.length = l.length) (hl : l.length ≤ 1000)
    (hT : ∀ (i : Nat) d, l[i]? = some d → ∃ t, ts[i]? = some t ∧ Wr X k d t) (hsz : base + (listText ts).length ≤ sizeLine)
    (hR : ∀ W' H' s' u, Stp W1 H1 W' H' → (∀ r kw, Ok (.builtin "list.__repr__.loop" ⟨.ref a :: r, kw⟩ :: g) W' H') → Inv X pins σ H' s' → R (.ok (.ret (.str (listText ts) u))) s') :
    ∀ (n i : Nat) (s : Shared) (W : Wd) (H : Hp), l.length - i = n → i ≤ l.length → Mid X.K (.builtin "list.__repr__.loop" ⟨.ref a :: [], []⟩ :: g) W1 H1 P ((ts.take i).map D.str) W H → Inv X pins σ H s →
      codeAny (model X.prog X.w) A (.builtin "list.__repr__.loop" ⟨[.ref a, rawInt i, .ref P, rawInt ((base + piled (ts.take i) : Nat) : Int)], []⟩) R s := by
  have t0 := textFrom_len ts 0 "["
  have tx : (listText ts).length = (textFrom 0 "[" ts).length + 1 := by show (textFrom 0 "[" ts ++ "]").length = _; rw [strLen_append]; rfl
  have each : ∀ t ∈ ts, t.length ≤ sizeLine := fun t ht => by have := t0.2.1 t ht; omega
  have top := piled_le_listText ts
  intro n
  induction n with
  | zero =>
    intro i s W H hn hi m I
    have ei : i = l.length := by omega
    obtain ⟨_, its, n0, rv, _, get⟩ := I.lstM (m.st.keep a _ ha nP)
    have li : its.length = l.length := by rw [← rv.length, ← hm.length]
    refine codeAny_builtin F.entry_list_repr_loop ?_
    show wpAny _ _ («list.__repr__.loop» ⟨[.ref a, .int i 0, .ref P, .int ((base + piled (ts.take i) : Nat) : Int) 0], []⟩) _ _ s
    rw [repr_loop_tree]; refine wpAny_bind (wpAny_listItems get rfl ?_)
    have none_ : its.toArray[(i : Int).toNat]? = none := by simp; omega
    simp only [none_]; unfold reprEnd
    obtain ⟨ps, hp, dp⟩ := m.h
    obtain ⟨_, its2, n2, rv2, _, get2⟩ := I.lstM hp
    rw [dns_strs dp] at rv2
    obtain ⟨done, e1, e2⟩ := vals_strs rv2
    refine wpAny_bind (wpAny_listItems get2 rfl ?_)
    rw [show its2.toArray.toList = strValues done by simpa using e1, repr_fold]
    refine wpAny_bind (wpAny_pure ?_); rw [e2, ei, ← hlen, List.take_length]
    refine wpAny_bind (wpAny_mkStr (wpAny_pure ?_) (by show (listText ts).length ≤ sizeLine; omega))
    exact hR W H _ _ m.st (fun r kw => m.ok.swap) (I.tok _)
  | succ n ih =>
    intro i s W H hn hi m I
    have lt : i < l.length := by omega
    have el : l[i]? = some l[i] := List.getElem?_eq_getElem lt
    obtain ⟨t, et, wr⟩ := hT i _ el
    have p1 := piled_take_succ et
    have p2 := piled_take_le ts (i + 1)
    obtain ⟨_, its, n0, rv, _, get⟩ := I.lstM (m.st.keep a _ ha nP)
    obtain ⟨v, ev, dv⟩ := hm.get' el
    obtain ⟨u, eu, ru⟩ := rv.get ev
    refine codeAny_builtin F.entry_list_repr_loop ?_
    show wpAny _ _ («list.__repr__.loop» ⟨[.ref a, .int i 0, .ref P, .int ((base + piled (ts.take i) : Nat) : Int) 0], []⟩) _ _ s
    rw [repr_loop_tree]; refine wpAny_bind (wpAny_listItems get rfl ?_)
    have some_ : its.toArray[(i : Int).toNat]? = some u := by simpa using eu
    simp only [some_]; rw [Int.toNat_natCast]
    refine wpAny_bind (wpAny_holding (wr _ _ W H pins σ s v u (base + piled (ts.take i) + 1) _ _ (ar_loop hA) (guards_under_guard (isGuard_list_loop _) hg) m.ok.swap I (dv.mono m.st.I) ru (by omega) fun W2 H2 s2 st2 ok2 I2 => ?_))
    refine wpAny_bind (wpAny_mkStr ?_ (each t (List.mem_of_getElem? et)))
    have m2 := m.step st2 ok2.swap
    obtain ⟨ps, hp, dp⟩ := m2.h
    have lp := dp.length
    rw [List.length_map, List.length_take] at lp
    obtain ⟨_, its2, n2, rv2, l2, get2⟩ := I2.lstM hp
    have lq : its2.length ≤ 1000 := by rw [← l2]; omega
    obtain ⟨ps', hp', _, m3⟩ := m2.more (d := .str t) hP (.str t) (by rw [List.length_map, List.length_take]; omega)
    rw [hp] at hp'
    cases hp'
    refine wpAny_bind ?_; show wpAny _ _ (updateSeq P _) _ _ _
    refine wpAny_updateSeq get2 rfl (wpAny_pure ⟨F.quiet_list_repr_loop _, ?_⟩) (by rw [List.size_toArray]; exact Nat.le_trans lq (by decide))
    have I3 := I2.lset (its' := its2 ++ [.str t s2.toks]) (ys := ps ++ [V.str t]) (f := (·.push (.str t s2.toks))) (t' := s2.toks + 1) hp get2 (by simp) (rv2.append (.cons ⟨_, rfl⟩ .nil)) (by rw [List.length_append, List.length_singleton, l2]; exact Nat.le_trans (Nat.succ_le_succ lq) (by decide))
    have e3 : (ts.take i).map D.str ++ [D.str t] = (ts.take (i + 1)).map D.str := by rw [List.take_add_one, et, List.map_append]; rfl
    rw [e3] at m3
    have e4 : ((i : Int) + 1) = ((i + 1 : Nat) : Int) := by omega
    have e5 : base + piled (ts.take i) + (t.length + 2) = base + piled (ts.take (i + 1)) := by omega
    rw [e4, e5]
    exact ih (i + 1) _ _ _ (by omega) lt m3 I3
end
end
end DL

set_option Elab.async false
set_option linter.all false
set_option maxRecDepth 100000
set_option maxHeartbeats 4000000
namespace DL
open PySem PySem.Spec PyProof.Rows L2 Builtin Builtin.List
section
variable {X : Cx} {k : Nat}
theorem wr_lstBody {A : Around} {g : List Code} {l : List D} {ts : List Str} {a : Addr} {xs : List V} {W : Wd} {H : Hp} {pins : List (Addr × Obj)} {σ : L2.St} {s : Shared} {base : Nat} {R : PySem.Result → Shared → Prop} (hl : l.length ≤ 1000) (hA : Ar X (k + 1) A) (hg : A.guards = some g) (ok : Ok g W H) (I : Inv X pins σ H s) (ha : W.I a = some (.lst xs)) (hm : Dns X.K W.I l xs)
    (rp : Rps l) (hlen : ts.length = l.length) (hT : ∀ (i : Nat) d, l[i]? = some d → ∃ t, ts[i]? = some t ∧ Wr X k d t) (hb : base + (listText ts).length ≤ sizeLine) (q : ∀ W' H' s' u, Stp W H W' H' → Ok g W' H' → Inv X pins σ H' s' → R (.ok (.ret (.str (listText ts) u))) s') :
    wpAny (model X.prog X.w) A.in1 (Builtin.listReprAt base ⟨[.ref a], []⟩) (fun fin s' => match fin with | .done f => R (.ok f) s' | .again c' => c'.quiet = true ∧ codeAny (model X.prog X.w) A c' R s') (fun e s' => R (.error e) s') s := by
  have hH := ok.ex _ _ ha
  obtain ⟨_, its, n0, rv, le, get⟩ := I.lstM hH
  have nP : ¬ W.P a := fun z => by rw [(ok.pot a z).1] at ha; cases ha
  have clr : ∀ b, InG g b → b ≠ a := fun b z e => by rw [e] at z; rw [(ok.gd a z).1] at ha; cases ha
  cases its with
  | nil =>
    have l0 : l = [] := List.length_eq_zero_iff.mp (by rw [hm.length, le]; rfl)
    subst l0
    have t0 : ts = [] := List.length_eq_zero_iff.mp hlen
    subst t0
    exact wpAny_list_repr_empty get rfl (q W H _ _ Stp.refl ok (I.tok _))
  | cons x r =>
    refine wpAny_list_repr_head (A := A.in1) hg (fun v rest kw h => listSameRef_of_ne fun e => clr a ⟨_, rest, kw, e ▸ h⟩ rfl) get rfl ?_
    refine wpAny_bind (m := newList []) (wpAny_newObj_type ?_); refine wpAny_pure ⟨F.quiet_list_repr_loop _, ?_⟩
    have hP := I.fresh
    have ok1 : ∀ r kw, Ok (.builtin "list.__repr__.loop" ⟨.ref a :: r, kw⟩ :: g) ⟨del W.I a, W.P⟩ H := fun r kw => ok.write ha fun ks z => by cases z
    have I1 := I.lnew (its := []) (ys := []) (t' := s.toks) .nil (Nat.zero_le _)
    refine wr_loop (W1 := ⟨del W.I a, W.P⟩) (H1 := H) (xs := xs) (pins := pins) (σ := σ) hA hg hH nP (del_lst rp ha hm) hP hlen hl hT hb (fun W' H' s' u st okc I' => ?_) _ 0 _ ⟨del W.I a, W.P⟩ _ rfl (Nat.zero_le _) ⟨Stp.own hP, (ok1 [] []).own hP, (ok1 [] []).notP hP, (ok1 [] []).free hP, [], upd_same, .nil⟩ I1
    obtain ⟨st2, ok2⟩ := written_stp ⟨_, _, _, List.mem_cons_self ..⟩ ok ha st (okc [] [])
    exact q _ _ _ u st2 ok2 I'
theorem wr_list {l : List D} {ts : List Str} (hl : l.length ≤ 1000) (rp : Rps l) (hlen : ts.length = l.length) (hT : ∀ (i : Nat) d, l[i]? = some d → ∃ t, ts[i]? = some t ∧ Wr X k d t) : Wr X (k + 1) (.lst l) (listText ts) := fun A g W H pins σ s v u base Q E hA hg ok I n r hb q => by
  cases n with
  | @lst _ a xs ha hm =>
    cases r
    obtain ⟨_, its, n0, rv, le, get⟩ := I.lstM (ok.ex _ _ ha)
    have ty : s.TypeIs (.ref a) "list" := ⟨_, get, rfl⟩
    refine wpAny_pyReprUnder_ref (by omega) ?_
    refine wpAny_pyReprObjUnder_twin (twin := "list.__repr__.under") ty F.slot_list_repr.toG rfl hA.r.units0 ?_
    refine call_twin_plain F.plain_list_repr_under F.entry_list_repr_under F.check_list_repr_under ty F.slot_list_repr.toG (F.args_list_repr_1 _) ?_
    exact wr_lstBody hl hA hg ok I ha hm rp hlen hT hb fun W' H' s' u st ok' I' => ⟨⟨_, _, rfl⟩, _, _, rfl, q _ _ _ st ok' I'⟩
theorem wr_fold {A : Around} {g : List Code} (hA : Ar X k A) (hg : A.guards = some g) {W1 : Wd} {H1 : Hp} {pins : List (Addr × Obj)} {σ : L2.St} {E : Value → Shared → Prop} (l : List D) : ∀ (xs : List V) (us : List Value) (ts : List Str) (acc : Array Str) (n : Nat) (s : Shared) (W : Wd) (H : Hp) (Q : (Array Str × Nat) → Shared → Prop),
    Dns X.K W1.I l xs → Vals xs us → ts.length = l.length → (∀ (i : Nat) d, l[i]? = some d → ∃ t, ts[i]? = some t ∧ Wr X k d t) → n + piled ts ≤ sizeLine → Stp W1 H1 W H → Ok g W H → Inv X pins σ H s →
    (∀ W' H' s', Stp W1 H1 W' H' → Ok g W' H' → Inv X pins σ H' s' → Q ⟨acc ++ ts.toArray, n + piled ts⟩ s') → wpAny (model X.prog X.w) A (forIn us (⟨acc, n⟩ : (Array Str × Nat)) tupBody) Q E s := by
  induction l with
  | nil =>
    intro xs us ts acc n s W H Q hm hr hlen hT hn st ok I q
    cases hm
    cases hr
    have t0 : ts = [] := List.length_eq_zero_iff.mp hlen
    subst t0
    simp only [List.forIn_nil]
    exact wpAny_pure (by simpa [piled] using q W H s st ok I)
  | cons d l ih =>
    intro xs us ts acc n s W H Q hm hr hlen hT hn st ok I q
    cases hm with
    | cons m ms => cases hr with
      | cons r rs => cases ts with
        | nil => cases hlen
        | cons t ts =>
          rw [piled_cons] at hn
          rw [List.forIn_cons]
          obtain ⟨t', e, wr⟩ := hT 0 d rfl
          cases e
          refine wpAny_bind (wpAny_bind (wr A g W H pins σ s _ _ (n + 1) _ E hA hg ok I (m.mono st.I) r (by omega) fun W2 H2 s2 st2 ok2 I2 => wpAny_pure ?_))
          refine ih _ _ ts (acc.push t) (n + (t.length + 2)) s2 W2 H2 Q ms rs (Nat.succ.inj hlen) (fun i d h => hT (i + 1) d h) (by omega) (st.trans ok st2) ok2 I2 fun W' H' s' st' ok' I' => ?_
          have h1 := q W' H' s' st' ok' I'
          have e : n + piled (t :: ts) = n + (t.length + 2) + piled ts := by rw [piled_cons]; omega
          rw [e] at h1
          simpa using h1
theorem wr_tupBody {A : Around} {g : List Code} {id : String} {rest : List Value} {l : List D} {ts : List Str} {a : Addr} {xs : List V} {W : Wd} {H : Hp} {pins : List (Addr × Obj)} {σ : L2.St} {s : Shared} {base : Nat} {R : PySem.Result → Shared → Prop} (hi : id = "tuple.__repr__" ∨ id = "tuple.__repr__.under") (hA : Ar X (k + 1) A) (hg : A.guards = some g) (ok : Ok g W H) (I : Inv X pins σ H s) (ha : W.I a = some (.tup xs)) (hk : ∀ ks : List Key, HO.tup xs ≠ .tup (ks.map kV)) (hm : Dns X.K W.I l xs)
    (rp : Rps l) (hlen : ts.length = l.length) (hT : ∀ (i : Nat) d, l[i]? = some d → ∃ t, ts[i]? = some t ∧ Wr X k d t) (hb : base + (tupleText ts).length ≤ sizeLine) (q : ∀ W' H' s' u, Stp W H W' H' → Ok g W' H' → Inv X pins σ H' s' → R (.ok (.ret (.str (tupleText ts) u))) s') :
    wpOwn (model X.prog X.w) A (.builtin id ⟨.ref a :: rest, []⟩) (Builtin.tupleReprAt base ⟨[.ref a], []⟩) (fun fin s' => match fin with | .done f => R (.ok f) s' | .again c' => c'.quiet = true ∧ codeAny (model X.prog X.w) A c' R s') (fun e s' => R (.error e) s') s := by
  have hH := ok.ex _ _ ha
  obtain ⟨its, rv, ⟨o, ho, hc, n0, hd⟩, _⟩ := I.tuple (SqT.of hH)
  have tl := piled_le_tupleText ts
  have li : its.length = ts.length := by rw [← rv.length, ← hm.length, hlen]
  have clr : Clear g a := clear_of fun z => by rw [(ok.gd a z).1] at ha; cases ha
  have hcg : (Code.builtin id ⟨.ref a :: rest, []⟩).isGuard = true := by
    rcases hi with rfl | rfl
    · exact isGuard_tuple_repr _
    · exact isGuard_tuple_repr_under _
  rw [tuple_repr_tree, tupleReprUnderWay_eq]; refine wpOwn_bind (wpOwn_stackTailAny hg (tupGuardF_off _) (tupGuardF_pos _) ?_)
  have no : (g.any fun c => tupGuardF (.ref a) (c, default)) = false := by
    rw [List.any_eq_false]; intro c hcm; rw [tupGuardF_of_clear clr c hcm]; exact Bool.false_ne_true
  rw [no]; refine wpOwn_of_wpAny ?_
  show wpAny _ _ (tupleReprRest base (.ref a)) _ _ s
  unfold tupleReprRest Builtin.Tuple.tupleItemsOf; refine wpAny_bind (wpAny_bind (wpAny_seqItems ho hd (wpAny_pure ?_)))
  rw [← Array.forIn_toList]
  refine wpAny_bind (wr_fold (W1 := ⟨del W.I a, W.P⟩) (H1 := H) (ar_tup hA hi) (guards_under_guard hcg hg) l xs its ts _ _ _ ⟨del W.I a, W.P⟩ H _ (del_tup rp ha hm) rv hlen hT (by omega) Stp.refl (ok.write ha hk) I fun W' H' s' st okc I' => ?_)
  refine wpAny_bind (wpAny_mkStr (wpAny_pure ?_) (by simpa [tupleText, li] using (show (tupleText ts).length ≤ sizeLine by omega)))
  obtain ⟨st2, ok2⟩ := written_stp ⟨_, _, _, List.mem_cons_self ..⟩ ok ha st okc
  have z := q _ _ _ s'.toks st2 ok2 (I'.tok (s'.toks + 1))
  simpa [tupleText, li] using z
theorem keys_back {K : PySem.W.Frag} {I : Hp} : ∀ {l : List D} {ks : List Key}, Dns K I l (ks.map kV) → l = ks.map kD
  | _, [], m => by cases m; rfl
  | _, k :: ks, m => by
    cases m with
    | cons h t =>
      rw [keys_back t]
      have e : ∀ {d : D}, Dn K I d (kV k) → d = kD k := fun {d} h => by
        cases k with
        | inl i => cases h; rfl
        | inr s => cases h; rfl
      rw [e h]
      rfl
theorem wr_tup {l : List D} {ts : List Str} (nk : ∀ ks : List Key, l ≠ ks.map kD) (rp : Rps l) (hlen : ts.length = l.length) (hT : ∀ (i : Nat) d, l[i]? = some d → ∃ t, ts[i]? = some t ∧ Wr X k d t) : Wr X (k + 1) (.tup l) (tupleText ts) := fun A g W H pins σ s v u base Q E hA hg ok I n r hb q => by
  cases n with
  | @tup _ a xs ha hm =>
    cases r
    obtain ⟨its, rv, ⟨o, ho, hc, n0, hd⟩, _⟩ := I.tuple (SqT.of (ok.ex _ _ ha))
    have ty : s.TypeIs (.ref a) "tuple" := ⟨o, ho, hc⟩
    refine wpAny_pyReprUnder_ref (by omega) ?_
    refine wpAny_pyReprObjUnder_twin (twin := "tuple.__repr__.under") ty F.slot_tuple_repr rfl hA.r.units0 ?_
    refine call_twin_own (F.quiet_tuple_repr_under _) F.entry_tuple_repr_under F.check_tuple_repr_under ty F.slot_tuple_repr (F.args_tuple_repr_1 _) ?_
    exact wr_tupBody (.inr rfl) hA hg ok I ha (fun ks z => by cases z; exact nk ks (keys_back hm)) hm rp hlen hT hb fun W' H' s' u st ok' I' => ⟨⟨_, _, rfl⟩, _, _, rfl, q _ _ _ st ok' I'⟩
/-- a tuple of ints -/
theorem wr_foldI {A : Around} {g : List Code} {E : Value → Shared → Prop} (is : List Int) : ∀ (us : List Value) (acc : Array Str) (n : Nat) (s : Shared) (Q : (Array Str × Nat) → Shared → Prop),
    (∀ i ∈ is, i.natAbs.log2 < 1920) → Vals (is.map V.int) us → n + piled (is.map fun i => (toString i : Str)) ≤ sizeLine → (∀ tk, Q ⟨acc ++ (is.map fun i => (toString i : Str)).toArray, n + piled (is.map fun i => (toString i : Str))⟩ { s with toks := tk }) → wpAny (model X.prog X.w) A (forIn us (⟨acc, n⟩ : (Array Str × Nat)) tupBody) Q E s := by
  induction is with
  | nil =>
    intro us acc n s Q hi hv hn q
    cases hv
    simp only [List.forIn_nil]
    exact wpAny_pure (by simpa [piled] using q s.toks)
  | cons i is ih =>
    intro us acc n s Q hi hv hn q
    rw [List.map_cons] at hv
    cases hv with
    | cons r rs =>
      obtain ⟨t, rfl⟩ := r
      rw [List.map_cons, piled_cons] at hn
      rw [List.forIn_cons]
      refine wpAny_bind (wpAny_bind (ReprIs.int t (hi i (List.mem_cons_self ..)) (n + 1) (by omega) A E s _ fun tk => wpAny_pure ?_))
      refine ih _ (acc.push (toString i : Str)) (n + (((toString i : Str)).length + 2)) _ Q (fun i h => hi i (List.mem_cons_of_mem _ h)) rs (by omega) fun tk2 => ?_
      have h1 := q tk2
      rw [List.map_cons, piled_cons] at h1
      have e : n + ((toString i : Str).length + 2 + piled (is.map fun i => (toString i : Str))) = n + ((toString i : Str).length + 2) + piled (is.map fun i => (toString i : Str)) := by omega
      rw [e] at h1
      simpa using h1
theorem wr_tupI {is : List Int} (hi : ∀ i ∈ is, i.natAbs.log2 < 1920) : Wr X (k + 1) (tI is) (tupleText (is.map fun i => (toString i : Str))) := fun A g W H pins σ s v u base Q E hA hg ok I n r hb q => by
  cases n with
  | @tup _ a xs ha hm =>
    cases r
    rw [Dns.ints hm] at ha
    have hH := ok.ex _ _ ha
    obtain ⟨its, rv, ⟨o, ho, hc, n0, hd⟩, _⟩ := I.tuple (SqT.of hH)
    have ty : s.TypeIs (.ref a) "tuple" := ⟨o, ho, hc⟩
    refine wpAny_pyReprUnder_ref (by omega) ?_
    refine wpAny_pyReprObjUnder_twin (twin := "tuple.__repr__.under") ty F.slot_tuple_repr rfl hA.r.units0 ?_
    refine call_twin_own (F.quiet_tuple_repr_under _) F.entry_tuple_repr_under F.check_tuple_repr_under ty F.slot_tuple_repr (F.args_tuple_repr_1 _) ?_
    have tl := piled_le_tupleText (is.map fun i => (toString i : Str))
    have li : its.length = (is.map fun i => (toString i : Str)).length := by rw [← rv.length, List.length_map, List.length_map]
    have clr : Clear g a := clear_of fun z => by rw [(ok.gd a z).1] at ha; cases ha
    rw [tuple_repr_tree, tupleReprUnderWay_eq]; refine wpOwn_bind (wpOwn_stackTailAny hg (tupGuardF_off _) (tupGuardF_pos _) ?_)
    have no : (g.any fun c => tupGuardF (.ref a) (c, default)) = false := by
      rw [List.any_eq_false]; intro c hcm; rw [tupGuardF_of_clear clr c hcm]; exact Bool.false_ne_true
    rw [no]; refine wpOwn_of_wpAny ?_
    show wpAny _ _ (tupleReprRest base (.ref a)) _ _ s
    unfold tupleReprRest Builtin.Tuple.tupleItemsOf; refine wpAny_bind (wpAny_bind (wpAny_seqItems ho hd (wpAny_pure ?_)))
    rw [← Array.forIn_toList]
    refine wpAny_bind (wr_foldI (g := g) is its _ _ _ _ hi rv (by omega) fun tk => ?_)
    refine wpAny_bind (wpAny_mkStr (wpAny_pure ?_) (by simpa [tupleText, li] using (show (tupleText (is.map fun i => (toString i : Str))).length ≤ sizeLine by omega)))
    have z := q W H { s with toks := tk + 1 } Stp.refl ok (I.tok (tk + 1))
    exact ⟨⟨_, _, rfl⟩, _, _, rfl, by simpa [tupleText, li] using z⟩
/-- an object by its own __repr__ -/
theorem wr_obj {C : Addr} {fs : List (Str × D)} {t : Str} {sp : SpD} (F : Sm X.prog X.w X.K X.mg X.base C "__repr__" k sp) (q : ∀ Q : D → Prop, Q (.str t) → sp [.val (.obj C fs)] Q) : Wr X k (.obj C fs) t := fun A g W H pins σ s v u base Q E hA hg ok I n r hb c => by
  cases id n with
  | @obj _ _ p _ _ ha _ =>
    have r' := r
    cases (show u = Value.ref p from r)
    obtain ⟨f, fd, ps, F, hf, hi, hbb⟩ := F.ex
    obtain ⟨ox, od, J⟩ := inst_at I (ok.ex _ _ ha)
    refine wpAny_pyReprUnder_ref (by omega) ?_
    unfold pyReprObjUnder pyReprObjBy
    refine wpAny_bind (wpAny_cRoomFor hA.r.units0 ?_); refine wpAny_bind (wpAny_bind (J.type.here ((PySem.W.looks_findIn I.kIn hf).here ?_)))
    show wpAny _ _ (if (some (Value.ref f)).isNone = true then _ else _) _ _ _
    rw [if_neg (by simp)]
    have run : wpAny (model X.prog X.w) A (call (.ref f) [.ref p]) (fun r s' => ∃ tk, r = .str t tk ∧ Q t s') E s := by
      have hsp : lift X.K sp g [.ref p] H (fun z H' => z = .str t ∧ ∀ s', Inv X pins σ H' s' → Q t s') :=
        ⟨_, W, fun d => d = .str t, ok, .cons (show Arg X.K W (.val (.obj C fs)) (.ref p) from n) .nil, q _ rfl, fun d v2 W' H' st ok' n' e => by
          subst e
          cases n'
          exact ⟨rfl, fun s' I' => c W' H' s' st ok' I'⟩⟩
      refine wpAny_call (run_gn (A := A) (us := [.ref p]) (vs := [.ref p]) F hA.r hg (hA.env I) hbb .nil I (.cons r' .nil) hsp fun u s' hv => ?_)
      obtain ⟨z, H', I3, rz, e, q3⟩ := hv
      subst e
      obtain ⟨tk, rfl⟩ := (show ∃ tk, u = Value.str t tk from rz)
      exact ⟨tk, rfl, q3 s' I3⟩
    have fin : wpAny (model X.prog X.w) A (call (.ref f) ([.ref p] ++ []) >>= fun v => pure (some v)) (fun r s' => ∃ tk, r = some (.str t tk) ∧ Q t s') E s := wpAny_bind (wpAny_mono run (fun r s' ⟨tk, e, q⟩ => wpAny_pure ⟨tk, by rw [e], q⟩) fun _ _ y => y)
    refine wpAny_bind (wpAny_mono (Q := fun r s' => ∃ tk, r = some (.str t tk) ∧ Q t s') ?_ (fun r s' ⟨tk, e, qq⟩ => ?_) fun _ _ y => y)
    · simp only [callSpecialIfBoundBy?, bindSpecialIfBound?]
      refine wpAny_holding (wpAny_bind (wpAny_bind (wpAny_bind (J.type.here ((PySem.W.looks_findIn I.kIn hf).here ?_)))))
      refine wpAny_bind (wpAny_askSetting (wpAny_ite ?_))
      split
      · exact wpAny_bind ((PySem.W.bind_fn I.kIn _ (beq_iff_eq.mp hi)).here (wpAny_pure (by exact fin)))
      · exact wpAny_tryCatch (wpAny_bind ((PySem.W.bind_fn I.kIn _ (beq_iff_eq.mp hi)).here (wpAny_pure (by exact fin))))
    · subst e
      refine wpAny_bind (wpAny_isInstance (typeIs_str _ _ _) isSubtype_str_str ?_)
      first
        | exact wpAny_pure ⟨_, _, rfl, qq⟩
        | (rw [if_pos rfl]; exact wpAny_pure ⟨_, _, rfl, qq⟩)
        | (simp only [if_true]; exact wpAny_pure ⟨_, _, rfl, qq⟩)
theorem ar_here {pins : List (Addr × Obj)} {σ : L2.St} {H : Hp} {s : Shared} (hr : Room (k + 1) X.A) (I : Inv X pins σ H s) : Ar X k X.A.in1 := ⟨hr.in1, I.env0.frames⟩
end
end DL

set_option Elab.async false
set_option linter.all false
set_option maxRecDepth 100000
set_option maxHeartbeats 2000000
/-! {x!r}: a list with own objects, in a text -/
namespace DL
open PySem PySem.Spec PyProof.Rows L2
theorem pyReprObj_slot {prog : Program} {w : World} {A : Around} {E : Value → Shared → Prop} {s : Shared} {T idr : String} {v : Value} {Q : Value → Shared → Prop} (hu : A.units < cLine) (hT : s.TypeIs v T) (slotRepr : SlotG T "__repr__" idr)
    (hc : wpAny (model prog w) A (call (.builtin idr) [v]) (fun r s₁ => ∃ x t, r = .str x t ∧ Q r s₁) E s) : wpAny (model prog w) A (pyReprObj v) Q E s := by
  unfold pyReprObj
  refine wpAny_bind (m := cRoomFor _ _) (wpAny_cRoomFor hu ?_)
  refine wpAny_bind (wpAny_specialOf (name := Str.ofString "__repr__") hT slotRepr.lookup ?_)
  refine wpAny_bind (m := callSpecialIfBound? v (Str.ofString "__repr__")) (wpAny_callSpecialIfBound?_slotG (name := Str.ofString "__repr__") hT slotRepr (wpAny_mono hc (fun r s₁ h₁ => ?_) fun _ _ e => e))
  obtain ⟨x, t, rfl, hq⟩ := h₁
  refine wpAny_bind (wpAny_isInstance (T := "str") (b := true) rfl isSubtype_str_str ?_)
  exact wpAny_pure hq
/-- what {x!r} comes to, x whatever it is -/
def WRr (X : Cx) (x : V) (H : Hp) (Q : VK) : Prop := ∀ pins s σ u, Inv X pins σ H s → RelV x u → wpAny (model X.prog X.w) X.A (pyReprObj u) (fun r s' => ∃ y t H2, r = Value.str y t ∧ y.length ≤ sizeLine ∧ Inv X pins σ H2 s' ∧ Q (.str y) H2) X.xe s
def tFmtL (X : Cx) (te : TE) : TE := fun σ H Q => te σ H fun x H1 => WRr X x H1 Q
theorem pe_fmtL {X : Cx} {e : Expr} {te : TE} {pos : Pos} (he : PE X e te) : PE X (.FormattedValue e 114 none pos) (tFmtL X te) := by
  refine ⟨fun pins s σ H Q I h => ?_⟩
  refine wpAny_FormattedValue_repr (thn (he.run pins s σ H _ I h) fun v s1 hv => ?_)
  obtain ⟨x, H1, I1, r1, q⟩ := hv
  refine thn (q pins s1 σ v I1 r1) fun r s2 hr => ?_
  obtain ⟨y, t, H2, rfl, hz, I2, q2⟩ := hr
  exact wpAny_formatField_str ⟨.str y, H2, I2, ⟨t, rfl⟩, q2⟩ ⟨.str y, H2, I2.tok _, ⟨_, rfl⟩, q2⟩ hz
section
variable {X : Cx} {B : Hp} {S : En} {pos : Pos} {Q : D → Prop} {e : Expr} {k : Nat}
/-- {x!r}, x a list with own objects -/
theorem ed_fmtL (hr : Room (k + 2) X.A) (hG : X.A.guards = some (gOf X)) (h : ED X B S e fun d => ∃ l ts, d = .lst l ∧ l.length ≤ 1000 ∧ Rps l ∧ ts.length = l.length ∧ (∀ (i : Nat) d, l[i]? = some d → ∃ t, ts[i]? = some t ∧ Wr X k d t) ∧ (listText ts).length ≤ sizeLine ∧ Q (.str (listText ts))) : ED X B S (.FormattedValue e 114 none pos) Q := fun σ W H r R c => by
  refine PE.w (pe_fmtL we_pe) ?_
  refine h σ W H r _ fun d v W1 H1 s1 ok1 n1 q1 => ?_
  obtain ⟨l, ts, rfl, hl, rp, hlen, hT, hb, q⟩ := q1
  have c1 := c.step s1 ok1
  intro pins s σ' u I ru
  cases n1 with
  | @lst _ a xs ha hm =>
    cases ru
    obtain ⟨_, its, n0, rv, le, get⟩ := I.lstM (ok1.ex _ _ ha)
    have ty : s.TypeIs (.ref a) "list" := ⟨_, get, rfl⟩
    refine pyReprObj_slot hr.units0 ty F.slot_list_repr.toG (wpAny_call (codeAny_call_builtin F.slot_list_repr.plain F.entry_list_repr (F.slot_list_repr.check _ _ _ _ _ _ _ _ ty (F.args_list_repr_1 _) ?_)))
    exact wr_lstBody (base := 0) (R := callEnd (fun r s₁ => ∃ x t, r = .str x t ∧ ∃ y t' H2, r = Value.str y t' ∧ y.length ≤ sizeLine ∧ Inv X pins σ' H2 s₁ ∧ R (.str y) H2) X.xe) hl ⟨hr.mono (by omega), I.env0.frames⟩ hG ok1 I ha hm rp hlen hT (by omega) fun W' H' s' u st ok' I' => ⟨_, _, rfl, _, _, H', rfl, hb, I', c1 (.str _) _ W' H' st ok' (.str _) q⟩
/-- {x!r}, x a text -/
theorem ed_fmtRs (h : ED X B S e fun d => ∃ y, d = .str y ∧ (reprText y).length ≤ sizeLine ∧ Q (.str (reprText y))) : ED X B S (.FormattedValue e 114 none pos) Q := fun σ W H r R c => by
  refine PE.w (pe_fmtR we_pe) ?_
  refine h σ W H r _ fun d v W1 H1 s1 ok1 n1 q1 => ?_
  obtain ⟨y, rfl, l, q⟩ := q1
  have c1 := c.step s1 ok1
  cases n1
  exact .inl ⟨y, rfl, l, c1.now ok1 (.str _) q⟩
end
end DL

set_option Elab.async false
set_option linter.all false
set_option maxRecDepth 100000
set_option maxHeartbeats 8000000
/-! k25: texts -/
namespace DL
open PySem PySem.Spec PyProof.Rows L2
theorem textFrom_up {n : Nat} : ∀ (ts : List Str) (k : Nat) (acc : Str), (∀ t ∈ ts, t.length ≤ n) → (textFrom k acc ts).length ≤ acc.length + (n + 2) * ts.length
  | [], k, acc, _ => Nat.le_add_right _ _
  | t :: r, k, acc, h => by
    have ih := textFrom_up r (k + 1) (acc ++ (if k > 0 then ", " else "" : String) ++ t) fun x hx => h x (by simp [hx])
    have e : (acc ++ (if k > 0 then ", " else "" : String) ++ t).length = acc.length + (if k > 0 then 2 else 0) + t.length := by
      rw [Str.length_append, Str.length_append]
      split <;> rfl
    rw [e] at ih
    have ht := h t (by simp)
    have : (if k > 0 then 2 else 0) ≤ 2 := by split <;> omega
    rw [List.length_cons, Nat.mul_succ]
    exact Nat.le_trans ih (by omega)
theorem listText_up {n : Nat} {ts : List Str} (h : ∀ t ∈ ts, t.length ≤ n) : (listText ts).length ≤ (n + 2) * ts.length + 4 := by
  unfold listText
  rw [Str.length_append]
  have := textFrom_up ts 0 "[" h
  have e1 : (("[" : String) : Str).length = 1 := rfl
  have e2 : (("]" : String) : Str).length = 1 := rfl
  omega
theorem join_up {n : Nat} : ∀ {ts : List Str}, (∀ t ∈ ts, t.length ≤ n) → (Str.join ", " ts).length ≤ (n + 2) * ts.length
  | [], _ => Nat.zero_le _
  | [x], h => by
    show x.length ≤ _
    have := h x (by simp)
    simp only [List.length_singleton]
    omega
  | x :: y :: r, h => by
    have ih := join_up (ts := y :: r) fun t ht => h t (by simp at ht ⊢; exact .inr ht)
    show (x ++ ", " ++ Str.join ", " (y :: r)).length ≤ _
    have e2 : ((", " : String) : Str).length = 2 := rfl
    rw [Str.length_append, Str.length_append, e2, List.length_cons, Nat.mul_succ]
    have := h x (by simp)
    omega
theorem tupleText_up {n : Nat} {ts : List Str} (h : ∀ t ∈ ts, t.length ≤ n) : (tupleText ts).length ≤ (n + 2) * ts.length + 4 := by
  unfold tupleText
  rw [Str.length_append, Str.length_append]
  have := join_up h
  have e1 : (("(" : String) : Str).length = 1 := rfl
  have e2 : ((if ts.length == 1 then ",)" else ")" : String) : Str).length ≤ 2 := by split <;> decide +kernel
  omega
end DL
namespace K25
open PySem L2 DL
theorem tl {i : Int} (h : i.natAbs < 2 ^ 1900) : i.natAbs.log2 < 1920 := by
  by_cases z : i.natAbs = 0
  · rw [z]; decide
  · exact Nat.lt_of_lt_of_le ((Nat.log2_lt z).mpr h) (by decide)
theorem tlen {i : Int} (h : i.natAbs < 2 ^ 1900) : (PySem.Str.ofString (toString i)).length ≤ 1921 := PyProof.Rows.int_text_len_1921 (tl h)
section
variable {P : Program} {w : World} {K : PySem.W.Frag} {mg : Str → Option Value} {base : Heap} {C CB : Addr}
def reprF (p : Fr) : Str := "Ratio(" ++ Str.ofString (toString p.1) ++ ", " ++ Str.ofString (toString p.2) ++ ")"
theorem fit {x : Str} {n : Nat} (h : x.length ≤ n) (k : n ≤ 100000) : x.length ≤ sizeLine := Nat.le_trans h (Nat.le_trans k (by decide))
theorem app_len {x y : Str} {m n : Nat} (h : x.length ≤ m) (k : y.length ≤ n) : (x ++ y).length ≤ m + n := by
  rw [Str.length_append]
  omega
theorem emp_app (x : Str) : Str.empty ++ x = x := by
  show Str.mk _ = x
  cases x
  simp [Str.empty]
theorem sc_repr : FnScope ["self"] ["self"] (defScope (rat 19)) := ⟨rfl, rfl, rfl, by decide +kernel, rfl, by decide +kernel, by decide +kernel⟩
theorem ok_repr {f : Addr} {fd : FuncData} (F : FunS K "__repr__" "Ratio.__repr__" (rat 19) f fd) (T : Txt K mg C) : GnOk P w K mg base 1 f fd ["self"] (lift K (sp1b C 1900 fun p => .str (reprF p))) := by
  refine gn_dl F sc_repr (fun as Q h => by obtain ⟨_, rfl, _⟩ := h; rfl) (fun cdv A outer s H hr hG W as Q h => ?_)
  obtain ⟨p, rfl, hp, k⟩ := h
  have k : Q (.str (reprF p)) := k
  unfold reprF at k
  have l1 := tlen hp.t
  have l2 := tlen hp.b
  have l3 : (("Ratio(" : Str)).length ≤ 6 := by decide +kernel
  have l4 : ((", " : Str)).length ≤ 2 := by decide +kernel
  have l5 : ((")" : Str)).length ≤ 1 := by decide +kernel
  refine sds_cons (sd_ret (ed_join (ed_str ⟨_, rfl, ?_, ed_fmt (fT T (nm 0 ⟨rfl, .inr ⟨_, rfl, tl hp.t, _, rfl, ?_, ed_str ⟨_, rfl, ?_, ed_fmt (fB T (nm 0 ⟨rfl, .inr ⟨_, rfl, tl hp.b, _, rfl, ?_, ed_str ⟨_, rfl, ?_, ?_⟩⟩⟩))⟩⟩⟩))⟩)))
  · rw [emp_app]; exact fit l3 (by decide)
  · rw [emp_app]; exact fit (app_len l3 l1) (by decide)
  · rw [emp_app]; exact fit (app_len (app_len l3 l1) l4) (by decide)
  · rw [emp_app]; exact fit (app_len (app_len (app_len l3 l1) l4) l2) (by decide)
  · rw [emp_app]; exact fit (app_len (app_len (app_len (app_len l3 l1) l4) l2) l5) (by decide)
  · show Q _
    rw [emp_app]
    exact k
/-! entries -/
def keyT (k : List Int) : Str := tupleText (k.map fun i => (toString i : Str))
def entT (e : Ent) : Str := tupleText [keyT e.1, reprF (fr e.2)]
def txs (es : List Ent) : Str := listText (es.map entT)
theorem rp_ints : ∀ k : List Int, Rps (k.map D.int)
  | [] => .nil
  | i :: k => .cons (.int i) (rp_ints k)
theorem rp_ents : ∀ es : List Ent, Rps (enD C es)
  | [] => .nil
  | e :: es => .cons (.tup (.cons (.tup (rp_ints e.1)) (.cons (.obj (.cons (.int _) (.cons (.int _) .nil))) .nil))) (rp_ents es)
theorem reprF_len {p : Fr} (h : Bd 1900 p) : (reprF p).length ≤ 4000 := by
  unfold reprF
  have l3 : (("Ratio(" : Str)).length ≤ 6 := by decide +kernel
  have l4 : ((", " : Str)).length ≤ 2 := by decide +kernel
  have l5 : ((")" : Str)).length ≤ 1 := by decide +kernel
  exact Nat.le_trans (app_len (app_len (app_len (app_len l3 (tlen h.t)) l4) (tlen h.b)) l5) (by decide)
theorem small_i {m n b : Nat} {es : List Ent} (ge : GE m n b es) (hn : n ≤ 8) {e : Ent} (he : e ∈ es) {i : Int} (hi : i ∈ e.1) : i.natAbs < 2 ^ 1900 := by
  have := ge.cnt he hi
  exact Nat.lt_of_lt_of_le (show i.natAbs < 2 ^ 4 by show _ < 16; omega) (Nat.pow_le_pow_right (by decide) (by decide))
theorem entT_len {m n b : Nat} {es : List Ent} (ge : GE m n b es) (hn : n ≤ 8) (m8 : m ≤ 8) (hb : b ≤ 1900) {e : Ent} (he : e ∈ es) : (entT e).length ≤ 31000 := by
  have l1 : (keyT e.1).length ≤ 15388 := by
    have := tupleText_up (n := 1921) (ts := e.1.map fun i => (toString i : Str)) fun t ht => by
      obtain ⟨i, hi, rfl⟩ := List.mem_map.mp ht
      exact tlen (small_i ge hn he hi)
    rw [List.length_map, ge.len e he] at this
    have : (1921 + 2) * m ≤ (1921 + 2) * 8 := Nat.mul_le_mul_left _ m8
    unfold keyT
    omega
  have l2 := reprF_len ((ge.bq e he).le hb)
  have := tupleText_up (n := 15388) (ts := [keyT e.1, reprF (fr e.2)]) fun t ht => by
    rcases List.mem_cons.mp ht with z | z
    · rw [z]; exact l1
    · rw [List.mem_singleton.mp z]; omega
  exact Nat.le_trans this (show (15388 + 2) * 2 + 4 ≤ 31000 by decide)
theorem letT_len {z : List Nat} (hz : LetZ z) : (reprText (SX.S z)).length ≤ 1000 := by
  have lv : (PyData.str (SX.S z)).leavesShort 13 = true := by
    have a := hz.asc
    show ((SX.S z).cps.toList.all fun c => decide (c < 16 ^ 8)) = true
    rw [Array.all_eq_true_iff_forall_mem] at a
    rw [List.all_eq_true]
    intro c hc
    have := a c (Array.mem_toList_iff.mp hc)
    have h2 : c < 128 := by simpa using this
    exact decide_eq_true (Nat.lt_of_lt_of_le h2 (by decide))
  have h := PyData.shown_le 13 (by decide) _ lv
  have e : (PyData.str (SX.S z)).weight = z.length := by
    show (SX.S z).cps.size = _
    have := SX.S_len z
    exact this
  have l8 := hz.l8
  rw [e] at h
  have h2 : (PyData.str (SX.S z)).shown = reprText (SX.S z) := by simp only [PyData.shown]
  rw [h2] at h
  have : (13 + 2) * z.length ≤ 15 * 8 := Nat.mul_le_mul_left _ l8
  omega
def blT (z : List Nat) (es : List Ent) : Str := "Blend(" ++ reprText (SX.S z) ++ ", " ++ txs es ++ ")"
abbrev spBRepr (C CB : Addr) : SpD := fun as Q => ∃ z, ∃ m n b : Nat, ∃ es, as = [.val (Bo C CB z n es)] ∧ LetZ z ∧ z.length = m ∧ n ≤ 8 ∧ b ≤ 1900 ∧ GE m n b es ∧ es.length ≤ 60 ∧ Q (.str (blT z es))
theorem txs_len {m n b : Nat} {es : List Ent} (ln : es.length ≤ 60) (ge : GE m n b es) (hn : n ≤ 8) (m8 : m ≤ 8) (hb : b ≤ 1900) : (txs es).length ≤ 1900000 := by
  have := listText_up (n := 31000) (ts := es.map entT) fun t ht => by
    obtain ⟨e, he, rfl⟩ := List.mem_map.mp ht
    exact entT_len ge hn m8 hb he
  rw [List.length_map] at this
  have : (31000 + 2) * es.length ≤ (31000 + 2) * 60 := Nat.mul_le_mul_left _ ln
  unfold txs
  omega
theorem fitB {x : Str} {n : Nat} (h : x.length ≤ n) (k : n ≤ 2000000) : x.length ≤ sizeLine := Nat.le_trans h (Nat.le_trans k (by decide))
theorem ents_wr {X : Cx} {m n b : Nat} {es : List Ent} (R : Sm X.prog X.w X.K X.mg X.base C "__repr__" 1 (sp1b C 1900 fun p => .str (reprF p))) (ge : GE m n b es) (hn : n ≤ 8) (hb : b ≤ 1900) (i : Nat) (d : D) (hd : (enD C es)[i]? = some d) : ∃ t, (es.map entT)[i]? = some t ∧ Wr X 2 d t := by
  obtain ⟨e, he, rfl⟩ := enD_get hd
  have me := List.mem_of_getElem? he
  refine ⟨entT e, by rw [List.getElem?_map, he]; rfl, ?_⟩
  refine wr_tup (k := 1) (ts := [keyT e.1, reprF (fr e.2)]) (fun ks z => ?_) (.cons (.tup (rp_ints e.1)) (.cons (.obj (.cons (.int _) (.cons (.int _) .nil))) .nil)) rfl fun j d hj => ?_
  · cases ks with
    | nil => cases z
    | cons a ks =>
      rw [List.map_cons] at z
      have := (List.cons.inj z).1
      cases a <;> cases this
  · match j, hj with
    | 0, hj => cases hj; exact ⟨_, rfl, wr_tupI fun i hi => tl (small_i ge hn me hi)⟩
    | 1, hj => cases hj; exact ⟨_, rfl, wr_obj R fun Q q => ⟨fr e.2, rfl, (ge.bq e me).le hb, q⟩⟩
    | j + 2, hj => cases hj
theorem sc_brepr : FnScope ["self"] ["self"] (defScope (ble 11)) := ⟨rfl, rfl, rfl, by decide +kernel, rfl, by decide +kernel, by decide +kernel⟩
theorem ok_brepr {f : Addr} {fd : FuncData} (F : FunS K "__repr__" "Blend.__repr__" (ble 11) f fd) (V : Bt P w K mg base C CB) (R : Sm P w K mg base C "__repr__" 1 (sp1b C 1900 fun p => .str (reprF p))) : GnOk P w K mg base 5 f fd ["self"] (lift K (spBRepr C CB)) := by
  refine gn_dl F sc_brepr (fun as Q h => by obtain ⟨_, _, _, _, _, rfl, _⟩ := h; rfl) (fun cdv A outer s H hr hG W as Q h => ?_)
  obtain ⟨z, m, n, b, es, rfl, hz, hm, hn, hb, ge, ln, k⟩ := h
  have T := V.T
  have m8 : m ≤ 8 := by rw [← hm]; exact hz.l8
  have k : Q (.str (blT z es)) := k
  unfold blT at k
  have l1 := letT_len hz
  have l2 := txs_len ln ge hn m8 hb
  have l3 : (("Blend(" : Str)).length ≤ 6 := by decide +kernel
  have l4 : ((", " : Str)).length ≤ 2 := by decide +kernel
  have l5 : ((")" : Str)).length ≤ 1 := by decide +kernel
  refine sds_cons (sd_ret (ed_join (ed_str ⟨_, rfl, ?_, ed_fmtRs (fL T (nm 0 ⟨rfl, _, rfl, fitB l1 (by decide), _, rfl, ?_, ed_str ⟨_, rfl, ?_, ed_fmtL (k := 2) hr hG (mE V ge (hr.mono (j := 1) (by decide)) hG (nm 0 ⟨rfl, enD C es, es.map entT, rfl, by rw [enD_len]; omega, rp_ents es, by rw [List.length_map, enD_len], ents_wr R ge hn hb, fitB l2 (by decide), _, rfl, ?_, ed_str ⟨_, rfl, ?_, ?_⟩⟩))⟩⟩))⟩)))
  · rw [emp_app]; exact fitB l3 (by decide)
  · rw [emp_app]; exact fitB (app_len l3 l1) (by decide)
  · rw [emp_app]; exact fitB (app_len (app_len l3 l1) l4) (by decide)
  · rw [emp_app]; exact fitB (app_len (app_len (app_len l3 l1) l4) l2) (by decide)
  · rw [emp_app]; exact fitB (app_len (app_len (app_len (app_len l3 l1) l4) l2) l5) (by decide)
  · show Q _
    rw [emp_app]
    exact k
end
end K25

set_option Elab.async false
set_option linter.all false
set_option maxRecDepth 100000
set_option maxHeartbeats 4000000
/-! k25: sums over products -/
namespace K25
open PySem L2 DL
def lin (φ : List Int → Rat) : List Ent → Rat
  | [] => 0
  | e :: es => φ e.1 * e.2 + lin φ es
/-! coefficients -/
def ind (k x : List Int) : Rat := if x = k then 1 else 0
def cf (es : List Ent) (k : List Int) : Rat := lin (ind k) es
end K25

set_option Elab.async false
set_option linter.all false
set_option maxRecDepth 100000
set_option maxHeartbeats 4000000
/-! enumerate of a text -/
namespace DL
open PySem PySem.Spec PyProof.Rows L2
def Ites (z : Str) : It := ⟨fun i _ => i < z.cps.size, fun i H v H' => ∃ T c, v = .ref T ∧ H T = none ∧ H' = upd H T (.tup [.int (i : Nat), .str { cps := #[c] }]) ∧ z.cps[i]? = some c, fun i _ => z.cps.size ≤ i⟩
theorem text_end {prog : Program} {w : World} {A : Around} {E : Value → Shared → Prop} {s : Shared} {it : Addr} {z : Str} {t : Tok} {i : Nat} {Q : Value → Shared → Prop} (hh : A.handled = none) (h : s.heap.IsStrIter it (strIterType z) z t i) (hx : z.cps[i]? = none)
    (k : ∀ (h' : Heap) (e : Addr), Heap.ExtBut it s.heap h' → (∃ o, h'.get? e = some o ∧ o.cls = Value.type "StopIteration") → E (Value.ref e) { s with heap := h' }) : wpAny (model prog w) A (Builtin.SmallTypes.nextOf (Value.ref it)) Q E s := by
  unfold strIterType at h
  split at h
  · exact wpAny_nextOf_ascii_end hh h hx k
  · exact wpAny_nextOf_wide_end hh h hx k
theorem enum_endS {prog : Program} {w : World} {A : Around} {E : Value → Shared → Prop} {s : Shared} {e it : Addr} {i : Nat} {z : Str} {t : Tok} {old : Value} {Q : Option Value → Shared → Prop} (hh : A.handled = none) (he : IsEnum s.heap e it i old) (hit : s.heap.IsStrIter it (strIterType z) z t i) (hx : z.cps[i]? = none)
    (hQ : ∀ h', Heap.ExtBut it s.heap h' → Q none { s with heap := h' }) : wpAny (model prog w) A (pyNext (.ref e)) Q E s := by
  have hT : s.TypeIs (.ref e) "enumerate" := ⟨_, he, rfl⟩
  unfold pyNext
  refine wpAny_bind (wpAny_attempt (wpAny_callSpecial?_slot (name := Str.ofString "__next__") hT F.slot_enumerate_next
    (wpAny_call_entry F.slot_enumerate_next hT F.entry_enumerate_next ?_ (F.args_enumerate_next_1 _))))
  show wpAny _ _ (field (.ref e) 2 >>= _) _ _ _
  refine wpAny_bind (wpAny_field he rfl (x := .ref it) rfl ?_)
  refine wpAny_bind (text_end (A := A.in1) hh hit hx fun h' x he' hx' => ?_)
  obtain ⟨o, ho, hc⟩ := hx'
  refine wpAny_bind (wpAny_isInstance (T := "StopIteration") (b := true) ⟨o, ho, hc⟩ isSubtype_stop ?_)
  exact wpAny_pure (hQ _ he')
theorem turn_enumS {P : Program} {w : World} {K : PySem.W.Frag} {elts : List Expr} {kk : Nat} {tpos : Pos} (z : Str) (t : Tok) (e it : Addr) :
    Turn P w K (.Tuple elts kk tpos) (Ites z) [e, it] e (fun i h => (∃ old, IsEnum h e it ((i : Nat) : Int) old) ∧ h.IsStrIter it (strIterType z) z t i ∧ e ≠ it) where
  mem := by simp
  obj := fun i h st b hb => by
    obtain ⟨⟨old, he⟩, ⟨o, ho, hc, hd⟩, _⟩ := st
    have e' : b = e ∨ b = it := by simpa using hb
    rcases e' with z | z
    · rw [z]; exact ⟨_, he, fun v q => nomatch q⟩
    · rw [z]; exact ⟨o, ho, fun v q => by rw [hd] at q; cases q⟩
  keep := fun i h h' st k => by
    obtain ⟨⟨old, he⟩, ⟨o, ho, hc, hd⟩, hne⟩ := st
    exact ⟨⟨old, k e (by simp) _ he⟩, ⟨o, k it (by simp) o ho, hc, hd⟩, hne⟩
  item := by
    intro X hP hw hK hc i pins s σ H E I hf st hg
    subst hP hw hK
    obtain ⟨⟨old, he⟩, hit, hne⟩ := st
    have lt : i < z.cps.size := hg
    have hel : e < s.heap.objs.size := Heap.lt_size he
    have hil : it < s.heap.objs.size := by obtain ⟨_, q, _⟩ := hit; exact Heap.lt_size q
    refine wpAny_pyNext_enum_itemD (Draws.text (A := X.A.in1) (I.ok.hd hc) it z t) he hit lt hne (by simp [hne]) fun x' h' tk hP ho hit' hT hsz hk => ?_
    obtain ⟨c, u, ec, rfl⟩ := hP
    refine ⟨_, rfl, wpAny_letOwnedTupleGo_enum (s := { s with heap := h', toks := tk + 1 }) ho fun h'' he' sb => ?_⟩
    have hT2 : h''.get? s.heap.objs.size = some { cls := .type "tuple", data := .seq #[.int i tk, .str { cps := #[c] } u] } := (sb.2 _ (Nat.ne_of_gt hel)).trans hT
    have new : ObjOk X.prog X.w (upd H s.heap.objs.size (.tup [.int (i : Nat), .str { cps := #[c] }])) h'' s.heap.objs.size (.tup [.int (i : Nat), .str { cps := #[c] }]) :=
      ⟨by show 2 ≤ sizeLine; decide, [.int i tk, .str { cps := #[c] } u], .cons ⟨_, rfl⟩ (.cons ⟨_, rfl⟩ .nil), ⟨_, hT2, rfl, _, rfl⟩⟩
    have I1 : Inv X pins σ (upd H s.heap.objs.size (.tup [.int (i : Nat), .str { cps := #[c] }])) { s with heap := h'', toks := tk + 1 } :=
      I.turnedNew (ch := [e, it]) (fun b ob hb q => (sb.2 b (fun z => hb (by simp [z]))).trans (hk b ob (fun z => hb (by simp [z])) (fun z => hb (by simp [z])) q)) hf (Nat.le_refl _) new
    obtain ⟨o, q1, q2, q3⟩ := hit'
    refine ⟨.ref s.heap.objs.size, _, I1, rfl, ⟨_, c, rfl, I.hok.fresh (Nat.le_refl _), rfl, ec⟩, ⟨⟨.str { cps := #[c] } u, ?_⟩, ⟨o, (sb.2 it (Ne.symm hne)).trans q1, q2, q3⟩, hne⟩, fun b hb => ?_⟩
    · have e1 : ((i + 1 : Nat) : Int) = (i : Int) + 1 := by omega
      rw [e1]; exact he'
    · have hb' : b < s.heap.objs.size := by
        have e' : b = e ∨ b = it := by simpa using hb
        rcases e' with z | z
        · rw [z]; exact hel
        · rw [z]; exact hil
      rw [upd_ne (Nat.ne_of_lt hb')]
      exact (hf b hb).1
  done := by
    intro X hP hw hK hc i pins s σ H E I hf st hg
    subst hP hw hK
    obtain ⟨⟨old, he⟩, hit, hne⟩ := st
    have hg : z.cps.size ≤ i := hg
    obtain ⟨f0, f1, f2, f3, f4, f5⟩ := hf it (by simp)
    exact enum_endS (I.ok.hd hc) he hit (Array.getElem?_eq_none hg) fun h' eb => ⟨rfl, I.turned (t' := s.toks) (fun b o hb q => eb b o hb q) f0 f1 f3 f4 f5⟩
  self := fun A i s Q E st h => let ⟨⟨_, he⟩, _⟩ := st; wpAny_pyIter_enum he h
def iEnumS (ta : TA) : TI := fun σ H R => ta σ H fun vs H1 => ∃ z, vs = [.str z] ∧ R (Ites z) H1
theorem pi_enumS {X : Cx} {e : Expr} {ta : TA} {p pos tpos : Pos} {elts : List Expr} {kk : Nat} (hg : Gl X "enumerate") (hm : X.mg "enumerate" = none) (ha : PA X [e] ta) (hs : starEach [e] X.env = [(false, eval e X.env)] := by rfl) :
    PI X (.Tuple elts kk tpos) (.Call (.Name "enumerate" p) [e] [] pos) (iEnumS ta) := by
  refine ⟨fun pins s σ H R J h => Call_ (ld_blt J hg hm boot_enumerate (PyProof.Rows.callWith_type1 (thn (ha.run pos pins s σ H _ J h) fun us s1 ⟨vs, H1, J1, r1, q1⟩ => ?_) hs rfl))⟩
  obtain ⟨z, rfl, q⟩ := q1
  cases r1 with
  | cons r rr =>
    cases rr
    obtain ⟨t, rfl⟩ := r
    refine call_enumerate_str fun h' h1 h2 _ keep => wpAny_pyIter_enum h1 ?_
    have J2 : Inv X pins σ H1 { s1 with heap := h' } := J1.kept (t' := s1.toks) keep
    refine ⟨s1.heap.objs.size + 1, [s1.heap.objs.size + 1, s1.heap.objs.size], _, _, H1, rfl, J2, turn_enumS z t _ _, ⟨⟨_, h1⟩, h2, Nat.succ_ne_self _⟩, fun b hb => ?_, q⟩
    have le : s1.heap.objs.size ≤ b := by
      have z : b = s1.heap.objs.size + 1 ∨ b = s1.heap.objs.size := by simpa using hb
      rcases z with z | z <;> rw [z]
      · exact Nat.le_add_right _ _
      · exact Nat.le_refl _
    exact J1.fpOk le (J1.hok.fresh le)
theorem walk_enumS {z : Str} : Walk (Ites z) z.cps.size (fun _ => True) (YPair (fun i => some (.int (i : Nat))) (fun i => (z.cps[i]?).map fun c => V.str { cps := #[c] })) := by
  refine ⟨fun i _ hi _ => hi, fun _ _ => Nat.le_refl _, fun i H v H' _ _ y => ?_⟩
  obtain ⟨T, c, h1, h2, h3, h4⟩ := y
  exact ⟨T, .int (i : Nat), .str { cps := #[c] }, h1, h2, h3, rfl, by show Option.map _ _ = _; rw [h4]; rfl⟩
section
variable {X : Cx} {B : Hp} {W0 : Wd} {S : En} {pos px p1 p apos cpos : Pos} {Q : D → Prop} {a b c e e2 o elt iter value : Expr} {es : List Expr} {E : Ends'} {x : Str}
/-- for i, c in enumerate(a text) -/
theorem sd_forEnS {elts : List Expr} {kk : Nat} {tpos : Pos} {body : List Stmt} {z : Str} (hp : PassesOwn (model X.prog X.w) X.A X.env X.xe) (hc : X.calm = true) (hm : X.mg "enumerate" = none) (Inv : Nat → En → Prop) (h : AD X B S [e] fun as => as = [.val (.str z)] ∧ Inv 0 S)
    (hs : ∀ (i : Nat) c S', z.cps[i]? = some c → Inv i S' → GD X B W0 S' (.Tuple elts kk tpos) (.tup [.int (i : Int), .str { cps := #[c] }]) fun S2 => SDs X B W0 S2 body { nx := Inv (i + 1), rt := E.rt, bk := E.nx, ct := Inv (i + 1) })
    (hd : ∀ S', Inv z.cps.size S' → E.nx S') (hg : Gl X "enumerate" := by rfl) (hst : starEach [e] X.env = [(false, eval e X.env)] := by rfl) (hf : ∀ x, foldedSetIterable (.Call (.Name "enumerate" p) [e] [] p1) X.env x = pure x := by intro _; rfl) :
    SD X B W0 S (.For (.Tuple elts kk tpos) (.Call (.Name "enumerate" p) [e] [] p1) body [] pos) E := fun σ W H r zz D' k => by
  refine PS.w (ps_for hp hc (pi_enumS hg hm wa_pa hst) wg_pg wss_pss hf) ?_
  refine h σ W H r _ fun as vs W1 H1 s1 ok1 n1 q1 => ?_
  obtain ⟨rfl, i0⟩ := q1
  obtain ⟨v, rfl, m⟩ := one_arg n1
  cases m
  refine ⟨z, rfl, for_it walk_enumS (fun i σ' H' => ∃ S' W', Rep X.K (gOf X) B S' σ' W' H' ∧ Stp W0 B W' H' ∧ Ex W1.I W'.I ∧ Inv i S') ⟨S, W1, r.step s1 ok1, zz.trans r.ok s1, Ex.refl _, i0⟩ (fun _ _ _ _ _ => trivial) ?_ ?_⟩
  · rintro i y σ' H' H2 hi ⟨S', W', r', z', e', i'⟩ ⟨T, x1, x2, rfl, hT, rfl, ex1, ex2⟩
    cases ex1
    obtain ⟨c, ec, rfl⟩ := Option.map_eq_some_iff.mp ex2
    have st := Stp.new (o := .tup [.int (i : Nat), .str { cps := #[c] }]) r'.ok hT
    have ok2 := r'.ok.new (o := .tup [.int (i : Nat), .str { cps := #[c] }]) hT
    refine hs i c S' ec i' σ' _ _ _ (r'.step st ok2) (z'.trans r'.ok st) (.tup (show upd W'.I T _ T = _ from upd_same) (.cons (.int _) (.cons (.str _) .nil))) _ fun S3 σ3 W3 H3 r3 z3 e3 q3 => ?_
    have e4 := (e'.trans st.I).trans e3
    exact q3 σ3 W3 H3 r3 z3 _ ⟨fun S5 σ5 W5 H5 r5 z5 e5 q5 => ⟨S5, W5, r5, z5, e4.trans e5, q5⟩, fun d5 v5 W5 H5 r5 z5 e5 n5 q5 => k.rt d5 v5 W5 H5 r5 z5 ((s1.I.trans e4).trans e5) n5 q5,
      fun S5 σ5 W5 H5 r5 z5 e5 q5 => k.nx S5 σ5 W5 H5 r5 z5 ((s1.I.trans e4).trans e5) q5, fun S5 σ5 W5 H5 r5 z5 e5 q5 => ⟨S5, W5, r5, z5, e4.trans e5, q5⟩⟩
  · rintro σ' H' ⟨S', W', r', z', e', i'⟩
    exact k.nx S' σ' W' H' r' z' (s1.I.trans e') (hd S' i')
end
end DL

set_option Elab.async false
set_option linter.all false
set_option maxRecDepth 100000
set_option maxHeartbeats 8000000
/-! k25: the letters that stand -/
namespace K25
open PySem L2 DL
theorem glue_fold : ∀ (ys : List Str) (acc : Array Nat), (ys.foldl (fun acc p => acc ++ ("" : Str).cps ++ p.cps) acc).toList = acc.toList ++ ys.flatMap fun p => p.cps.toList
  | [], acc => by simp
  | y :: ys, acc => by
    rw [List.foldl_cons, glue_fold ys]
    have : ("" : Str).cps = #[] := rfl
    rw [this]
    simp
def stb (es : List Ent) (a : Nat) : Bool := (es.map fun e => decide (0 < e.1.getD a 0)).any id
def bzN (z : List Nat) (es : List Ent) (n : Nat) : List Nat := (List.range n).flatMap fun a => if stb es a = true then [z.getD a 0] else []
section
variable {P : Program} {w : World} {K : PySem.W.Frag} {mg : Str → Option Value} {base : Heap} {C CB : Addr}
abbrev spBrs (C CB : Addr) : SpD := fun as Q => ∃ z, ∃ m n b : Nat, ∃ es, as = [.val (Bo C CB z n es)] ∧ LetZ z ∧ z.length = m ∧ GE m n b es ∧ Q (.str (Txt.join ("" : Str) ((bzN z es m).map sg)))
abbrev NBs : List Str := ["self", "standing", "place", "letter", "counts"]
end
end K25

set_option Elab.async false
set_option linter.all false
set_option maxRecDepth 100000
set_option maxHeartbeats 4000000
/-! name = [comprehension], told by functions; dict comprehensions told by functions -/
namespace DL
open PySem PySem.Spec PyProof.Rows L2
section
variable {X : Cx} {B : Hp} {W0 : Wd} {S : En} {pos : Pos} {E : Ends'}
theorem lc_LI {elt iter c : Expr} {scope : Scope} {own : List (Str × Nat)} {g : TG} {l : List D} {Q : List D → Prop} (J : Nat → List D → Prop) (S' : D → En)
    (h : ED X B S iter fun d => d = .lst l ∧ l.length ≤ 50000 ∧ J 0 []) (hp : ∀ d ∈ l, Pat X.K g (own.map (·.2)) S d (S' d))
    (he : ∀ (i : Nat) d acc, l[i]? = some d → acc.length ≤ i → J i acc → ∀ (s : Shared) (H0 : Hp) (C : Addr) (cl : List (Str × Addr)) (fp : List Addr), TD (X.blk s H0 scope (compEnvC scope cl C X.env) fp) B (S' d) c fun b =>
      if b = true then ∀ (s : Shared) (H0 : Hp) (C : Addr) (cl : List (Str × Addr)) (fp : List Addr), ED (X.blk s H0 scope (compEnvC scope cl C X.env) fp) B (S' d) elt fun y => J (i + 1) (acc ++ [y]) else J (i + 1) acc)
    (hd : ∀ acc, acc.length ≤ l.length → J l.length acc → Q acc) : LC X B S (tLc (iList X.K (WE X iter)) g (WTb X scope c) (WEb X scope elt) (own.map (·.2))) Q := fun σ W H r R k => by
  refine h σ W H r _ fun d v W1 H1 s1 ok1 n1 q1 => ?_
  obtain ⟨rfl, hz, j0⟩ := q1
  cases n1 with
  | @lst _ a xs ha m =>
    refine ⟨a, rfl, ⟨xs, SqL.of (ok1.ex _ _ ha)⟩, fun p hp0 => ?_⟩
    have r1 := r.step s1 ok1
    refine lc_list (K := X.K) (a := a) (xs := xs) (fun i H' => ∃ acc W', Mid X.K (gOf X) W1 H1 p acc W' H' ∧ acc.length ≤ i ∧ J i acc) ⟨[], W1, ⟨Stp.own hp0, ok1.own hp0, ok1.notP hp0, ok1.free hp0, [], upd_same, .nil⟩, Nat.le_refl _, j0⟩
      (fun i H' _ ⟨acc, W', mm, _⟩ => SqL.of (mm.ok.ex _ _ (mm.st.I _ _ ha))) ?_ ?_
    · rintro i x H' hx ⟨acc, W', mm, hl, j⟩
      obtain ⟨d, hd', nd⟩ := m.get hx
      have r2 := r1.step mm.st mm.ok
      refine hp d (List.mem_of_getElem? hd') (gOf X) B σ W' H' x r2 (nd.mono mm.st.I) _ fun σ2 e2 r3 => ?_
      refine ⟨e2, ?_⟩
      show WTb X scope c σ2 H' _
      intro s H0 C cl fp
      have lt : i < l.length := (List.getElem?_eq_some_iff.mp hd').1
      refine he i d acc hd' hl j s H0 C cl fp σ2 W' H' r3 _ fun b W2 H2 s2 ok2 q2 => ?_
      cases b with
      | false => exact iteF ⟨acc, W2, mm.step s2 ok2, Nat.le_succ_of_le hl, by simpa using q2⟩
      | true =>
        refine iteT ?_
        show WEb X scope elt σ2 H2 _
        intro s H0 C cl fp
        refine (show ∀ (s : Shared) (H0 : Hp) (C : Addr) (cl : List (Str × Addr)) (fp : List Addr), ED (X.blk s H0 scope (compEnvC scope cl C X.env) fp) B (S' d) elt fun y => J (i + 1) (acc ++ [y]) by simpa using q2) s H0 C cl fp σ2 W2 H2 (r3.step s2 ok2) _ fun y v W3 H3 s3 ok3 n3 q3 => ?_
        obtain ⟨xs', e1, e3, m3⟩ := ((mm.step s2 ok2).step s3 ok3).more hp0 n3 (by omega)
        exact ⟨xs', e1, e3, _, W3, m3, by simp only [List.length_append, List.length_singleton]; omega, q3⟩
    · rintro H' ⟨acc, W', mm, hl, j⟩
      obtain ⟨ys, hH, ds⟩ := mm.h
      rw [← m.length] at hl j
      exact k acc p ys W' H' (s1.trans ok1 mm.st) mm.ok (s1.free ok1 hp0) mm.n mm.i hH ds (hd acc hl j)
theorem sd_ownLcI {i : Nat} {y : Str} {py spos : Pos} {elt tg iter c : Expr} {scope : Scope} {own : List (Str × Nat)} {wi : TI} {g : TG} (hc : X.calm = true) (hN : X.N.Nodup) (hy : X.N[i]? = some y) (hyl : X.env.scope.names.lookup y = some .local) (hi : PI X tg iter wi) (ok : BlkOk X.N X.env.scope scope own)
    (hg : ∀ (s : Shared) (H : Hp) (C : Addr) (cl : List (Str × Addr)) (fp : List Addr), PG (X.blk s H scope (compEnvC scope cl C X.env) fp) tg g)
    (h : LC X B S (tLc wi g (WTb X scope c) (WEb X scope elt) (own.map (·.2))) fun l => E.nx (S.set i (some (.own l))))
    (hsw : swapsWith (.ListComp elt [⟨tg, iter, [c], 0⟩] scope pos) (some (.Name y py)) spos.line X.env = pure true := by exact sw_true rfl rfl rfl rfl) (hs : ∀ x, foldedSetIterable iter X.env x = pure x := by intro _; rfl) :
    SD X B W0 S (.Assign [.Name y py] (.ListComp elt [⟨tg, iter, [c], 0⟩] scope pos) spos) E := fun σ W H r z D' k => by
  refine PS.w (ps_setLc (i := i) hc hN hy hyl hsw hi ok hg (fun s H C cl fp => pts_one (wtb_pt s H C cl fp)) web_pe hs) ?_
  exact h σ W H r _ fun l p xs W1 H1 s1 ok1 hp n i1 hl d q1 => k.nx _ _ W1 H1 ((r.step s1 ok1).setOwn (z.free r.ok hp) n i1 hl d fun j m e1 e2 => by
    obtain ⟨v, e3, p2, ys, e4, _, _, _, h4, _⟩ := r.sl j _ e1
    rw [e2] at e3
    cases e3
    cases e4
    rw [hp] at h4
    cases h4) (z.trans r.ok s1) s1.I q1
end
section
variable {X : Cx} {B : Hp} {W0 : Wd} {S : En} {pos : Pos} {e elt iter c : Expr} {x : Str} {px : Pos} {scope : Scope} {own : List (Str × Nat)} {d0 : D} {Q : List D → Prop} {E : Ends'} {α : Type} {f u : α → D} {t : α → Bool} {l : List α}
end
end DL

set_option Elab.async false
set_option linter.all false
set_option maxRecDepth 100000
set_option maxHeartbeats 8000000
/-! sorted(set(tuples of ints)), sorted lists of texts and of ints; comprehensions that keep some of a list, whichever; max of a tuple -/
namespace DL
open PySem PySem.Spec PyProof.Rows L2
section
variable {prog : Program} {w : World} {A : Around} {E : Value → Shared → Prop} {s : Shared} {l : Addr}
theorem max_tup {its : List Value} {ns : List Int} {Q : Value → Shared → Prop} (hh : A.handled = none) (hl : s.heap.IsTuple l its.toArray) (hi : IntsAre its ns) (hne : 0 < ns.length) (k : ∀ h' tk M t', (∀ b o, s.heap.get? b = some o → h'.get? b = some o) → M ∈ ns → (∀ a, a ∈ ns → a ≤ M) → Q (.int M t') { s with heap := h', toks := tk }) :
    wpAny (model prog w) A (call (.builtin "max") [.ref l]) Q E s := by
  obtain ⟨xs, e⟩ := hi.allInts.items
  have en : numsOf (intItems xs).toList = ns := by rw [← e]; exact hi.numsOf
  rw [nums_intItems] at en
  subst en
  rw [e] at hl
  have hsz : 0 < xs.size := by simpa using hne
  have lt : l < s.heap.objs.size := by obtain ⟨_, g, _⟩ := hl; exact Heap.lt_size g
  refine call_max_walk (wpAny_pyIter_tuple hl ?_)
  refine ⟨_, _, _, _, _, _, _, rfl, Walks.tuple (A := A.in1) hh s.heap.objs.size l (Nat.ne_of_lt lt) (intItems xs), ⟨⟨_, Heap.get?_push_size _ rfl, rfl, rfl⟩, hl.push _⟩, fun b hb => ?_, by simpa [intItems] using hsz, CmpOf.ints_gt (numAt xs) (fun _ _ => intItems_at), fun v h' tk hv hk => ?_⟩
  · show b < (s.heap.push _).objs.size
    rw [Heap.size_push]
    rcases List.mem_cons.mp hb with z | hb
    · rw [z]; exact Nat.lt_succ_self _
    · rw [List.mem_singleton.mp hb]; exact Nat.lt_succ_of_lt lt
  · have hv : (intItems xs)[argBest (fun i j => decide (numAt xs i > numAt xs j)) (xs.size - 1)]? = some v := by simpa [intItems] using hv
    obtain ⟨t, rfl⟩ := intItems_at hv
    obtain ⟨h1, h2⟩ := argBest_gt (numAt xs) (xs.size - 1)
    refine k h' tk _ t (fun b u e => past hk b u e) ?_ fun a ha => ?_
    · rw [numAt_eq]
      exact PySem.getD_mem (by rw [List.length_map, Array.length_toList]; omega)
    · obtain ⟨j, hj, rfl⟩ := mem_getD ha
      rw [List.length_map, Array.length_toList] at hj
      rw [← numAt_eq]
      exact h2 j (by omega)
end
section
variable {X : Cx} {Q : D → Prop}
theorem cr_maxT (hc : X.calm = true) : CallR X (.builtin "max") (fun vs H Q => ∃ (a : Addr) (ns : List Int), vs = [V.ref a] ∧ SqT X.K H a (ns.map V.int) ∧ 0 < ns.length ∧ ∀ m, m ∈ ns → (∀ y, y ∈ ns → y ≤ m) → Q (.int m) H) := by
  intro pins t τ H vs us Q J r q
  obtain ⟨a, ns, rfl, hs, hne, q⟩ := q
  obtain ⟨its, rv, hl, _⟩ := J.tuple hs
  rw [Vals.ref1 r]
  exact max_tup (J.ok.hd hc) hl rv.ints hne fun h' tk m t' keep g1 g2 => ⟨.int _, H, J.kept keep, ⟨_, rfl⟩, q m g1 g2⟩
theorem cd_maxT {l : List Int} (hc : X.calm = true) (hl : 0 < l.length) (q : ∀ m, m ∈ l → (∀ y ∈ l, y ≤ m) → Q (.int m)) : CD X (.builtin "max") [.val (tI l)] Q := cd_of (cr_maxT hc) fun vs W H ok ha R c => by
  obtain ⟨v, rfl, m⟩ := one_arg ha
  cases m with
  | @tup _ a xs hp m =>
    rw [Dns.ints m] at hp
    exact ⟨a, l, rfl, SqT.of (ok.ex _ _ hp), hl, fun x g1 g2 => c.now ok (.int _) (q x g1 g2)⟩
theorem dns_txts {K : PySem.W.Frag} {I : Hp} : ∀ {l : List Str} {xs : List V}, Dns K I (l.map D.str) xs → xs = l.map V.str
  | [], _, .nil => rfl
  | s :: l, _, .cons n m => by
    cases n
    rw [dns_txts m]
    rfl
/-- sorted(a list of texts) -/
theorem cd_sortLS {xs : List Str} (h64 : xs.length < 64) (q : ∀ ys : List Str, ys.Perm xs → sortedS ys = true → Q (.lst (ys.map D.str))) : CD X (.builtin "sorted") [.val (.lst (xs.map D.str))] Q := cd_of cr_sortedS fun vs W H ok ha R c => by
  obtain ⟨v, rfl, m⟩ := one_arg ha
  cases m with
  | @lst _ a ws hp m =>
    rw [dns_txts m] at hp
    refine ⟨a, xs, rfl, SqL.of (ok.ex _ _ hp), h64, fun ys p p1 p2 hn => ?_⟩
    have st := Stp.new (o := .lst (ys.map V.str)) ok hn
    exact c _ _ _ _ st (ok.new hn) (.lst (show upd W.I p _ p = _ from upd_same) (strs_dns _)) (q ys p1 p2)
end
section
variable {X : Cx} {B : Hp} {W0 : Wd} {S : En} {p p2 pos pos2 : Pos} {e : Expr} {Q : D → Prop}
theorem tups_at {K : PySem.W.Frag} {W : Wd} {H : Hp} {g : List Code} (ok : Ok g W H) : ∀ {ls : List (List Int)} {xs : List V}, Dns K W.I (ls.map tI) xs → ∃ ks : List (Addr × List Int), xs = ks.map (fun p => V.ref p.1) ∧ ks.map (·.2) = ls ∧ ∀ p ∈ ks, W.I p.1 = some (.tup (p.2.map V.int))
  | [], _, .nil => ⟨[], rfl, rfl, by simp⟩
  | l :: ls, _, .cons n m => by
    obtain ⟨ks, e1, e2, e3⟩ := tups_at ok m
    cases n with
    | @tup _ a xs hp m' =>
      rw [Dns.ints m'] at hp
      refine ⟨(a, l) :: ks, by rw [e1]; rfl, by rw [← e2]; rfl, fun p hp' => ?_⟩
      rcases List.mem_cons.mp hp' with rfl | h
      · exact hp
      · exact e3 p h
theorem dns_tups {K : PySem.W.Frag} {I : Hp} : ∀ {ks : List (Addr × List Int)}, (∀ p ∈ ks, I p.1 = some (.tup (p.2.map V.int))) → Dns K I ((ks.map (·.2)).map tI) (ks.map fun p => V.ref p.1)
  | [], _ => .nil
  | p :: ks, h => .cons (.tup (h p (List.mem_cons_self ..)) (by
      have key : ∀ l : List Int, Dns K I (l.map D.int) (l.map V.int) := by
        intro l
        induction l with
        | nil => exact .nil
        | cons i l ih => exact .cons (.int i) ih
      exact key p.2)) (dns_tups fun q hq => h q (List.mem_cons_of_mem _ hq))
/-- sorted(set(a list of tuples of ints, all as long)) -/
theorem ed_sortSetT {ls : List (List Int)} {d : Nat} {Bb : Int} (hc : X.calm = true) (hu : X.A.units + 64 < cLine) (hm : X.mg "sorted" = none) (hm2 : X.mg "set" = none) (hd : 1 ≤ d) (h64 : ls.length < 64) (hx : ∀ l ∈ ls, l.length = d ∧ TS.Bd Bb l)
    (h : ED X B S e fun y => y = .lst (ls.map tI)) (q : ∀ ls' : List (List Int), (∀ l, l ∈ ls' ↔ l ∈ ls) → ls'.Nodup → ls'.Pairwise (fun a b => TS.code Bb a ≤ TS.code Bb b) → Q (.lst (ls'.map tI)))
    (hps : X.mg "sorted" = none → X.mg "set" = none → X.A.units + 64 < cLine → PE X (.Call (.Name "sorted" p) [.Call (.Name "set" p2) [e] [] pos2] [] pos) (tCB (rSortedT X.K X.prog X.w) (tCons (tCB (rSetOfT X.K X.prog X.w) (tCons (WE X e) tNil)) tNil)) := by
      exact fun hm hm2 hu => pe_callB (cr_sortedT rfl) rfl hm (by first | rfl | decide +kernel) (pa_cons (pe_callTy (cr_setOfT rfl hu) rfl hm2 (by first | rfl | decide +kernel) (pa_cons DL.we_pe pa_nil)) pa_nil)) : ED X B S (.Call (.Name "sorted" p) [.Call (.Name "set" p2) [e] [] pos2] [] pos) Q := fun σ W H r R k => by
  refine PE.w (hps hm hm2 hu) ?_
  refine h σ W H r _ fun y v W1 H1 s1 ok1 n1 q1 => ?_
  subst q1
  cases n1 with
  | @lst _ a xs hp m =>
    obtain ⟨ks, rfl, e2, e3⟩ := tups_at ok1 m
    refine ⟨a, ks, rfl, SqL.of (ok1.ex _ _ hp), fun p hp' => SqT.of (ok1.ex _ _ (e3 p hp')), by rw [← e2, List.length_map] at h64; exact h64, fun b L hb g1 g2 => ?_⟩
    have s2 := Stp.own (W := W1) (o := SetTO X.prog X.w b L) hb
    have ok2 := ok1.own (o := SetTO X.prog X.w b L) hb
    have mem : ∀ l, l ∈ L.map (·.2) ↔ l ∈ ls := fun l => by
      rw [← e2]
      constructor
      · intro hl
        obtain ⟨p, hp', rfl⟩ := List.mem_map.mp hl
        exact List.mem_map_of_mem (g1 p hp')
      · intro hl
        obtain ⟨p, hp', rfl⟩ := List.mem_map.mp hl
        exact g2 p hp'
    refine ⟨b, L, d, Bb, rfl, upd_same, fun p hp' => SqT.of (ok2.ex _ _ (e3 p (g1 p hp'))), hd, fun p hp' => hx p.2 ((mem p.2).mp (List.mem_map_of_mem hp')), fun L' q1 pr nd l64 pw hq => ?_⟩
    have s3 := Stp.new (o := .lst (L'.map fun q => V.ref q.1)) ok2 hq
    refine k _ _ _ _ ((s1.trans ok1 s2).trans ok2 s3) (ok2.new hq) (.lst (show upd W1.I q1 _ q1 = _ from upd_same) ?_) (q (L'.map (·.2)) (fun l => ?_) nd (List.pairwise_map.mpr pw))
    · exact dns_tups fun p hp' => s3.I _ _ (e3 p (g1 p (pr.mem_iff.mp hp')))
    · rw [← mem l]
      exact (pr.map (·.2)).mem_iff
end
section
variable {X : Cx} {B : Hp} {W0 : Wd} {S : En} {pos : Pos} {e elt iter c : Expr} {x : Str} {px : Pos} {scope : Scope} {own : List (Str × Nat)} {d0 : D} {Q : List D → Prop} {E : Ends'} {α : Type} {f : α → D} {l : List α}
theorem sub_step {i : Nat} {a : α} (h1 : l[i]? = some a) (b : Bool) {acc : List D} (ha : ∃ ls : List α, acc = ls.map f ∧ ls.Sublist (l.take i)) : ∃ ls : List α, (acc ++ if b = true then [f a] else []) = ls.map f ∧ ls.Sublist (l.take (i + 1)) := by
  obtain ⟨ls, rfl, sb⟩ := ha
  rw [List.take_add_one, h1]
  cases b with
  | true => exact ⟨ls ++ [a], by rw [List.map_append]; rfl, sb.append (.refl _)⟩
  | false => exact ⟨ls, by simp, sb.trans (List.sublist_append_left ..)⟩
/-- [x for x in a list if c], whatever the tests tell: some of the list -/
theorem lc_sub (j : Nat) (hl : l.length ≤ 50000) (hit : ED X B S iter fun d => d = .lst (l.map f)) (hj : j ∈ own.map (·.2))
    (ht : ∀ a ∈ l, AllBlk X scope fun Y => TD Y B (itE S own j (f a)) c fun _ => True) (he : ∀ a ∈ l, AllBlk X scope fun Y => ED Y B (itE S own j (f a)) elt fun y => y = f a) (q : ∀ ls : List α, ls.Sublist l → Q (ls.map f)) :
    LC X B S (tLc (iList X.K (WE X iter)) (gName j) (WTb X scope c) (WEb X scope elt) (own.map (·.2))) Q := by
  refine lc_LI (fun i acc => ∃ ls : List α, acc = ls.map f ∧ ls.Sublist (l.take i)) (fun d => itE S own j d) (ed_imp hit fun d e => ⟨e, by rw [List.length_map]; exact hl, [], rfl, List.nil_sublist _⟩) (fun d _ => pat_name j hj) ?_ ?_
  · intro i d acc hi _ ha s H0 C cl fp σ W H r R k
    rw [List.getElem?_map] at hi
    obtain ⟨a, h1, rfl⟩ := Option.map_eq_some_iff.mp hi
    have am := List.mem_of_getElem? h1
    refine ht a am s H0 C cl fp σ W H r R fun b W' H' st ok' _ => k b W' H' st ok' ?_
    have ss := sub_step h1 b ha
    cases b with
    | true =>
      refine iteT ?_
      intro s H0 C cl fp
      refine ed_imp (he a am s H0 C cl fp) fun y ey => ?_
      rw [ey]
      simpa using ss
    | false =>
      refine iteF ?_
      simpa using ss
  · intro acc _ ⟨ls, e, sb⟩
    rw [List.length_map, List.take_length] at sb
    rw [e]
    exact q ls sb
theorem sd_sub {y : Str} {py spos : Pos} (i0 : Nat) (hy : X.N[i0]? = some y) (hyl : X.env.scope.names.lookup y = some .local) (j : Nat) (hc : X.calm = true) (hN : X.N.Nodup) (ok : BlkOk X.N X.env.scope scope own) (hg : AllBlk X scope fun Y => PG Y (.Name x px) (gName j)) (hj : j ∈ own.map (·.2)) (hl : l.length ≤ 50000) (hit : ED X B S iter fun d => d = .lst (l.map f))
    (ht : ∀ a ∈ l, AllBlk X scope fun Y => TD Y B (itE S own j (f a)) c fun _ => True) (he : ∀ a ∈ l, AllBlk X scope fun Y => ED Y B (itE S own j (f a)) elt fun y => y = f a) (q : ∀ ls : List α, ls.Sublist l → E.nx (S.set i0 (some (.own (ls.map f))))) (hsw : swapsWith (.ListComp elt [⟨.Name x px, iter, [c], 0⟩] scope pos) (some (.Name y py)) spos.line X.env = pure true := by exact sw_true rfl rfl rfl rfl) (hs : ∀ x, foldedSetIterable iter X.env x = pure x := by intro _; rfl) : SD X B W0 S (.Assign [.Name y py] (.ListComp elt [⟨.Name x px, iter, [c], 0⟩] scope pos) spos) E :=
  sd_ownLcI hc hN hy hyl (pi_list we_pe) ok hg (lc_sub j hl hit hj ht he q) hsw hs
/-- .. of a range -/
theorem lc_RS {n : Nat} (j : Nat) (hn : n ≤ 50000) (h : AD X B S [e] fun as => as = [.val (.int (n : Int))]) (hj : j ∈ own.map (·.2))
    (ht : ∀ i, i < n → AllBlk X scope fun Y => TD Y B (itE S own j (.int (i : Int))) c fun _ => True) (he : ∀ i, i < n → AllBlk X scope fun Y => ED Y B (itE S own j (.int (i : Int))) elt fun y => y = .int (i : Int)) (q : ∀ ls : List Nat, ls.Sublist (List.range n) → Q (ls.map fun (i : Nat) => D.int (i : Int))) :
    LC X B S (tLc (iRng1 (WA X [e])) (gName j) (WTb X scope c) (WEb X scope elt) (own.map (·.2))) Q := fun σ W H r R k => by
  refine h σ W H r _ fun as vs W1 H1 s1 ok1 n1 q1 => ?_
  subst q1
  obtain ⟨v, rfl, m⟩ := one_arg n1
  cases m
  refine ⟨(n : Int), rfl, by omega, by omega, fun p hp0 => ?_⟩
  have r1 := r.step s1 ok1
  refine lc_range (lo := 0) (n := (n : Int).toNat) (fun i H' => ∃ acc W', Mid X.K (gOf X) W1 H1 p acc W' H' ∧ acc.length ≤ i ∧ ∃ ls : List Nat, acc = ls.map (fun (i : Nat) => D.int (i : Int)) ∧ ls.Sublist (List.range i)) ⟨[], W1, ⟨Stp.own hp0, ok1.own hp0, ok1.notP hp0, ok1.free hp0, [], upd_same, .nil⟩, Nat.le_refl _, [], rfl, .refl _⟩ ?_ ?_
  · rintro i H' hi ⟨acc, W', mm, hl2, ls, ha, sb⟩
    rw [Int.zero_add]
    have hi' : i < n := by omega
    have r2 := r1.step mm.st mm.ok
    refine pat_name j hj (gOf X) B σ W' H' (.int (i : Int)) r2 (.int _) _ fun σ2 e2 r3 => ⟨e2, ?_⟩
    show WTb X scope c σ2 H' _
    intro s H0 C cl fp
    refine ht i hi' s H0 C cl fp σ2 W' H' r3 _ fun b W2 H2 s2 ok2 q2 => ?_
    cases b with
    | false => exact iteF ⟨acc, W2, mm.step s2 ok2, Nat.le_succ_of_le hl2, ls, ha, sb.trans (by rw [List.range_succ]; exact List.sublist_append_left ..)⟩
    | true =>
      refine iteT ?_
      show WEb X scope elt σ2 H2 _
      intro s H0 C cl fp
      refine he i hi' s H0 C cl fp σ2 W2 H2 (r3.step s2 ok2) _ fun y v W3 H3 s3 ok3 n3 q3 => ?_
      obtain ⟨xs', e1, e3, m3⟩ := ((mm.step s2 ok2).step s3 ok3).more hp0 n3 (by omega)
      exact ⟨xs', e1, e3, _, W3, m3, by simp only [List.length_append, List.length_singleton]; omega, ls ++ [i], by rw [ha, q3, List.map_append]; rfl, by rw [List.range_succ]; exact sb.append (.refl _)⟩
  · rintro H' ⟨acc, W', mm, hl2, ls, ha, sb⟩
    obtain ⟨ys, hH, ds⟩ := mm.h
    rw [Int.toNat_natCast] at sb
    exact k acc p ys W' H' (s1.trans ok1 mm.st) mm.ok (s1.free ok1 hp0) mm.n mm.i hH ds (by rw [ha]; exact q ls sb)
theorem sd_subR {y : Str} {py spos p1 pos1 : Pos} {n : Nat} (i0 : Nat) (hy : X.N[i0]? = some y) (hyl : X.env.scope.names.lookup y = some .local) (j : Nat) (hc : X.calm = true) (hN : X.N.Nodup) (hm : X.mg "range" = none) (ok : BlkOk X.N X.env.scope scope own) (hg : AllBlk X scope fun Y => PG Y (.Name x px) (gName j)) (hj : j ∈ own.map (·.2)) (hn : n ≤ 50000) (h : AD X B S [e] fun as => as = [.val (.int (n : Int))])
    (ht : ∀ i, i < n → AllBlk X scope fun Y => TD Y B (itE S own j (.int (i : Int))) c fun _ => True) (he : ∀ i, i < n → AllBlk X scope fun Y => ED Y B (itE S own j (.int (i : Int))) elt fun y => y = .int (i : Int)) (q : ∀ ls : List Nat, ls.Sublist (List.range n) → E.nx (S.set i0 (some (.own (ls.map fun (i : Nat) => D.int (i : Int))))))
    (hgl : Gl X "range" := by rfl) (hst : starEach [e] X.env = [(false, eval e X.env)] := by rfl) (hsw : swapsWith (.ListComp elt [⟨.Name x px, .Call (.Name "range" p1) [e] [] pos1, [c], 0⟩] scope pos) (some (.Name y py)) spos.line X.env = pure true := by exact sw_true rfl rfl rfl rfl) (hs : ∀ x, foldedSetIterable (.Call (.Name "range" p1) [e] [] pos1) X.env x = pure x := by intro _; rfl) : SD X B W0 S (.Assign [.Name y py] (.ListComp elt [⟨.Name x px, .Call (.Name "range" p1) [e] [] pos1, [c], 0⟩] scope pos) spos) E :=
  sd_ownLcI hc hN hy hyl (pi_range1 hgl hm wa_pa hst) ok hg (lc_RS j hn h hj ht he q) hsw hs
/-- list(a text) -/
theorem fd_listS {p : Pos} {Q : List D → Prop} (hm : X.mg "list" = none) (h : ED X B S e fun d => ∃ s : Str, d = .str s ∧ s.cps.size ≤ 50000 ∧ Q ((s.cps.toList.map sg).map D.str)) (hv : bootBuiltins "list" = some (.type "list") := by first | rfl | decide +kernel) (hg : Gl X "list" := by rfl)
    (he : starEach [e] X.env = (false, eval e X.env) :: starEach [] X.env := by rfl) (hpl : (backTo pos (starEach [] X.env)).any (·.1) = false := by rfl) (hc : X.calm = true := by rfl) : FD X B S (.Call (.Name "list" p) [e] [] pos) Q := fun σ W H r R k => by
  refine PE.w (pe_callTy (cr_listS hc) hg hm hv (pa_cons we_pe pa_nil he) (by decide) (by decide) he hpl) ?_
  refine h σ W H r _ fun d v W1 H1 s1 ok1 n1 q1 => ?_
  obtain ⟨s, rfl, hs, q1⟩ := q1
  cases n1
  refine ⟨s, rfl, hs, fun p hp => ?_⟩
  exact k _ p _ W1 _ (s1.trans ok1 (Stp.own hp)) (ok1.own hp) (s1.free ok1 hp) (ok1.notP hp) (ok1.free hp) upd_same (strs_dns _) q1
end
end DL

set_option Elab.async false
set_option linter.all false
set_option maxRecDepth 100000
set_option maxHeartbeats 2000000
/-! a loop over a list that is drawn where the loop begins -/
namespace DL
open PySem PySem.Spec PyProof.Rows L2
section
variable {X : Cx} {B : Hp} {W0 : Wd} {S : En} {pos : Pos} {E : Ends'}
theorem sd_forLG {tg iter : Expr} {body : List Stmt} (hp : PassesOwn (model X.prog X.w) X.A X.env X.xe) (hc : X.calm = true) (Inv : List D → Nat → En → Prop) (h : ED X B S iter fun d => ∃ l, d = .lst l ∧ Inv l 0 S)
    (hs : ∀ l (i : Nat) d S', l[i]? = some d → Inv l i S' → GD X B W0 S' tg d fun S2 => SDs X B W0 S2 body { nx := Inv l (i + 1), rt := E.rt, bk := E.nx, ct := Inv l (i + 1) })
    (hd : ∀ l S', Inv l l.length S' → E.nx S') (hf : ∀ x, foldedSetIterable iter X.env x = pure x := by intro _; rfl) : SD X B W0 S (.For tg iter body [] pos) E := fun σ W H r z D' k => by
  refine PS.w (ps_for hp hc (pi_list we_pe) wg_pg wss_pss hf) ?_
  refine h σ W H r _ fun d v W1 H1 s1 ok1 n1 q1 => ?_
  obtain ⟨l, rfl, i0⟩ := q1
  cases n1 with
  | @lst _ a xs ha m =>
    refine ⟨a, rfl, ⟨xs, SqL.of (ok1.ex _ _ ha)⟩, for_list (K := X.K) (a := a) (xs := xs) (fun i σ' H' => ∃ S' W', Rep X.K (gOf X) B S' σ' W' H' ∧ Stp W0 B W' H' ∧ Ex W1.I W'.I ∧ Inv l i S') ⟨S, W1, r.step s1 ok1, z.trans r.ok s1, Ex.refl _, i0⟩
      (fun i σ' H' _ ⟨S', W', r', _, e', _⟩ => SqL.of (r'.ok.ex _ _ (e' _ _ ha))) ?_ ?_⟩
    · rintro i x σ' H' hx ⟨S', W', r', z', e', i'⟩
      obtain ⟨d, hd', nd⟩ := m.get hx
      refine hs l i d S' hd' i' σ' W' H' x r' z' (nd.mono e') _ fun S2 σ2 W2 H2 r2 z2 e2 q2 => ?_
      exact q2 σ2 W2 H2 r2 z2 _ ⟨fun S3 σ3 W3 H3 r3 z3 e3 q3 => ⟨S3, W3, r3, z3, (e'.trans e2).trans e3, q3⟩, fun d3 v3 W3 H3 r3 z3 e3 n3 q3 => k.rt d3 v3 W3 H3 r3 z3 (((s1.I.trans e').trans e2).trans e3) n3 q3,
        fun S3 σ3 W3 H3 r3 z3 e3 q3 => k.nx S3 σ3 W3 H3 r3 z3 (((s1.I.trans e').trans e2).trans e3) q3, fun S3 σ3 W3 H3 r3 z3 e3 q3 => ⟨S3, W3, r3, z3, (e'.trans e2).trans e3, q3⟩⟩
    · rintro σ' H' ⟨S', W', r', z', e', i'⟩
      rw [← m.length] at i'
      exact k.nx S' σ' W' H' r' z' (s1.I.trans e') (hd l S' i')
end
end DL

set_option Elab.async false
set_option linter.all false
set_option maxRecDepth 100000
set_option maxHeartbeats 4000000
/-! for x, y, z in zip(a, b, c) -/
namespace Z3
open PySem PySem.Spec PyProof.Rows ZX
def ItAt : Bool → Addr → Addr → Nat → Heap → Prop
  | true => fun it l i h => h.IsTupleIter it l i
  | false => fun it l i h => h.IsListIter it l i
theorem ItAt.at {t : Bool} {it l : Addr} {i : Nat} {h h' : Heap} (x : ItAt t it l i h) (k : ∀ o, h.get? it = some o → h'.get? it = some o) : ItAt t it l i h' := by
  cases t with
  | true => exact Heap.IsTupleIter.at x k
  | false => exact Heap.IsListIter.at x k
theorem ItAt.obj {t : Bool} {it l : Addr} {i : Nat} {h : Heap} (x : ItAt t it l i h) : ∃ o, h.get? it = some o ∧ ∀ v, o.data ≠ .cell v := by
  cases t with
  | true =>
    obtain ⟨o, ho, _, d⟩ := x
    exact ⟨o, ho, fun v q => by rw [d] at q; cases q⟩
  | false =>
    obtain ⟨o, ho, _, d⟩ := x
    exact ⟨o, ho, fun v q => by rw [d] at q; cases q⟩
theorem drawsB {prog : Program} {w : World} {A : Around} (t : Bool) (hh : A.handled = none) (it l : Addr) (hne : l ≠ it) (items : Array Value) :
    Draws prog w A it [it, l] items.size (fun i v => items[i]? = some v) (fun i h => ItAt t it l i h ∧ Stand t h l items) := by
  cases t with
  | true => exact Draws.tuple hh it l hne items
  | false => exact Draws.list hh it l hne items
/-- how the zip stands ahead of turn i -/
structure St (t u v : Bool) (a b c z TI TO i1 i2 i3 : Addr) (i : Nat) (h : Heap) : Prop where
  z : IsZip h z TI TO .none
  ti : IsTupOf3 h TI (.ref i1) (.ref i2) (.ref i3)
  to : ∃ x y w, IsTupOf3 h TO x y w
  f : ItAt t i1 a i h
  g : ItAt u i2 b i h
  e : ItAt v i3 c i h
end Z3
namespace DL
open PySem PySem.Spec PyProof.Rows L2 ZX Z3
def Itm3 (K : PySem.W.Frag) (t u v : Bool) (a b c : Addr) : It where
  go := fun i H => ∃ (xs ys ws : List V) (x y w : V), SqB K t H a xs ∧ SqB K u H b ys ∧ SqB K v H c ws ∧ xs[i]? = some x ∧ ys[i]? = some y ∧ ws[i]? = some w
  yld := fun i H r H' => ∃ T x y w, r = .ref T ∧ H T = none ∧ H' = upd H T (.tup [x, y, w]) ∧ (∀ xs, SqB K t H a xs → xs[i]? = some x) ∧ (∀ ys, SqB K u H b ys → ys[i]? = some y) ∧ ∀ ws, SqB K v H c ws → ws[i]? = some w
  stop := fun i H => ∃ xs ys ws : List V, SqB K t H a xs ∧ SqB K u H b ys ∧ SqB K v H c ws ∧ i ≤ xs.length ∧ i ≤ ys.length ∧ i ≤ ws.length ∧ (i = xs.length ∨ i = ys.length ∨ i = ws.length)
theorem beginsB (t : Bool) (l : Addr) (items : Array Value) : ∃ o, Begins (.ref l) o (fun h => Stand t h l items) ∧ ∀ (h : Heap) it, h.get? it = some o → ItAt t it l 0 h := by
  cases t with
  | true => exact ⟨_, begins_tuple l items, fun h it e => ⟨_, e, rfl, rfl⟩⟩
  | false => exact ⟨_, begins_list l items, fun h it e => ⟨_, e, rfl, rfl⟩⟩
def iZm3 (K : PySem.W.Frag) (ta : TA) : TI := fun σ H R => ta σ H fun vs H1 => ∃ t u v a b c xs ys ws, vs = [.ref a, .ref b, .ref c] ∧ SqB K t H1 a xs ∧ SqB K u H1 b ys ∧ SqB K v H1 c ws ∧ R (Itm3 K t u v a b c) H1
section
variable {X : Cx} {B : Hp} {W0 : Wd} {S : En} {pos p p1 : Pos} {e e2 e3 : Expr} {E : Ends'}
theorem three_args {K : PySem.W.Frag} {W : Wd} {d d' d2 : D} {vs : List V} (h : Args K W [.val d, .val d', .val d2] vs) : ∃ v u r, vs = [v, u, r] ∧ Dn K W.I d v ∧ Dn K W.I d' u ∧ Dn K W.I d2 r := by
  cases h with
  | cons h r => cases r with
    | cons h' r' => cases r' with
      | cons h2 r2 => cases r2; exact ⟨_, _, _, rfl, h, h', h2⟩
end
end DL

set_option Elab.async false
set_option linter.all false
set_option maxRecDepth 100000
set_option maxHeartbeats 4000000
/-! dict != dict, both the same, by an own == inside where there is one -/
namespace DL
open PySem PySem.Spec PyProof.Rows L2
section
variable {X : Cx} {n : Nat} {Q : D → Prop}
end
end DL

set_option Elab.async false
set_option linter.all false
set_option maxRecDepth 100000
set_option maxHeartbeats 4000000
/-! dict(d) of a dict with keys of ints: a copy, where no two keys hash alike -/
namespace DCP
open PySem PySem.Spec PyProof.Rows
section
variable {prog : Program} {w : World} {K : Type} [DecidableEq K] {knd : HeapKind prog w K} {A : Around} {E : Value → Shared → Prop} {s : Shared}
end
end DCP

namespace DL
open PySem PySem.Spec PyProof.Rows L2
abbrev hK (P : Program) (w : World) (k : List Key) : Int := (tupleKind (mixKind P w)).hash k
section
variable {X : Cx} {B : Hp} {S : En} {pos p : Pos} {e : Expr}
end
end DL

set_option Elab.async false
set_option linter.all false
set_option maxRecDepth 100000
set_option maxHeartbeats 4000000
/-! == and != whatever comes out, by an own == inside where there is one -/
namespace NB
open PySem PySem.SeqAt
open AutoSeq1 (wpAny_loadPart')
open MeetsSeq MeetsSeq2 MeetsSeq3 SeqRoads2
/-- k of them from i on -/
def upTo (vs : Nat → Bool) (i : Nat) : Nat → Bool
  | 0 => true
  | k + 1 => vs i && upTo vs (i + 1) k
section
variable {prog : Program} {w : World} {A : Around} {R : Result → Shared → Prop}
/-- two lists, read anew at each turn -/
def Both (prog : Program) (w : World) (A : Around) (E : Value → Shared → Prop) (l b : Addr) (n m : Nat) (vs : Nat → Bool) (Z : Shared → Prop) : Prop :=
  ∀ t, Z t → ∃ (xs ys : Array Value) (c d : Nat), t.heap.get? l = some { cls := .type "list", data := .seq xs c } ∧ t.heap.get? b = some { cls := .type "list", data := .seq ys d } ∧ xs.size = n ∧ ys.size = m ∧
    ∀ i (p : i < xs.size) (q : i < ys.size), wpAny (model prog w) A.in1 (eqBool xs[i] ys[i]) (fun r t' => r = vs i ∧ Z t') E t
end
section
variable {prog : Program} {w : World} {A : Around} {E : Value → Shared → Prop} {t : Shared} {l b : Addr} {n m : Nat} {vs : Nat → Bool} {Q : Value → Shared → Prop}
end
end NB

set_option Elab.async false
set_option linter.all false
set_option maxRecDepth 100000
set_option maxHeartbeats 4000000
/-! the same for tuples and dicts; judgements with a verdict -/
namespace NB
open PySem PySem.SeqAt
open AutoSeq1 (wpAny_loadPart')
open MeetsSeq MeetsSeq2 MeetsSeq3 SeqRoads2
section
variable {prog : Program} {w : World} {A : Around} {R : Result → Shared → Prop}
end
section
variable {prog : Program} {w : World} {A : Around} {E : Value → Shared → Prop} {t : Shared} {l b : Addr} {vs : Nat → Bool} {Q : Value → Shared → Prop}
end
end NB

set_option Elab.async false
set_option linter.all false
set_option maxRecDepth 100000
set_option maxHeartbeats 4000000
/-! == with a verdict, of data that hold own objects -/
namespace DL
open PySem PySem.Spec PyProof.Rows L2
def EqB (X : Cx) (n : Nat) (x y : D) (b : Bool) : Prop := ∀ (A : Around) (pins : List (Addr × Obj)) (t : Shared) (τ : L2.St) (W : Wd) (H : Hp) (v u : V) (v' u' : Value), L2.Sub X n A → A.guards = some (gOf X) → Inv X pins τ H t → Ok (gOf X) W H → Dn X.K W.I x v → Dn X.K W.I y u → RelV v v' → RelV u u' →
  wpAny (model X.prog X.w) A (eqBool v' u') (fun r t' => r = b ∧ Later X pins τ W H t') X.xe t
def RcB (X : Cx) (n : Nat) (x y : D) (b : Bool) : Prop := ∀ (A : Around) (pins : List (Addr × Obj)) (t : Shared) (τ : L2.St) (W : Wd) (H : Hp) (v u : V) (v' u' : Value), L2.Sub X n A → A.guards = some (gOf X) → Inv X pins τ H t → Ok (gOf X) W H → Dn X.K W.I x v → Dn X.K W.I y u → RelV v v' → RelV u u' →
  wpAny (model X.prog X.w) A (richCompare .Eq v' u') (fun r t' => r = .bool b ∧ Later X pins τ W H t') X.xe t
/-- no value is both -/
def Apart (K : PySem.W.Frag) (x y : D) : Prop := ∀ I v, Dn K I x v → Dn K I y v → False
section
variable {X : Cx} {n m : Nat} {x y : D} {b : Bool}
end
section
variable {X : Cx} {n : Nat} {x y : D} {b : Bool} {Q : D → Prop}
end
end DL

set_option Elab.async false
set_option linter.all false
set_option maxRecDepth 100000
set_option maxHeartbeats 4000000
/-! an object == a list, an object != a text; data apart -/
namespace DL
open PySem PySem.Spec PyProof.Rows L2
section
variable {X : Cx} {Q : D → Prop} {C : Addr} {k : Nat} {sp : SpD} {fs : List (Str × D)}
end
end DL

set_option Elab.async false
set_option linter.all false
set_option maxRecDepth 100000
set_option maxHeartbeats 4000000
/-! a, b, c = a list -/
namespace UL
open PySem PyProof.Rows
section
variable {prog : Program} {w : World} {A : Around} {E : Value → Shared → Prop}
end
end UL
namespace DL
open PySem L2
section
variable {X : Cx} {B : Hp} {W0 : Wd} {S : En} {pos : Pos} {Q : En → Prop}
end
end DL

set_option Elab.async false
set_option linter.all false
set_option maxRecDepth 100000
set_option maxHeartbeats 4000000
/-! two owned lists at once; what is popped of one goes to the other; len of an owned list; list(range(n)) -/
namespace DL
open PySem PySem.Spec PyProof.Rows L2
section
variable {X : Cx} {B : Hp} {W0 : Wd} {S : En} {pos px py p : Pos} {e a b : Expr} {x y : Str} {Q : D → Prop} {E : Ends'}
theorem ed_lenOwn (i : Nat) (l : List D) (hm : X.mg "len" = none) (hN : X.N[i]? = some x) (h : S[i]? = some (some (.own l))) (q : Q (.int (l.length : Int))) (hg : Gl X "len" := by rfl) (hv : Vis X.env.scope x := by first | exact Or.inl rfl | exact Or.inr (Or.inl rfl) | exact Or.inr (Or.inr rfl))
    (hd : (x == ("__debug__" : Str)) = false := by decide) (hcd : (x == ("__classdict__" : Str)) = false := by decide) (hbv : bootBuiltins "len" = some (.builtin "len") := by first | rfl | decide +kernel)
    (hps : X.mg "len" = none → PE X (.Call (.Name "len" p) [.Name x px] [] pos) (tCB (fun vs H Q => ∃ a xs, vs = [V.ref a] ∧ (SqL X.K H a xs ∨ SqT X.K H a xs) ∧ Q (.int (xs.length : Int)) H) (tCons (tVar i) tNil)) := by exact fun hm => pe_callB call_len_seq rfl hm (by first | rfl | decide +kernel) (pa_cons (pe_var (by rfl) (by first | exact Or.inl rfl | exact Or.inr (Or.inl rfl) | exact Or.inr (Or.inr rfl))) pa_nil)) : ED X B S (.Call (.Name "len" p) [.Name x px] [] pos) Q := fun σ W H r R k => by
  refine PE.w (hps hm) ?_
  obtain ⟨v, e1, p, xs, rfl, hB, n, hI, hH, d0⟩ := r.sl i _ h
  refine ⟨_, e1, p, xs, rfl, .inl (SqL.of hH), ?_⟩
  rw [← d0.length]
  exact k.now r.ok (.int _) q
theorem sd_parOwn {pt : Pos} {kt k2 pt2} (i j : Nat) (hij : i ≠ j) (h : FD X B S a fun l => FD X B S b fun m => E.nx ((S.set i (some (.own l))).set j (some (.own m))))
    (hps : PS X (.Assign [.Tuple [.Name x px, .Name y py] kt pt] (.Tuple [a, b] k2 pt2) pos) (tPar i j (tCons (WE X a) (tCons (WE X b) tNil)))) :
    SD X B W0 S (.Assign [.Tuple [.Name x px, .Name y py] kt pt] (.Tuple [a, b] k2 pt2) pos) E := fun σ W H r z D' k => by
  refine PS.w hps ?_
  refine h σ W H r _ fun l p xs W1 H1 s1 ok1 hp n i1 hl d q1 => ?_
  refine q1 σ W1 H1 (r.step s1 ok1) _ fun m p' ys W2 H2 s2 ok2 hp' n' i2 hl' d' q2 => ?_
  have ne : p ≠ p' := fun e => by rw [e, hp'] at hl; cases hl
  have r1 := r.step s1 ok1
  have r2 := r1.step s2 ok2
  have new1 : ∀ (j : Nat) (m : List D), S[j]? = some (some (.own m)) → σ[j]? ≠ some (some (.ref p)) := fun j m e1 e2 => by
    obtain ⟨v, e3, p2, zs, e4, _, _, _, h4, _⟩ := r.sl j _ e1
    rw [e2] at e3
    cases e3
    cases e4
    rw [hp] at h4
    cases h4
  have r3 := r2.setOwn (i := i) (z.free r.ok hp) (fun y => n (s2.oldP p _ hl y)) (s2.old p _ hl (fun _ y => by cases y) i1) (s2.keep p _ hl n) (d.mono s2.I) new1
  have new2 : ∀ (j' : Nat) (m : List D), (S.set i (some (.own l)))[j']? = some (some (.own m)) → (σ.set i (some (.ref p)))[j']? ≠ some (some (.ref p')) := fun j' m e1 e2 => by
    by_cases c : i = j'
    · subst c
      by_cases lt : i < σ.length
      · rw [List.getElem?_set_self lt] at e2
        cases e2
        exact ne rfl
      · rw [List.getElem?_eq_none (by rw [List.length_set]; omega)] at e2
        cases e2
    · rw [List.getElem?_set_ne c] at e1 e2
      obtain ⟨v, e3, p2, zs, e4, _, _, _, h4, _⟩ := r1.sl j' _ e1
      rw [e2] at e3
      cases e3
      cases e4
      rw [hp'] at h4
      cases h4
  have zz := z.trans r.ok s1
  exact ⟨.ref p, .ref p', rfl, k.nx _ _ W2 H2 (r3.setOwn (i := j) (zz.free ok1 hp') n' i2 hl' d' new2) (zz.trans ok1 s2) (s1.I.trans s2.I) q2⟩
/-- x.append(y.pop(e)) -/
theorem sd_appPop {ap ap2 cp cp2 : Pos} (i j : Nat) (l m : List D) (hij : i ≠ j) (hS : S[i]? = some (some (.own l))) (hT : S[j]? = some (some (.own m))) (hl : l.length < 50000) (he : ED X B S e fun d => ∃ (k : Nat) (a : D), d = .int (k : Int) ∧ m[k]? = some a ∧ m.length < 50000 ∧ E.nx ((S.set j (some (.own (m.eraseIdx k)))).set i (some (.own (l ++ [a])))))
    (hps : PE X (.Call (.Attribute (.Name x px) "append" ap) [.Call (.Attribute (.Name y py) "pop" ap2) [e] [] cp2] [] cp) (tBM X.K "list" rAppend (tVar i) (tCons (tBM X.K "list" rPopAt (tVar j) (tCons (WE X e) tNil)) tNil)))
    (hs : swapsWith (.Call (.Attribute (.Name x px) "append" ap) [.Call (.Attribute (.Name y py) "pop" ap2) [e] [] cp2] [] cp) none pos.line X.env = pure false) : SD X B W0 S (.Expr (.Call (.Attribute (.Name x px) "append" ap) [.Call (.Attribute (.Name y py) "pop" ap2) [e] [] cp2] [] cp) pos) E := fun σ W H r z D' k => by
  refine PS.w (ps_expr hps hs) ?_
  obtain ⟨v, e1, p, xs, ev, hB, n, hI, hH, d0⟩ := r.sl i _ hS
  subst ev
  obtain ⟨v', e1', p', ys, ev', hB', n', hI', hH', d0'⟩ := r.sl j _ hT
  subst ev'
  have ne : p ≠ p' := fun q => r.dist i j l m p hij hS hT e1 (by rw [q]; exact e1')
  refine ⟨_, e1, .inl ⟨rfl, _, SqL.of hH⟩, ?_⟩
  refine ⟨_, e1', .inl ⟨rfl, _, SqL.of hH'⟩, ?_⟩
  refine he σ W H r _ fun d v W1 H1 s1 ok1 n1 q1 => ?_
  obtain ⟨k1, a, rfl, hk, hm, q1⟩ := q1
  cases n1
  have hH1 : H1 p = some (.lst xs) := s1.keep _ _ hH n
  have nP : ¬ W1.P p := fun q => n (s1.oldP p _ hH q)
  have hI1 : W1.I p = none := s1.old p _ hH (fun _ z => by cases z) hI
  have hH1' : H1 p' = some (.lst ys) := s1.keep _ _ hH' n'
  have nP' : ¬ W1.P p' := fun q => n' (s1.oldP p' _ hH' q)
  have hI1' : W1.I p' = none := s1.old p' _ hH' (fun _ z => by cases z) hI'
  have d1 := d0.mono s1.I
  have d1' := d0'.mono s1.I
  obtain ⟨u, hu, na⟩ := d1'.get' hk
  have hkx : k1 < ys.length := (List.getElem?_eq_some_iff.mp hu).1
  have ly := d0'.length
  refine ⟨p', ys, k1, k1, u, rfl, rfl, hH1', by omega, by omega, (ixN_seq (ixN_lt hkx)).1, hu, ?_⟩
  have de : Dns X.K W1.I (m.eraseIdx k1) (ys.eraseIdx k1) := by
    rw [List.eraseIdx_eq_take_drop_succ, List.eraseIdx_eq_take_drop_succ]
    exact (dns_take k1 d1').append (dns_drop (k1 + 1) d1')
  have r2 := (r.step s1 ok1).putOwn hT e1' hB' nP' hI1' hH1' de
  have hH2 : upd H1 p' (.lst (ys.eraseIdx k1)) p = some (.lst xs) := by rw [upd_ne ne]; exact hH1
  refine ⟨p, xs, u, rfl, rfl, hH2, Nat.lt_of_lt_of_le (d0.length ▸ hl) (by decide), ?_⟩
  have r3 := r2.putOwn (i := i) (l := l) (by rw [List.getElem?_set_ne (Ne.symm hij)]; exact hS) e1 hB nP hI1 hH2 (d1.append (.cons na .nil))
  exact k.nx _ σ W1 _ r3 (stp_upd (stp_upd (z.trans r.ok s1) hB') hB) s1.I q1
end
end DL

set_option Elab.async false
set_option linter.all false
set_option maxRecDepth 100000
set_option maxHeartbeats 8000000
/-! k25: keys of counts, all of them, some of them -/
namespace K25
open PySem L2 DL
def allc : Nat → Nat → List (List Int)
  | 0, _ => []
  | 1, d => [[(d : Int)]]
  | m + 2, d => (List.range (d + 1)).flatMap fun f => (allc (m + 1) (d - f)).map fun l => (f : Int) :: l
/-- the sizes that are drawn -/
def dom (m d : Nat) : Bool := (decide (m = 1) && decide (d ≤ 8)) || (decide (m = 2) && decide (d ≤ 6)) || (decide (m = 3) && decide (d ≤ 4)) || (decide (m = 4) && decide (d ≤ 3))
theorem dom_le {m d : Nat} (h : dom m d = true) : 1 ≤ m ∧ m ≤ 4 ∧ d ≤ 8 := by
  unfold dom at h
  simp only [Bool.or_eq_true, Bool.and_eq_true, decide_eq_true_eq] at h
  omega
theorem dom_pred {m d e : Nat} (h : dom (m + 2) d = true) (k : e ≤ d) : dom (m + 1) e = true := by
  unfold dom at h ⊢
  simp only [Bool.or_eq_true, Bool.and_eq_true, decide_eq_true_eq] at h ⊢
  omega
/-- keys of m counts that make d, rising -/
structure Pk (m d : Nat) (ps : List (List Int)) : Prop where
  len : ∀ k ∈ ps, k.length = m
  nn : ∀ k ∈ ps, ∀ c ∈ k, (0 : Int) ≤ c
  sum : ∀ k ∈ ps, k.sum = (d : Int)
  so : ps.Pairwise fun a b => TS.code 9 a < TS.code 9 b
theorem Pk.sub {m d : Nat} {ps qs : List (List Int)} (h : Pk m d ps) (s : qs.Sublist ps) : Pk m d qs :=
  ⟨fun k hk => h.len k (s.subset hk), fun k hk => h.nn k (s.subset hk), fun k hk => h.sum k (s.subset hk), h.so.sublist s⟩
theorem Pk.bd {m d : Nat} {ps : List (List Int)} (h : Pk m d ps) (hd : d ≤ 8) : ∀ k ∈ ps, TS.Bd 9 k := fun k hk c hc => by
  have h1 := h.nn k hk
  have h2 := (le_sum h1).2 c hc
  rw [h.sum k hk] at h2
  have := h1 c hc
  omega
theorem Pk.nd {m d : Nat} {ps : List (List Int)} (h : Pk m d ps) : ps.Nodup := h.so.imp fun l e => by rw [e] at l; exact Int.lt_irrefl _ l
instance (m d : Nat) (ps : List (List Int)) : Decidable (Pk m d ps) :=
  decidable_of_iff ((∀ k ∈ ps, k.length = m) ∧ (∀ k ∈ ps, ∀ c ∈ k, (0 : Int) ≤ c) ∧ (∀ k ∈ ps, k.sum = (d : Int)) ∧ ps.Pairwise fun a b => TS.code 9 a < TS.code 9 b) ⟨fun ⟨a, b, c, d⟩ => ⟨a, b, c, d⟩, fun ⟨a, b, c, d⟩ => ⟨a, b, c, d⟩⟩
theorem allc_facts : ∀ m, m ≤ 4 → ∀ d, d ≤ 8 → dom m d = true → Pk m d (allc m d) ∧ (allc m d).length ≤ 20 ∧ (∀ e, e < d → (allc m e).length * m < 64) := by decide +kernel
theorem allc_pk {m d : Nat} (h : dom m d = true) : Pk m d (allc m d) := (allc_facts m (dom_le h).2.1 d (dom_le h).2.2 h).1
theorem allc_len {m d : Nat} (h : dom m d = true) : (allc m d).length ≤ 20 := (allc_facts m (dom_le h).2.1 d (dom_le h).2.2 h).2.1
theorem allc_few {m d e : Nat} (h : dom m d = true) (k : e < d) : (allc m e).length * m < 64 := (allc_facts m (dom_le h).2.1 d (dom_le h).2.2 h).2.2 e k
theorem mem_allc : ∀ (m d : Nat) (k : List Int), k.length = m + 1 → (∀ c ∈ k, (0 : Int) ≤ c) → k.sum = (d : Int) → k ∈ allc (m + 1) d
  | 0, d, k, hl, hn, hs => by
    match k, hl with
    | [c], _ =>
      have : c = (d : Int) := by simpa using hs
      rw [this]
      exact List.mem_singleton.mpr rfl
  | m + 1, d, k, hl, hn, hs => by
    match k, hl with
    | c :: k, hl =>
      have hl' : k.length = m + 1 := Nat.succ.inj hl
      have hn' : ∀ x ∈ k, (0 : Int) ≤ x := fun x hx => hn x (List.mem_cons_of_mem _ hx)
      have c0 := hn c (List.mem_cons_self ..)
      have s0 := (le_sum hn').1
      rw [List.sum_cons] at hs
      refine List.mem_flatMap.mpr ⟨c.toNat, List.mem_range.mpr (by omega), List.mem_map.mpr ⟨k, mem_allc m (d - c.toNat) k hl' hn' (by omega), ?_⟩⟩
      rw [Int.toNat_of_nonneg c0]
theorem subset_len {α : Type} [DecidableEq α] : ∀ {l m : List α}, l.Nodup → (∀ x ∈ l, x ∈ m) → l.length ≤ m.length
  | [], _, _, _ => Nat.zero_le _
  | x :: l, m, nd, h => by
    rw [List.nodup_cons] at nd
    have hx := h x (List.mem_cons_self ..)
    have := subset_len (l := l) (m := m.erase x) nd.2 fun y hy => (List.mem_erase_of_ne fun e => nd.1 (by rw [← e]; exact hy)).mpr (h y (List.mem_cons_of_mem _ hy))
    rw [List.length_erase_of_mem hx] at this
    have := List.length_pos_of_mem hx
    rw [List.length_cons]
    omega
theorem Pk.few {m d : Nat} {ps : List (List Int)} (h : Pk m d ps) (m1 : 1 ≤ m) : ps.length ≤ (allc m d).length := by
  obtain ⟨m, rfl⟩ : ∃ j, m = j + 1 := ⟨m - 1, by omega⟩
  exact subset_len h.nd fun k hk => mem_allc m d k (h.len k hk) (h.nn k hk) (h.sum k hk)
/-- one more at a place -/
def inc (a : Nat) (k : List Int) : List Int := k.set a (k.getD a 0 + 1)
theorem inc_parts {a : Nat} {k : List Int} (h : a < k.length) : (k.map D.int).take a ++ [D.int (k.getD a 0 + 1)] ++ (k.map D.int).drop (a + 1) = (inc a k).map D.int := by
  unfold inc
  rw [List.set_eq_take_append_cons_drop, if_pos h, List.map_append, List.map_cons, List.map_take, List.map_drop]
  simp
theorem inc_nn {a : Nat} {k : List Int} (h : ∀ c ∈ k, (0 : Int) ≤ c) : ∀ c ∈ inc a k, (0 : Int) ≤ c := fun c hc => by
  rcases List.mem_or_eq_of_mem_set hc with z | z
  · exact h c z
  · rw [z]
    have : 0 ≤ k.getD a 0 := by
      rw [List.getD_eq_getElem?_getD]
      cases e : k[a]? with
      | none => exact Int.le_refl _
      | some x => exact h x (List.mem_of_getElem? e)
    omega
/-- what is sorted out of what was made rises -/
theorem pk_of {m d : Nat} {ms ls : List (List Int)} (hd : d ≤ 8) (h1 : ∀ k ∈ ms, k.length = m) (h2 : ∀ k ∈ ms, ∀ c ∈ k, (0 : Int) ≤ c) (h3 : ∀ k ∈ ms, k.sum = (d : Int)) (mem : ∀ l, l ∈ ls ↔ l ∈ ms) (nd : ls.Nodup) (pw : ls.Pairwise fun a b => TS.code 9 a ≤ TS.code 9 b) : Pk m d ls := by
  have bd : ∀ k ∈ ls, TS.Bd 9 k := fun k hk c hc => by
    have n := h2 k ((mem k).mp hk)
    have := (le_sum n).2 c hc
    rw [h3 k ((mem k).mp hk)] at this
    have := n c hc
    omega
  refine ⟨fun k hk => h1 k ((mem k).mp hk), fun k hk => h2 k ((mem k).mp hk), fun k hk => h3 k ((mem k).mp hk), ?_⟩
  refine (pw.and nd).imp_of_mem fun {a b} ha hb q => ?_
  refine Int.lt_iff_le_and_ne.mpr ⟨q.1, fun e => q.2 (code_inj (B := 9) (by rw [h1 a ((mem a).mp ha), h1 b ((mem b).mp hb)]) (bd a ha) (bd b hb) e)⟩
section
variable {X : Cx} {Q : D → Prop}
theorem shaped_is (l : List Int) : SeqAt.shaped (.list (l.map .int)) = true := by
  unfold SeqAt.shaped
  rw [Bool.and_eq_true, decide_eq_true_eq]
  refine ⟨can_ints l, ?_⟩
  show PyData.depthAll _ + 1 ≤ 64
  rw [PySem.W.depth_ints]
  decide
theorem od_neNilI {l : List Int} (hu : X.A.units + 64 < cLine) (q : Q (.bl (!l.isEmpty))) : OD X (compareOp .NotEq) (.lst (l.map D.int)) (.lst []) Q := by
  refine od_ned hu (.lst (pyd_ints l)) (.lst .nil) (shaped_is l) (by decide) ?_
  cases l <;> exact q
end
theorem un64 {X : Cx} {k : Nat} (hr : Room k X.A) : X.A.units + 64 < cLine := by
  have := hr.units
  omega
section
variable {P : Program} {w : World} {K : PySem.W.Frag} {mg : Str → Option Value} {base : Heap} {C CB : Addr}
/-! mixed -/
theorem er_perm {b : List D} {d : Nat} (h : d < b.length) : ([b[d]] ++ b.eraseIdx d).Perm b := by
  rw [List.eraseIdx_eq_take_drop_succ]
  have e : b = b.take d ++ b[d] :: b.drop (d + 1) := by
    rw [List.getElem_cons_drop, List.take_append_drop]
  have p : (b[d] :: (b.take d ++ b.drop (d + 1))).Perm (b.take d ++ b[d] :: b.drop (d + 1)) := List.perm_middle.symm
  rw [← e] at p
  exact p
/-- a list, or a text, as a list -/
def asL : D → List D
  | .lst l => l
  | .str s => (s.cps.toList.map sg).map D.str
  | _ => []
abbrev spMix : SpD := fun as Q => ∃ d : D, as = [.pot, .val d] ∧ ((∃ l, d = .lst l) ∨ ∃ s, d = .str s) ∧ (asL d).length ≤ 1000 ∧ ∀ l' : List D, l'.Perm (asL d) → Q (.lst l')
abbrev NMi : List Str := ["_law_pot_here", "_law_some", "_law_left", "_law_found", "_law_turn"]
theorem sc_mix : FnScope NMi ["_law_pot_here", "_law_some"] (defScope (top 53)) := ⟨rfl, rfl, rfl, by decide +kernel, rfl, by decide +kernel, by decide +kernel⟩
theorem ok_mix {f : Addr} {fd : FuncData} (F : FunS K "_law_mixed" "_law_mixed" (top 53) f fd) (T : Txt K mg C) (G : Df P w K mg base "_law_draw" 1 2 spDraw) : GnOk P w K mg base 2 f fd ["_law_pot_here", "_law_some"] (lift K spMix) := by
  refine gn_dl F sc_mix (fun as Q h => by obtain ⟨n, rfl, _⟩ := h; rfl) (fun cdv A outer s H hr hG W as Q h => ?_)
  obtain ⟨d, rfl, hd, hl, q⟩ := h
  have nd := sc_mix.nd
  have rest : ∀ E : Ends', E.rt = Q → SDs (Bx P w K mg base NMi "_law_mixed" (top 53) f cdv A outer s H) H W [some .pot, some (.val d), some (.own (asL d)), some (.own []), none] ((defBody (top 53)).drop 1) E := by
    rintro E rfl
    have len : ∀ {Q' : D → Prop}, Q' (.int ((asL d).length : Int)) → CD (Bx P w K mg base NMi "_law_mixed" (top 53) f cdv A outer s H) (.builtin "len") [.val d] Q' := fun {Q'} q' => by
      rcases hd with ⟨l, rfl⟩ | ⟨s', rfl⟩
      · exact cd_len (.inl rfl) q'
      · have e : (asL (.str s')).length = s'.length := by
          show ((s'.cps.toList.map sg).map D.str).length = s'.cps.size
          simp
        refine cd_lenS (z := s') (by omega) ?_
        rw [← e]
        exact q'
    refine sds_cons (sd_forR (n := ((asL d).length : Int)) PassesOwn.never rfl T.range (fun i S' => ∃ o, ∃ a b : List D, (a ++ b).Perm (asL d) ∧ b.length + i = (asL d).length ∧ S' = [some .pot, some (.val d), some (.own b), some (.own a), o]) (ad_cons (ed_callB T.len (ad_cons (nm 1 (ad_nil (len (ad_nil ⟨rfl, by omega, by omega, none, [], asL d, .refl _, by omega, rfl⟩))))))) ?_ ?_)
    · rintro i S' hi ⟨o, a, b, p, hb, rfl⟩
      have al := p.length_eq
      rw [List.length_append] at al
      refine gd_name 4 nd rfl (sds_cons (sd_appPop 3 2 a b (by decide) rfl rfl (by omega) (ed_call G (hr.mono (j := 1) (by decide)) hG (ad_pot 0 rfl rfl (ad_cons (ed_lenOwn 2 b T.len rfl rfl (ad_nil ⟨(b.length : Int), rfl, by omega, by omega, fun d hd => ?_⟩))))) (pe_bm PySem.F.plainAttrs_list PySem.F.slot_list_append PySem.F.type_list_append mt_append (pe_var (by rfl) (Or.inl rfl)) (pa_cons (pe_bm PySem.F.plainAttrs_list PySem.F.slot_list_pop PySem.F.type_list_pop mt_popAt (pe_var (by rfl) (Or.inl rfl)) (pa_cons DL.we_pe pa_nil)) pa_nil)) (by rfl)))
      have hd' : d < b.length := by omega
      refine ⟨d, b[d], rfl, List.getElem?_eq_getElem hd', by omega, sds_nil ⟨some (.val (.int (i : Int))), a ++ [b[d]], b.eraseIdx d, ?_, ?_, rfl⟩⟩
      · refine List.Perm.trans ?_ p
        rw [List.append_assoc]
        exact List.Perm.append_left a (er_perm hd')
      · rw [List.length_eraseIdx_of_lt hd']
        omega
    · rintro S' ⟨o, a, b, p, hb, rfl⟩
      rw [Int.toNat_natCast] at hb
      have : b = [] := List.eq_nil_of_length_eq_zero (by omega)
      subst this
      refine sds_frz 3 _ rfl ?_
      exact sds_cons (sd_ret (nm 3 (q a (by simpa using p))))
  refine sds_cons (sd_parOwn 2 3 (by decide) ?_ (ps_par rfl nd rfl rfl (by decide) rfl rfl (pa_cons we_pe (pa_cons we_pe pa_nil)) (by rfl)))
  rcases hd with ⟨l, rfl⟩ | ⟨s', rfl⟩
  · exact fd_list T.list (nm 1 ⟨l, .inl rfl, fd_lst (ad_nil ⟨[], rfl, by simp, rest _ rfl⟩)⟩)
  · exact fd_listS T.list (nm 1 ⟨s', rfl, by have : (asL (.str s')).length = s'.cps.size := (by show ((s'.cps.toList.map sg).map D.str).length = s'.cps.size; simp); omega, fd_lst (ad_nil ⟨[], rfl, by simp, rest _ rfl⟩)⟩)
/-! all counts -/
abbrev spAc (m : Nat) : SpD := fun as Q => ∃ d : Nat, as = [.val (.int (m : Int)), .val (.int (d : Int))] ∧ dom m d = true ∧ Q (.lst ((allc m d).map tI))
abbrev NAc : List Str := ["_law_many", "_law_degree", "_law_found", "_law_first", "_law_rest"]
theorem sc_ac : FnScope NAc ["_law_many", "_law_degree"] (defScope (top 55)) := ⟨rfl, rfl, rfl, by decide +kernel, rfl, by decide +kernel, by decide +kernel⟩
theorem ok_ac {f : Addr} {fd : FuncData} (m : Nat) (F : FunS K "_law_counts" "_law_counts" (top 55) f fd) (T : Txt K mg C) (DT : ∀ j, m = j + 1 → Df P w K mg base "_law_counts" (j + 1) 2 (spAc j)) : GnOk P w K mg base (m + 1) f fd ["_law_many", "_law_degree"] (lift K (spAc m)) := by
  refine gn_dl F sc_ac (fun as Q h => by obtain ⟨_, rfl, _⟩ := h; rfl) (fun cdv A outer s H hr hG W as Q h => ?_)
  obtain ⟨d, rfl, hm, q⟩ := h
  have nd := sc_ac.nd
  obtain ⟨m1, m4, d8⟩ := dom_le hm
  refine sds_cons (sd_if (td_cmp (nm 0 (ed_int (od_eqi (kB ?_))))))
  match m, hm, m1, m4, hr, DT, q with
  | 1, _, _, _, hr, _, q =>
    show SDs _ _ _ _ _ _
    exact sds_cons (sd_ret (ed_lst (ad_cons (ed_tup (ad_cons (nm 1 (ad_nil ⟨[.int (d : Int)], rfl, by simp, ad_nil ⟨[.tup [.int (d : Int)]], rfl, by simp, q⟩⟩)))))))
  | m + 2, hm, _, m4, hr, DT, q =>
    rw [decide_eq_false (by omega)]
    show SDs _ _ _ _ _ _
    refine sds_nil (sds_cons (sd_own 2 nd rfl (fd_lst (ad_nil ⟨[], rfl, by simp, ?_⟩))))
    refine sds_cons (sd_forR (n := ((d + 1 : Nat) : Int)) PassesOwn.never rfl T.range (fun i S' => ∃ o, S' = [some (.val (.int ((m + 2 : Nat) : Int))), some (.val (.int (d : Int))), some (.own ((((List.range i).flatMap fun f => (allc (m + 1) (d - f)).map fun l => (f : Int) :: l)).map tI)), o, none]) (ad_cons (ed_bin (nm 1 (ed_int (od_add (ad_nil ⟨by rw [Int.natCast_add]; rfl, by omega, by omega, none, rfl⟩)))))) ?_ ?_)
    · rintro i S' hi ⟨o, rfl⟩
      have il : i ≤ d := by omega
      have hm' := dom_pred hm (Nat.sub_le d i)
      have l20 := allc_len hm'
      have cap : ∀ j, j ≤ d + 1 → (((List.range j).flatMap fun f => (allc (m + 1) (d - f)).map fun l => (f : Int) :: l)).length ≤ 20 * j := by
        intro j
        induction j with
        | zero => intro _; simp
        | succ j ih =>
          intro hj
          rw [List.range_succ, List.flatMap_append, List.length_append]
          have := ih (by omega)
          have := allc_len (dom_pred hm (Nat.sub_le d j))
          simp only [List.flatMap_cons, List.flatMap_nil, List.append_nil, List.length_map]
          omega
      have ci := cap i (by omega)
      refine gd_name 3 nd rfl (sds_cons (sd_extend 2 _ rfl rfl (fd_mp (f := tI) (u := fun l => tI ((i : Int) :: l)) (l := allc (m + 1) (d - i)) 4 rfl nd (own := [("_law_rest", 4)]) (blkOk_by (by show blkC NAc (defScope (top 55)) _ _ = true; decide +kernel)) (fun _ _ _ _ _ => pg_name (i := 4) nd rfl (Or.inl rfl)) (by simp) (by omega) (.inl rfl) ?_ ?_ ?_)))
      · refine ed_call (DT (m + 1) rfl) hr hG (ad_cons (ed_bin (nm 0 (ed_int (od_sub (ad_cons (ed_bin (nm 1 (nm 3 (od_sub (ad_nil ⟨d - i, ?_, hm', rfl⟩)))))))))))
        have e1 : ((m + 2 : Nat) : Int) - 1 = ((m + 1 : Nat) : Int) := by omega
        have e2 : (d : Int) - (i : Int) = ((d - i : Nat) : Int) := by omega
        rw [e1, e2]
      · intro l hl s2 H0 C2 cl fp
        refine ed_bin (ed_tup (ad_cons (nm 3 (ad_nil ⟨[.int (i : Int)], rfl, by simp, nm 4 (od_catT (l := [.int (i : Int)]) (m := l.map D.int) ?_ rfl)⟩))))
        have := (allc_pk hm').len l hl
        rw [List.length_map, List.length_singleton]
        omega
      · refine ⟨by rw [List.length_map, List.length_map]; omega, sds_nil ⟨some (.val (.int (i : Int))), ?_⟩⟩
        rw [List.range_succ, List.flatMap_append, List.map_append]
        simp only [List.flatMap_cons, List.flatMap_nil, List.append_nil, List.map_map]
        rfl
    · rintro S' ⟨o, rfl⟩
      rw [Int.toNat_natCast]
      refine sds_frz 2 _ rfl ?_
      exact sds_cons (sd_ret (nm 2 q))
end
end K25

set_option Elab.async false
set_option linter.all false
set_option maxRecDepth 100000
set_option maxHeartbeats 8000000
/-! a tuple times an int of at least 1 -/
namespace DL
open PySem PySem.Spec PyProof.Rows L2
theorem tuple_mul1 (l : Addr) (items : Array Value) (n : Nat) (dd : Option Addr) (sl : Array (Option Value)) (u : Tok) :
    Meets (Builtin.«tuple.__mul__» ⟨[.ref l, .int 1 u], []⟩) (fun _ R s => s.heap.get? l = some { cls := .type "tuple", dict := dd, data := .seq items n, slots := sl } ∧ R (.ok (.ret (Value.ref l))) s) :=
  .of_wp fun prog w A R s h => by
    obtain ⟨hp, g, d, tk, os⟩ := s
    obtain ⟨hl, h⟩ := h
    have f1 := AutoSeq1.idx_int
    have c0 : (decide ((1 : Int) < -(2 ^ 63)) || decide ((1 : Int) ≥ 2 ^ 63)) = false := by decide
    have c1 : (items.isEmpty || (1 : Int) == 1) = true := by
      have : ((1 : Int) == 1) = true := rfl
      rw [this, Bool.or_true]
    wp_walk using wpAny_loadPart' hl
    repeat (first
      | (refine wpAny_ite_false (decide_eq_false (by rw [c0]; exact Bool.false_ne_true)) ?_; wp_walk using wpAny_loadPart' hl)
      | (refine wpAny_ite_true (decide_eq_true c1) ?_; wp_walk using wpAny_loadPart' hl))
    exact ⟨_, rfl, h⟩
section
variable {X : Cx}
theorem op_repT1 : OpR X (binaryOp .Mult) (fun x y H Q => ∃ l xs, x = .ref l ∧ y = .int 1 ∧ SqT X.K H l xs ∧ Q (.ref l) H) := by
  intro pins s σ H x y v u Q I rx ry h
  obtain ⟨l, xs, rfl, rfl, hT, q⟩ := h
  cases rx
  obtain ⟨t, rfl⟩ := ry
  obtain ⟨its, r, ⟨⟨cls, dd, data, sl⟩, ho, hc, n, hd⟩, hs⟩ := I.tuple hT
  simp only at hc hd
  subst hc hd
  exact wpAny_binaryOp_repeat_ref (T := "tuple") (U := "int") (by decide) ⟨_, ho, rfl⟩ (fun s' => typeIs_int s' 1 t) noFill_tuple_mul F.fills_int_mul F.slot_int_rmul repeat_tuple F.slot_int_index.lookup
    (call_meets F.slot_int_rmul (typeIs_int s 1 t) F.entry_int_rmul (F.args_int_rmul_2 _ _) (int_rmul_tuple 1 t l its.toArray n dd sl)
      ⟨ho, rfl, ⟨_, ho, rfl⟩, call_meets F.slot_tuple_mul ⟨_, ho, rfl⟩ F.entry_tuple_mul (F.args_tuple_mul_2 _ _) (tuple_mul1 l its.toArray n dd sl t) ⟨ho, .ref l, H, I, rfl, q⟩⟩)
variable {Q : D → Prop}
theorem od_repTup {l : List D} {k : Nat} (h1 : 1 ≤ k) (hk : k ≤ 1000) (hl : l.length ≤ 1000) (hne : l ≠ []) (q : Q (.tup (List.replicate k l).flatten)) : OD X (binaryOp .Mult) (.tup l) (.int (k : Int)) Q := by
  by_cases e : k = 1
  · subst e
    refine od_of op_repT1 fun v u W H ok a b R c => ?_
    cases b
    cases a with
    | @tup _ a xs hp m =>
      have : (List.replicate 1 l).flatten = l := by simp
      rw [this] at q
      exact ⟨a, xs, rfl, rfl, SqT.of (ok.ex _ _ hp), c.now ok (.tup hp m) q⟩
  · refine od_of op_repT fun v u W H ok a b R c => ?_
    cases b
    cases a with
    | @tup _ a xs hp m =>
      refine ⟨a, (k : Int), xs, rfl, rfl, SqT.of (ok.ex _ _ hp), fun e => hne ?_, by omega, by omega, by rw [← m.length]; exact hl, fun p hn => ?_⟩
      · subst e
        cases m
        rfl
      · rw [Int.toNat_natCast]
        have st := Stp.new (o := .tup (List.replicate k xs).flatten) ok hn
        exact c (.tup (List.replicate k l).flatten) (.ref p) _ _ st (ok.new hn) (.tup (show upd W.I p _ p = _ from upd_same) ((m.rep k).mono st.I)) q
end
end DL

set_option Elab.async false
set_option linter.all false
set_option maxRecDepth 100000
set_option maxHeartbeats 8000000
/-! sorted(set(a list of ints)) -/
namespace DL
open PySem PySem.Spec PyProof.Rows L2
section
variable {P : Program} {w : World} {A : Around} {E : Value → Shared → Prop} {s : Shared}
abbrev emptySet (w : World) : Obj := { cls := .type "set", dict := none, data := .set #[] 0 (.fresh 0 0 (!w.params.followText "set-order")) }
end
section
variable {X : Cx}
/-- set(a list of ints) -/
def rSetOfI (K : PySem.W.Frag) (w : World) : List V → Hp → VK → Prop := fun xs H Q => ∃ (l : Addr) (ns : List Int), xs = [V.ref l] ∧ SqL K H l (ns.map V.int) ∧ ns.length < 64 ∧ ∀ a c, H a = none → c ≤ ns.length → Q (.ref a) (upd H a (SetO w a (fun j => decide (j ∈ ns)) c))
variable {B : Hp} {W0 : Wd} {S : En} {p p2 pos pos2 : Pos} {e : Expr} {Q : D → Prop}
end
end DL

set_option Elab.async false
set_option linter.all false
/-! lots that hang together, by joining: from nothing, and from those that stand each for itself -/
namespace M21
def Asc (l : List Nat) : Prop := l.Pairwise (· < ·)
def meets (P l : List Nat) : Bool := l.any fun a => decide (a ∈ P)
def near (L : List (List Nat)) (P : List Nat) : List (List Nat) := L.filter fun l => meets P l
def far (L : List (List Nat)) (P : List Nat) : List (List Nat) := L.filter fun l => !meets P l
def ss (m : Nat) (X : List Nat) : List Nat := (List.range m).filter fun a => decide (a ∈ X)
def stepL (m : Nat) (L : List (List Nat)) (P : List Nat) : List (List Nat) := far L P ++ if P = [] then [] else [ss m (P ++ (near L P).flatten)]
def stepT (m : Nat) (T : List (List Nat)) (P : List Nat) : List (List Nat) := if (near T P).length ≤ 1 then T else far T P ++ [ss m (near T P).flatten]
structure Gd (m : Nat) (L : List (List Nat)) : Prop where
  asc : ∀ l ∈ L, Asc l
  ne : ∀ l ∈ L, l ≠ []
  lt : ∀ l ∈ L, ∀ a ∈ l, a < m
  dj : L.Pairwise fun a b => ∀ x, x ∈ a → x ∉ b
/-- of all that stands: by joining, and each for itself where it was never met -/
structure Inv (m : Nat) (st : Nat → Prop) (T L : List (List Nat)) : Prop where
  gt : Gd m T
  gl : Gd m L
  mem : ∀ l, l ∈ T ↔ l ∈ L ∨ ∃ a, st a ∧ l = [a] ∧ ∀ k ∈ L, a ∉ k
def allL (m : Nat) (Ps : List (List Nat)) : List (List Nat) := Ps.foldl (stepL m) []
def allT (m : Nat) (T : List (List Nat)) (Ps : List (List Nat)) : List (List Nat) := Ps.foldl (stepT m) T
/-- those that stand, each for itself -/
def singles (m : Nat) (Ps : List (List Nat)) : List (List Nat) := ((List.range m).filter fun a => Ps.any fun P => decide (a ∈ P)).map fun a => [a]
def hd (l : List Nat) : Nat := l.headD 0
/-- lots by their first ones -/
def byHd (L : List (List Nat)) : List (List Nat) := L.mergeSort fun a b => decide (hd a ≤ hd b)
end M21

set_option Elab.async false
set_option linter.all false
set_option maxRecDepth 100000
set_option maxHeartbeats 8000000
/-! k25: letters, forms, products, amounts, blends drawn -/
namespace K25
open PySem L2 DL
theorem perm_map_inv {α β : Type} {f : α → β} : ∀ {l : List β} {cs : List α}, l.Perm (cs.map f) → ∃ cs' : List α, l = cs'.map f ∧ cs'.Perm cs
  | [], cs, h => by
    have := h.symm.eq_nil
    cases cs with
    | nil => exact ⟨[], rfl, .nil⟩
    | cons a cs => cases this
  | b :: l, cs, h => by
    obtain ⟨a, ha, rfl⟩ := List.mem_map.mp (h.mem_iff.mp (List.mem_cons_self ..))
    obtain ⟨s, t, rfl⟩ := List.append_of_mem ha
    rw [List.map_append, List.map_cons] at h
    have h2 := (h.trans List.perm_middle).cons_inv
    rw [← List.map_append] at h2
    obtain ⟨cs', e, p⟩ := perm_map_inv h2
    exact ⟨a :: cs', by rw [e]; rfl, (p.cons a).trans List.perm_middle.symm⟩
theorem join_sg (l : List Nat) : Txt.join ("" : Str) (l.map sg) = SX.S l := by
  cases l with
  | nil => rfl
  | cons x l =>
    have e : (Txt.join ("" : Str) ((x :: l).map sg)).cps.toList = (sg x).cps.toList ++ (l.map sg).flatMap fun p => p.cps.toList := glue_fold (l.map sg) (sg x).cps
    have e2 : ∀ l : List Nat, ((l.map sg).flatMap fun p => p.cps.toList) = l := fun l => by
      induction l with
      | nil => rfl
      | cons y l ih => rw [List.map_cons, List.flatMap_cons, ih]; rfl
    rw [e2] at e
    have e3 : (Txt.join ("" : Str) ((x :: l).map sg)).cps = (x :: l).toArray := by
      rw [← Array.toArray_toList (xs := (Txt.join ("" : Str) ((x :: l).map sg)).cps), e]
      rfl
    show (⟨(Txt.join ("" : Str) ((x :: l).map sg)).cps⟩ : Str) = _
    rw [e3]
def hdS (s : Str) : Nat := s.cps.toList.headD 0
theorem ltCps_hd {a b : Str} (ha : a.cps.toList ≠ []) (hb : b.cps.toList ≠ []) (h : PySem.Spec.ltCps b.cps.toList a.cps.toList = false) : hdS a ≤ hdS b := by
  unfold hdS
  match e1 : a.cps.toList, e2 : b.cps.toList, ha, hb with
  | c :: _, d :: _, _, _ =>
    rw [e1, e2] at h
    have h : (decide (d < c) || (d == c && _)) = false := h
    rw [Bool.or_eq_false_iff, decide_eq_false_iff_not] at h
    show c ≤ d
    omega
theorem rising_hd : ∀ {l : List Str} {x : Str}, PyProof.Rows.risingS x l = true → (∀ s ∈ x :: l, s.cps.toList ≠ []) → (x :: l).Pairwise fun a b => hdS a ≤ hdS b
  | [], _, _, _ => List.pairwise_singleton _ _
  | y :: l, x, h, hn => by
    have h : (!PySem.Spec.ltCps y.cps.toList x.cps.toList && PyProof.Rows.risingS y l) = true := h
    rw [Bool.and_eq_true, Bool.not_eq_true'] at h
    have p := rising_hd h.2 fun s hs => hn s (List.mem_cons_of_mem _ hs)
    have xy := ltCps_hd (hn x (List.mem_cons_self ..)) (hn y (List.mem_cons_of_mem _ (List.mem_cons_self ..))) h.1
    refine List.pairwise_cons.mpr ⟨fun z hz => ?_, p⟩
    rcases List.mem_cons.mp hz with rfl | hz
    · exact xy
    · exact Nat.le_trans xy ((List.pairwise_cons.mp p).1 z hz)
theorem sorted_hd : ∀ {l : List Str}, PyProof.Rows.sortedS l = true → (∀ s ∈ l, s.cps.toList ≠ []) → l.Pairwise fun a b => hdS a ≤ hdS b
  | [], _, _ => .nil
  | _ :: _, h, hn => rising_hd h hn
theorem sum_ones : ∀ us : List Nat, (((us.map sg).map fun s : Str => s.length).sum) = us.length
  | [] => rfl
  | u :: us => by
    rw [List.map_cons, List.map_cons, List.sum_cons, sum_ones us, List.length_cons]
    show 1 + us.length = us.length + 1
    omega
section
variable {P : Program} {w : World} {K : PySem.W.Frag} {mg : Str → Option Value} {base : Heap} {C CB : Addr}
/-! letters -/
abbrev spLtr : SpD := fun as Q => ∃ m : Nat, as = [.pot, .val (.int (m : Int))] ∧ 1 ≤ m ∧ m ≤ 8 ∧ ∀ z, LetZ z → z.length = m → Q (.str (SX.S z))
abbrev NLt : List Str := ["_law_pot_here", "_law_many"]
theorem sc_lt : FnScope NLt ["_law_pot_here", "_law_many"] (defScope (top 54)) := ⟨rfl, rfl, rfl, by decide +kernel, rfl, by decide +kernel, by decide +kernel⟩
def cod : List Nat := [97, 98, 99, 100, 101, 109, 120, 122]
theorem cod_nd : cod.Nodup := by decide
theorem cod_in : ∀ c ∈ cod, 97 ≤ c ∧ c ≤ 122 := by decide
theorem ok_lt {f : Addr} {fd : FuncData} (F : FunS K "_law_letters" "_law_letters" (top 54) f fd) (T : Txt K mg C) (hs : mg "sorted" = none) (MX : Df P w K mg base "_law_mixed" 2 2 spMix) : GnOk P w K mg base 3 f fd ["_law_pot_here", "_law_many"] (lift K spLtr) := by
  refine gn_dl F sc_lt (fun as Q h => by obtain ⟨_, rfl, _⟩ := h; rfl) (fun cdv A outer s H hr hG W as Q h => ?_)
  obtain ⟨m, rfl, m1, m8, q⟩ := h
  refine sds_cons (sd_ret (ed_joinS (ed_str ⟨rfl, ed_callB hs (ad_cons (ed_slLT (ed_call MX (hr.mono (j := 2) (by decide)) hG (ad_pot 0 rfl rfl (ad_cons (ed_str (ad_nil ⟨.str (SX.S cod), rfl, .inr ⟨_, rfl⟩, by decide, fun l' p => nm 1 ⟨l', (m : Int), rfl, rfl, .inl ⟨m, rfl, ad_nil ?_⟩⟩⟩)))))))⟩)))
  have e : asL (.str (SX.S cod)) = (cod.map sg).map D.str := rfl
  rw [e, List.map_map] at p
  obtain ⟨ws, rfl, pw⟩ := perm_map_inv p
  have wl : ws.length = 8 := pw.length_eq
  rw [← List.map_take, show (ws.take m).map (D.str ∘ sg) = ((ws.take m).map sg).map D.str by rw [List.map_map]]
  refine cd_sortLS (by rw [List.length_map, List.length_take]; omega) fun ys p2 so => ⟨ys, rfl, ?_⟩
  obtain ⟨us, rfl, pu⟩ := perm_map_inv p2
  have ul : us.length = m := by rw [pu.length_eq, List.length_take]; omega
  rw [join_sg, sum_ones, show (Str.ofString "").length = 0 from rfl, Nat.mul_zero]
  refine ⟨by omega, q us ⟨by omega, by omega, fun c hc => ?_, ?_⟩ ul⟩
  · exact cod_in c (pw.mem_iff.mp (List.mem_of_mem_take (pu.mem_iff.mp hc)))
  · have nd : us.Nodup := pu.nodup_iff.mpr ((pw.nodup_iff.mpr cod_nd).sublist (List.take_sublist ..))
    have so2 := List.pairwise_map.mp (sorted_hd so fun s hs => by obtain ⟨c, _, rfl⟩ := List.mem_map.mp hs; exact List.cons_ne_nil _ _)
    refine (so2.and nd).imp fun {a b} h => ?_
    have h1 : a ≤ b := h.1
    have := h.2
    omega
end
end K25

set_option Elab.async false
set_option linter.all false
set_option maxRecDepth 100000
set_option maxHeartbeats 8000000
/-! k25: products of forms, drawn products -/
namespace K25
open PySem L2 DL
abbrev iN (l : List Nat) : List Int := l.map fun (a : Nat) => (a : Int)
theorem iN_D (l : List Nat) : (l.map fun (a : Nat) => D.int (a : Int)) = (iN l).map D.int := by rw [List.map_map]; rfl
theorem rep_zero : ∀ m : Nat, (List.replicate m [D.int 0]).flatten = (List.replicate m (0 : Int)).map D.int
  | 0 => rfl
  | m + 1 => by rw [List.replicate_succ, List.flatten_cons, rep_zero m, List.replicate_succ, List.map_cons]; rfl
theorem rep_sum : ∀ m : Nat, (List.replicate m (0 : Int)).sum = ((0 : Nat) : Int)
  | 0 => rfl
  | m + 1 => by rw [List.replicate_succ, List.sum_cons, rep_sum m]; rfl
theorem zero_pk (m : Nat) : Pk m 0 [List.replicate m 0] := by
  refine ⟨?_, ?_, ?_, List.pairwise_singleton _ _⟩
  · intro k hk
    rw [List.mem_singleton.mp hk, List.length_replicate]
  · intro k hk c hc
    rw [List.mem_singleton.mp hk] at hc
    rw [List.eq_of_mem_replicate hc]
    exact Int.le_refl _
  · intro k hk
    rw [List.mem_singleton.mp hk]
    exact rep_sum m
theorem inc_len (a : Nat) (k : List Int) : (inc a k).length = k.length := List.length_set
theorem inc_sum : ∀ {a : Nat} {k : List Int}, a < k.length → (inc a k).sum = k.sum + 1
  | 0, c :: k, _ => by
    show (c + 1 + k.sum : Int) = c + k.sum + 1
    omega
  | a + 1, c :: k, h => by
    have := inc_sum (a := a) (k := k) (Nat.lt_of_succ_lt_succ h)
    show c + (inc a k).sum = c + k.sum + 1
    omega
theorem flat_len {α β : Type} (g : α → List β) (n : Nat) : ∀ l : List α, (∀ a ∈ l, (g a).length ≤ n) → (l.flatMap g).length ≤ l.length * n
  | [], _ => by simp
  | a :: l, h => by
    have h1 := h a (List.mem_cons_self ..)
    have h2 := flat_len g n l fun b hb => h b (List.mem_cons_of_mem _ hb)
    rw [List.flatMap_cons, List.length_append, List.length_cons, Nat.succ_mul]
    omega
section
variable {P : Program} {w : World} {K : PySem.W.Frag} {mg : Str → Option Value} {base : Heap} {C CB : Addr}
abbrev spFo : SpD := fun as Q => ∃ m d : Nat, as = [.pot, .val (.int (m : Int)), .val (.int (d : Int))] ∧ dom m d = true ∧ ∀ ps, Pk m d ps → ps ≠ [] → Q (.lst (ps.map tI))
abbrev NFo : List Str := ["_law_pot_here", "_law_many", "_law_degree", "_law_found", "_law_turn", "_law_lot", "_law_more", "_law_counts_here", "_law_at"]
theorem sc_fo : FnScope NFo ["_law_pot_here", "_law_many", "_law_degree"] (defScope (top 56)) := ⟨rfl, rfl, rfl, by decide +kernel, rfl, by decide +kernel, by decide +kernel⟩
theorem ok_fo {f : Addr} {fd : FuncData} (F : FunS K "_law_forms" "_law_forms" (top 56) f fd) (T : Txt K mg C) (hs : mg "sorted" = none) (hset : mg "set" = none) (G : Df P w K mg base "_law_draw" 1 2 spDraw) : GnOk P w K mg base 2 f fd ["_law_pot_here", "_law_many", "_law_degree"] (lift K spFo) := by
  refine gn_dl F sc_fo (fun as Q h => by obtain ⟨_, _, rfl, _⟩ := h; rfl) (fun cdv A outer s H hr hG W as Q h => ?_)
  obtain ⟨m, d, rfl, hm, q⟩ := h
  have nd := sc_fo.nd
  obtain ⟨m1, m4, d8⟩ := dom_le hm
  refine sds_cons (sd_set 3 nd rfl (ed_lst (ad_cons (ed_bin (ed_tup (ad_cons (ed_int (ad_nil ⟨[.int 0], rfl, by simp, nm 1 (od_repTup m1 (by omega) (by simp) (by simp) (ad_nil ⟨[tI (List.replicate m 0)], by rw [rep_zero]; rfl, by simp, ?_⟩))⟩))))))))
  refine sds_cons (sd_forR (n := (d : Int)) PassesOwn.never rfl T.range (fun i S' => ∃ ps : List (List Int), ∃ o4 o5 o6 o7, S' = [some .pot, some (.val (.int (m : Int))), some (.val (.int (d : Int))), some (.val (.lst (ps.map tI))), o4, o5, o6, o7, none] ∧ Pk m i ps ∧ ps ≠ []) (ad_cons (nm 2 (ad_nil ⟨rfl, by omega, by omega, [List.replicate m 0], none, none, none, none, rfl, zero_pk m, List.cons_ne_nil _ _⟩))) ?_ ?_)
  · rintro i S' hi ⟨ps, o4, o5, o6, o7, rfl, pk, pn⟩
    have hid : i < d := by omega
    have few : ps.length * m < 64 := Nat.lt_of_le_of_lt (Nat.mul_le_mul_right m (pk.few m1)) (allc_few hm hid)
    refine gd_name 4 nd rfl (sds_cons (sd_subR (n := m) 5 rfl rfl 8 rfl nd T.range (own := [("_law_at", 8)]) (blkOk_by (by show blkC NFo (defScope (top 56)) _ _ = true; decide +kernel)) (fun _ _ _ _ _ => pg_name (i := 8) nd rfl (Or.inl rfl)) (by simp) (by omega) (ad_cons (nm 1 (ad_nil rfl))) ?_ ?_ ?_))
    · intro a ha s2 H0 C2 cl fp
      exact td_cmp (ed_call G (hr.mono (j := 1) (by decide)) hG (ad_pot 0 rfl rfl (ad_cons (ed_int (ad_nil ⟨2, rfl, by decide, by decide, fun k hk => ed_int (od_eqi (kB trivial))⟩)))))
    · intro a ha s2 H0 C2 cl fp
      exact nm 8 rfl
    · intro ls sb
      have lsm : ∀ a ∈ ls, a < m := fun a ha => List.mem_range.mp (sb.subset ha)
      have lsl : ls.length ≤ m := by have := sb.length_le; rwa [List.length_range] at this
      refine sds_frz 5 _ rfl ?_
      refine sds_cons (sd_set 5 nd rfl (ed_imp (Q := fun dd => ∃ lt : List Nat, dd = .lst ((iN lt).map D.int) ∧ lt ≠ [] ∧ (∀ a ∈ lt, a < m) ∧ lt.length ≤ m) ?_ fun dd ⟨lt, e, l1, l2, l3⟩ => ?_))
      · refine ed_ifx (td_cmp (nm 5 (ed_lst (ad_nil ⟨[], rfl, by simp, ?_⟩))))
        rw [iN_D]
        refine od_neNilI (un64 hr) (kB ?_)
        cases ls with
        | nil =>
          show ED _ _ _ _ _
          exact ed_lst (ad_cons (ed_call G (hr.mono (j := 1) (by decide)) hG (ad_pot 0 rfl rfl (ad_cons (nm 1 (ad_nil ⟨(m : Int), rfl, by omega, by omega, fun k hk => ad_nil ⟨[.int (k : Int)], rfl, by simp, [k], rfl, by simp, fun a ha => by rw [List.mem_singleton.mp ha]; omega, m1⟩⟩))))))
        | cons a ls =>
          show ED _ _ _ _ _
          exact nm 5 ⟨a :: ls, rfl, List.cons_ne_nil _ _, lsm, lsl⟩
      · subst e
        refine sds_cons (sd_own 6 nd rfl (fd_lst (ad_nil ⟨[], rfl, by simp, ?_⟩)))
        refine sds_cons (sd_forL (l := ps.map tI) PassesOwn.never rfl (fun j S' => ∃ o7, S' = [some .pot, some (.val (.int (m : Int))), some (.val (.int (d : Int))), some (.val (.lst (ps.map tI))), some (.val (.int (i : Int))), some (.val (.lst ((iN lt).map D.int))), some (.own (((ps.take j).flatMap fun k => lt.map fun a => inc a k).map tI)), o7, none]) (nm 3 ⟨rfl, o7, rfl⟩) ?_ ?_)
        · rintro j dk S' hj ⟨o7, rfl⟩
          rw [List.getElem?_map] at hj
          obtain ⟨k, hk, rfl⟩ := Option.map_eq_some_iff.mp hj
          have km := List.mem_of_getElem? hk
          have kl := pk.len k km
          refine gd_name 7 nd rfl (sds_cons (sd_extend 6 _ rfl rfl (fd_mp (f := fun a : Nat => D.int (a : Int)) (u := fun a => tI (inc a k)) (l := lt) 8 rfl nd (own := [("_law_at", 8)]) (blkOk_by (by show blkC NFo (defScope (top 56)) _ _ = true; decide +kernel)) (fun _ _ _ _ _ => pg_name (i := 8) nd rfl (Or.inl rfl)) (by simp) (by omega) (.inl (by rw [iN_D])) (nm 5 rfl) ?_ ?_)))
          · intro a ha s2 H0 C2 cl fp
            have ak : a < k.length := by rw [kl]; exact l2 a ha
            refine ed_bin (ed_bin (ed_slTo (nm 7 (nm 8 ⟨_, a, rfl, rfl, by rw [List.length_map]; omega, ed_tup (ad_cons (ed_bin (ed_ix (nm 7 (nm 8 ⟨_, (a : Int), .int (k.getD a 0), .inr rfl, rfl, atI_nat (by rw [List.getElem?_map, List.getD_eq_getElem?_getD, List.getElem?_eq_getElem ak]; rfl), ed_int (od_add (ad_nil ⟨[.int (k.getD a 0 + 1)], rfl, by simp, od_catT (l := (k.map D.int).take a) (m := [.int (k.getD a 0 + 1)]) (by rw [List.length_take, List.length_map, List.length_singleton]; omega) (ed_slFrA (nm 7 (ed_bin (nm 8 (ed_int (od_add ⟨_, a + 1, rfl, by rw [Int.natCast_add]; rfl, od_catT ?_ ?_⟩))))))⟩))⟩)))))⟩))))
            · rw [List.length_append, List.length_take, List.length_drop, List.length_map, List.length_singleton]
              omega
            · rw [inc_parts ak]
          · have cap : ((ps.take j).flatMap fun k => lt.map fun a => inc a k).length ≤ 64 := by
              have := flat_len (fun k : List Int => lt.map fun a => inc a k) m (ps.take j) fun k _ => by rw [List.length_map]; exact l3
              have h2 : (ps.take j).length * m ≤ ps.length * m := Nat.mul_le_mul_right _ (by rw [List.length_take]; omega)
              omega
            refine ⟨by rw [List.length_map, List.length_map]; omega, sds_nil ⟨some (.val (tI k)), ?_⟩⟩
            rw [List.take_add_one, hk, List.flatMap_append, List.map_append]
            simp only [Option.toList_some, List.flatMap_cons, List.flatMap_nil, List.append_nil, List.map_map]
            rfl
        · rintro S' ⟨o7, rfl⟩
          rw [List.length_map, List.take_length]
          have cap : (ps.flatMap fun k => lt.map fun a => inc a k).length < 64 := by
            have := flat_len (fun k : List Int => lt.map fun a => inc a k) m ps fun k _ => by rw [List.length_map]; exact l3
            omega
          have mem : ∀ x, x ∈ (ps.flatMap fun k => lt.map fun a => inc a k) ↔ ∃ k ∈ ps, ∃ a ∈ lt, inc a k = x := fun x => by simp
          have f1 : ∀ x ∈ (ps.flatMap fun k => lt.map fun a => inc a k), x.length = m := fun x hx => by
            obtain ⟨k, hk, a, ha, rfl⟩ := (mem x).mp hx
            rw [inc_len, pk.len k hk]
          have f2 : ∀ x ∈ (ps.flatMap fun k => lt.map fun a => inc a k), ∀ c ∈ x, (0 : Int) ≤ c := fun x hx => by
            obtain ⟨k, hk, a, ha, rfl⟩ := (mem x).mp hx
            exact inc_nn (pk.nn k hk)
          have f3 : ∀ x ∈ (ps.flatMap fun k => lt.map fun a => inc a k), x.sum = ((i + 1 : Nat) : Int) := fun x hx => by
            obtain ⟨k, hk, a, ha, rfl⟩ := (mem x).mp hx
            rw [inc_sum (by rw [pk.len k hk]; exact l2 a ha), pk.sum k hk]
            rfl
          refine sds_frz 6 _ rfl ?_
          refine sds_cons (sd_set 3 nd rfl (ed_sortSetT (ls := ps.flatMap fun k => lt.map fun a => inc a k) (d := m) (Bb := 9) rfl (un64 hr) hs hset m1 cap (fun x hx => ⟨f1 x hx, fun c hc => ?_⟩) (nm 6 rfl) fun ls' mem' nd' pw' => ?_))
          · have n := f2 x hx
            have := (le_sum n).2 c hc
            rw [f3 x hx] at this
            have := n c hc
            omega
          · refine sds_nil ⟨ls', some (.val (.int (i : Int))), _, _, _, rfl, pk_of (by omega) f1 f2 f3 mem' nd' pw', fun e => ?_⟩
            obtain ⟨k, hk⟩ := List.exists_mem_of_ne_nil _ pn
            obtain ⟨a, ha⟩ := List.exists_mem_of_ne_nil _ l1
            have := (mem' _).mpr ((mem _).mpr ⟨k, hk, a, ha, rfl⟩)
            rw [e] at this
            cases this
  · rintro S' ⟨ps, o4, o5, o6, o7, rfl, pk, pn⟩
    rw [Int.toNat_natCast] at pk
    exact sds_cons (sd_ret (nm 3 (q ps pk pn)))
end
end K25

set_option Elab.async false
set_option linter.all false
set_option maxRecDepth 100000
set_option maxHeartbeats 8000000
/-! what a range brings, as ints that lie somewhere -/
namespace DL
open PySem PySem.Spec PyProof.Rows L2
theorem outs_ints {G : Int → Prop} : ∀ {out : List D}, (∀ y ∈ out, ∃ i : Int, y = .int i ∧ G i) → ∃ bs : List Int, out = bs.map D.int ∧ ∀ b ∈ bs, G b
  | [], _ => ⟨[], rfl, nofun⟩
  | y :: out, h => by
    obtain ⟨i, rfl, g⟩ := h y (List.mem_cons_self ..)
    obtain ⟨bs, rfl, gs⟩ := outs_ints fun x hx => h x (List.mem_cons_of_mem _ hx)
    refine ⟨i :: bs, rfl, fun c hc => ?_⟩
    rcases List.mem_cons.mp hc with rfl | z
    · exact g
    · exact gs c z
theorem outs_bools : ∀ {out : List D}, (∀ y ∈ out, ∃ b : Bool, y = .bl b) → ∃ bs : List Bool, out = bs.map D.bl
  | [], _ => ⟨[], rfl⟩
  | y :: out, h => by
    obtain ⟨b, rfl⟩ := h y (List.mem_cons_self ..)
    obtain ⟨bs, rfl⟩ := outs_bools fun x hx => h x (List.mem_cons_of_mem _ hx)
    exact ⟨b :: bs, rfl⟩
theorem outs_each {G : D → Prop} {n : Nat} {out : List D} (h : Outs (fun _ y => G y) n out) : ∀ y ∈ out, G y := fun y hy => by
  obtain ⟨i, hi, e⟩ := List.getElem_of_mem hy
  obtain ⟨z, e2, g⟩ := h.2 i (by rw [← h.1]; exact hi)
  rw [List.getElem?_eq_getElem hi, e] at e2
  cases e2
  exact g
theorem relab {c : Str → NameKind → Bool} {x : Str} {k : NameKind} : ∀ {l : List (Str × NameKind)}, l.lookup x = some k → (l.map fun (n, k) => if c n k = true then (n, NameKind.cell) else (n, k)).lookup x = some k ∨ (l.map fun (n, k) => if c n k = true then (n, NameKind.cell) else (n, k)).lookup x = some .cell
  | [], h => by simp at h
  | (n, k') :: l, h => by
    rw [List.map_cons]
    by_cases e : x == n
    · rw [List.lookup_cons, e] at h
      cases h
      by_cases cc : c n k = true
      · simp only [cc, if_true]
        right
        rw [List.lookup_cons, e]
      · simp only [cc]
        left
        show List.lookup x ((n, k) :: _) = _
        rw [List.lookup_cons, e]
    · have e' : (x == n) = false := by simpa using e
      rw [List.lookup_cons, e'] at h
      have := relab (c := c) (l := l) h
      by_cases cc : c n k' = true
      · simp only [cc, if_true]
        rw [List.lookup_cons, e']
        exact this
      · simp only [cc]
        show List.lookup x ((n, k') :: _) = _ ∨ List.lookup x ((n, k') :: _) = _
        rw [List.lookup_cons, e']
        exact this
theorem blkOk_in {N : List Str} {scope scope' : Scope} {own : List (Str × Nat)} {cl : List (Str × Addr)} {a : Addr} {env : Env} (h : BlkOk N scope scope' own) : BlkOk N (compEnvC scope cl a env).scope scope' own :=
  ⟨h.kind, h.uniq, h.ix, fun y hy e => by
    rcases h.free y hy e with k | k
    · rcases relab (c := fun n k => k == NameKind.free && env.scope.kind == .function && env.kindOf n == some .cell) k with z | z
      · exact .inl z
      · exact .inl z
    · rcases relab (c := fun n k => k == NameKind.free && env.scope.kind == .function && env.kindOf n == some .cell) k with z | z
      · exact .inr z
      · exact .inl z, h.own⟩
end DL

set_option Elab.async false
set_option linter.all false
set_option maxRecDepth 100000
set_option maxHeartbeats 8000000
/-! k25: drawn products -/
namespace K25
open PySem L2 DL
def forms4 (st : Stmt) : Expr := match (defBody st).getD 1 (.Pass ⟨0, 0, 0, 0⟩) with
  | .If _ _ [.If _ [_, _, .Assign _ e _] _ _] _ => e
  | _ => .Name "" ⟨0, 0, 0, 0⟩
section
variable {P : Program} {w : World} {K : PySem.W.Frag} {mg : Str → Option Value} {base : Heap} {C CB : Addr}
abbrev spPr : SpD := fun as Q => ∃ m d : Nat, as = [.pot, .val (.int (m : Int)), .val (.int (d : Int))] ∧ dom m d = true ∧ ∀ ps, Pk m d ps → ps.length ≤ 12 → Q (.lst (ps.map tI))
abbrev NPd : List Str := ["_law_pot_here", "_law_many", "_law_degree", "_law_every", "_law_way", "_law_found", "_law_at", "_law_cut", "_law_bounds", "_law_counts_here", "_law_count", "_law_bound"]
theorem sc_pd : FnScope NPd ["_law_pot_here", "_law_many", "_law_degree"] (defScope (top 57)) := ⟨rfl, rfl, rfl, by decide +kernel, rfl, by decide +kernel, by decide +kernel⟩
theorem ok_pd {f : Addr} {fd : FuncData} (F : FunS K "_law_products" "_law_products" (top 57) f fd) (T : Txt K mg C) (hall : mg "all" = none) (hzip : mg "zip" = none) (hsum : mg "sum" = none) (G : Df P w K mg base "_law_draw" 1 2 spDraw) (FO : Df P w K mg base "_law_forms" 2 3 spFo) (AC : ∀ m, m ≤ 4 → Df P w K mg base "_law_counts" (m + 1) 2 (spAc m)) : GnOk P w K mg base 7 f fd ["_law_pot_here", "_law_many", "_law_degree"] (lift K spPr) := by
  refine gn_dl F sc_pd (fun as Q h => by obtain ⟨_, _, rfl, _⟩ := h; rfl) (fun cdv A outer s H hr hG W as Q h => ?_)
  obtain ⟨m, d, rfl, hm, q⟩ := h
  have nd := sc_pd.nd
  obtain ⟨m1, m4, d8⟩ := dom_le hm
  have pk := allc_pk hm
  have l20 := allc_len hm
  refine sds_cons (sd_par 3 4 rfl nd rfl rfl (by decide) rfl rfl (ad_cons (ed_call (AC m m4) (hr.mono (by omega)) hG (ad_cons (nm 1 (ad_cons (nm 2 (ad_nil ⟨d, rfl, hm, ad_cons (ed_call G (hr.mono (j := 1) (by decide)) hG (ad_pot 0 rfl rfl (ad_cons (ed_int (ad_nil ⟨8, rfl, by decide, by decide, fun k hk => ad_nil ⟨_, _, rfl, ?_⟩⟩)))))⟩))))))))
  have fin : ∀ {ps : List (List Int)} {o6 o7 o8 : Option Sl}, Pk m d ps → ∀ E : Ends', E.rt = Q → SDs (Bx P w K mg base NPd "_law_products" (top 57) f cdv A outer s H) H W [some .pot, some (.val (.int (m : Int))), some (.val (.int (d : Int))), some (.val (.lst ((allc m d).map tI))), some (.val (.int (k : Int))), some (.val (.lst (ps.map tI))), o6, o7, o8, none, none, none] ((defBody (top 57)).drop 2) E := by
    rintro ps o6 o7 o8 p E rfl
    refine sds_cons (sd_ret (ed_slLT (nm 5 (ed_int ⟨_, 12, rfl, rfl, .inl ⟨12, rfl, ?_⟩⟩))))
    rw [← List.map_take]
    exact q _ (p.sub (List.take_sublist ..)) (by rw [List.length_take]; omega)
  refine sds_cons (sd_ifAny (fun _ => True) (td_cmp (nm 4 (ed_int (od_eqi (kB trivial))))) (fun _ => ?_) (fun _ => ?_))
  · refine sds_cons (sd_sub (f := tI) (l := allc m d) 5 rfl rfl 9 rfl nd (own := [("_law_counts_here", 9)]) (blkOk_by (by show blkC NPd (defScope (top 57)) _ _ = true; decide +kernel)) (fun _ _ _ _ _ => pg_name (i := 9) nd rfl (Or.inl rfl)) (by simp) (by omega) (nm 3 rfl) ?_ ?_ ?_)
    · intro a ha s2 H0 C2 cl fp
      exact td_cmp (ed_call G (hr.mono (j := 1) (by decide)) hG (ad_pot 0 rfl rfl (ad_cons (ed_int (ad_nil ⟨3, rfl, by decide, by decide, fun k hk => ed_int (od_eqi (kB trivial))⟩)))))
    · intro a ha s2 H0 C2 cl fp
      exact nm 9 rfl
    · intro ls sb
      refine sds_frz 5 _ rfl ?_
      exact sds_nil (fin (pk.sub sb) _ rfl)
  refine sds_cons (sd_ifAny (fun _ => True) (td_of (tw_or (td_cmp (nm 4 (ed_int (od_lt (kB ?_))))))) (fun _ => ?_) (fun _ => ?_))
  · split
    · trivial
    · refine tw_or1 (td_of (tw_and (td_chain (ed_int (nm 4 (od_lt (kB ?_)))))))
      split
      · refine ed_int (od_lt (kB ?_))
        split
        · exact tw_and1 (td_cmp (nm 2 (nm 1 (od_gt (kB trivial)))))
        · trivial
      · simp
  · refine sds_cons (sd_set 5 nd rfl (ed_call FO (hr.mono (j := 2) (by decide)) hG (ad_pot 0 rfl rfl (ad_cons (nm 1 (ad_cons (nm 2 (ad_nil ⟨m, d, rfl, hm, fun ps p pn => ?_⟩))))))))
    have pl : ps.length ≤ 20 := Nat.le_trans (p.few m1) l20
    have pp := List.length_pos_iff.mpr pn
    refine sds_cons (sd_set 6 nd rfl (ed_call G (hr.mono (j := 1) (by decide)) hG (ad_pot 0 rfl rfl (ad_cons (ed_callB T.len (ad_cons (nm 5 (ad_nil (cd_len (l := ps.map tI) (.inl rfl) (ad_nil ⟨_, rfl, by rw [List.length_map]; omega, by rw [List.length_map]; omega, fun a ha => ?_⟩))))))))))
    refine sds_cons (sd_set 5 nd rfl (ed_imp (Q := fun dd => ∃ ls : List (List Int), dd = .lst (ls.map tI) ∧ ls.Sublist ps) ?_ fun dd ⟨ls, e, sb⟩ => ?_))
    · rw [List.length_map] at ha
      have el : ED (Bx P w K mg base NPd "_law_products" (top 57) f cdv A outer s H) H [some .pot, some (.val (.int (m : Int))), some (.val (.int (d : Int))), some (.val (.lst ((allc m d).map tI))), some (.val (.int (k : Int))), some (.val (.lst (ps.map tI))), some (.val (.int (a : Int))), none, none, none, none, none] (match (forms4 (top 57)) with | .IfExp _ _ e _ => e | _ => .Name "" ⟨0, 0, 0, 0⟩) fun dd => ∃ ls : List (List Int), dd = .lst (ls.map tI) ∧ ls.Sublist ps := by
        refine ed_bin (ed_slLT (nm 5 (nm 6 ⟨ps.map tI, (a : Int), rfl, rfl, .inl ⟨a, rfl, ed_slLF (nm 5 (ed_bin (nm 6 (ed_int (od_add ⟨ps.map tI, a + 1, rfl, by rw [Int.natCast_add]; rfl, by rw [List.length_map]; omega, od_catL (by rw [List.length_take, List.length_drop, List.length_map]; omega) ⟨ps.eraseIdx a, ?_, List.eraseIdx_sublist ..⟩⟩)))))⟩⟩)))
        rw [List.eraseIdx_eq_take_drop_succ, List.map_append, List.map_take, List.map_drop]
      refine ed_ifx (td_of (tw_or (td_cmp (nm 4 (ed_int (od_eqi (kB ?_)))))))
      split
      · show ED _ _ _ _ _
        exact nm 5 ⟨ps, rfl, .refl _⟩
      · refine tw_or1 (td_cmp (ed_callB T.len (ad_cons (nm 5 (ad_nil (cd_len (l := ps.map tI) (.inl rfl) (ed_int (od_eqi (kB ?_)))))))))
        split
        · exact nm 5 ⟨ps, rfl, .refl _⟩
        · exact el
    · subst e
      exact sds_nil (sds_nil (fin (p.sub sb) _ rfl))
  refine sds_cons (sd_ifAny (fun _ => True) (td_cmp (nm 4 (ed_int (od_eqi (kB trivial))))) (fun _ => ?_) (fun _ => ?_))
  · refine sds_cons (sd_set 7 nd rfl (ed_call G (hr.mono (j := 1) (by decide)) hG (ad_pot 0 rfl rfl (ad_cons (nm 1 (ad_nil ⟨(m : Int), rfl, by omega, by omega, fun cut hc => ?_⟩))))))
    refine sds_cons (sd_sub (f := tI) (l := allc m d) 5 rfl rfl 9 rfl nd (own := [("_law_counts_here", 9)]) (blkOk_by (by show blkC NPd (defScope (top 57)) _ _ = true; decide +kernel)) (fun _ _ _ _ _ => pg_name (i := 9) nd rfl (Or.inl rfl)) (by simp) (by omega) (nm 3 rfl) ?_ ?_ ?_)
    · intro a ha s2 H0 C2 cl fp
      refine td_of (tw_and (td_cmp (ed_callB hsum (ad_cons (ed_slTo (nm 9 (nm 7 ⟨a.map D.int, cut, rfl, rfl, by rw [List.length_map, pk.len a ha]; omega, ad_nil ?_⟩)))))))
      rw [← List.map_take]
      refine cd_sumT rfl (ed_tup (ad_cons (ed_int (ad_cons (nm 2 (ad_nil ⟨[.int 0, .int (d : Int)], rfl, by simp, od_inI (l := [0, (d : Int)]) (.inr rfl) (kB ?_)⟩))))))
      split
      · exact tw_and1 (td_cmp (ed_call G (hr.mono (j := 1) (by decide)) hG (ad_pot 0 rfl rfl (ad_cons (ed_int (ad_nil ⟨4, rfl, by decide, by decide, fun k hk => ed_int (od_gt (kB trivial))⟩))))))
      · trivial
    · intro a ha s2 H0 C2 cl fp
      exact nm 9 rfl
    · intro ls sb
      refine sds_frz 5 _ rfl ?_
      exact sds_nil (sds_nil (sds_nil (fin (pk.sub sb) _ rfl)))
  refine sds_cons (sd_ifAny (fun _ => True) (td_cmp (nm 4 (ed_int (od_lt (kB trivial))))) (fun _ => ?_) (fun _ => ?_))
  · refine sds_cons (sd_sub (f := tI) (l := allc m d) 5 rfl rfl 9 rfl nd (own := [("_law_counts_here", 9)]) (blkOk_by (by show blkC NPd (defScope (top 57)) _ _ = true; decide +kernel)) (fun _ _ _ _ _ => pg_name (i := 9) nd rfl (Or.inl rfl)) (by simp) (by omega) (nm 3 rfl) ?_ ?_ ?_)
    · intro a ha s2 H0 C2 cl fp
      refine td_of (tw_and (td_cmp (ed_callB T.max (ad_cons (nm 9 (ad_nil (cd_maxT rfl (by rw [pk.len a ha]; omega) fun M _ _ => ed_int (od_lt (kB ?_)))))))))
      split
      · exact tw_and1 (td_cmp (ed_call G (hr.mono (j := 1) (by decide)) hG (ad_pot 0 rfl rfl (ad_cons (ed_int (ad_nil ⟨2, rfl, by decide, by decide, fun k hk => ed_int (od_eqi (kB trivial))⟩))))))
      · trivial
    · intro a ha s2 H0 C2 cl fp
      exact nm 9 rfl
    · intro ls sb
      refine sds_frz 5 _ rfl ?_
      exact sds_nil (sds_nil (sds_nil (sds_nil (fin (pk.sub sb) _ rfl))))
  refine sds_cons (sd_set 8 nd rfl (ed_fd (fd_relR (n := m) (fun _ y => ∃ i : Int, y = .int i ∧ True) 6 (own := [("_law_at", 6)]) rfl nd T.range (blkOk_by (by show blkC NPd (defScope (top 57)) _ _ = true; decide +kernel)) (fun _ _ _ _ _ => pg_name (i := 6) nd rfl (Or.inl rfl)) (by omega) (ad_cons (nm 1 (ad_nil rfl))) (by simp) ?_ fun out ho => ?_)))
  · intro i hi s2 H0 C2 cl fp
    exact ed_call G (hr.mono (j := 1) (by decide)) hG (ad_pot 0 rfl rfl (ad_cons (ed_bin (nm 2 (ed_int (od_add (ad_nil ⟨(d : Int) + 2, rfl, by omega, by omega, fun k hk => ⟨_, rfl, trivial⟩⟩)))))))
  have ol := ho.1
  obtain ⟨bs, rfl, _⟩ := outs_ints (G := fun _ => True) (outs_each ho)
  rw [List.length_map] at ol
  refine sds_cons (sd_sub (f := tI) (l := allc m d) 5 rfl rfl 9 rfl nd (own := [("_law_counts_here", 9)]) (blkOk_by (by show blkC NPd (defScope (top 57)) _ _ = true; decide +kernel)) (fun _ _ _ _ _ => pg_name (i := 9) nd rfl (Or.inl rfl)) (by simp) (by omega) (nm 3 rfl) ?_ ?_ ?_)
  · intro a ha s2 H0 C2 cl fp
    have al := pk.len a ha
    refine td_val (ed_callB hall (ad_cons (ed_fd (fd_relZ (l := a.map D.int) (l' := bs.map D.int) (fun x y z => ∃ b, z = .bl b) 10 11 (own := [("_law_count", 10), ("_law_bound", 11)]) rfl nd hzip (blkOk_in (N := NPd) (blkOk_by (by decide +kernel))) (fun _ _ _ _ _ => pg_tup rfl (pgs_cons (pg_name (i := 10) nd rfl (Or.inl rfl)) (pgs_cons (pg_name (i := 11) nd rfl (Or.inl rfl)) pgs_nil rfl) rfl)) (by rw [List.length_map, List.length_map]; omega) (by rw [List.length_map]; omega) (.inr rfl) (.inl rfl) (ad_cons (nm 9 (ad_cons (nm 8 (ad_nil rfl))))) (by simp) (by simp) ?_ ?_))))
    · intro n x y hx hy s3 H3 C3 cl3 fp3
      rw [List.getElem?_map] at hx hy
      obtain ⟨i, _, rfl⟩ := Option.map_eq_some_iff.mp hx
      obtain ⟨j, _, rfl⟩ := Option.map_eq_some_iff.mp hy
      exact ed_cmp (nm 10 (nm 11 (od_le ⟨_, rfl⟩)))
    · intro out o1 o2
      obtain ⟨cs, rfl⟩ := outs_bools (out := out) fun z hz => by
        obtain ⟨n, hn, e⟩ := List.getElem_of_mem hz
        have n1 : n < a.length := by rw [o1, List.length_map] at hn; exact hn
        exact o2 n _ _ z (by rw [List.getElem?_map, List.getElem?_eq_getElem n1]; rfl) (by rw [List.getElem?_map, List.getElem?_eq_getElem (by omega : n < bs.length)]; rfl) (by rw [List.getElem?_eq_getElem hn, e])
      exact ad_nil (cd_all rfl (kB trivial))
  · intro a ha s2 H0 C2 cl fp
    exact nm 9 rfl
  · intro ls sb
    refine sds_frz 5 _ rfl ?_
    exact sds_nil (sds_nil (sds_nil (sds_nil (fin (pk.sub sb) _ rfl))))
end
end K25

set_option Elab.async false
set_option linter.all false
set_option maxRecDepth 100000
set_option maxHeartbeats 8000000
/-! k25: sizes, amounts, blends drawn -/
namespace K25
open PySem L2 DL
section
variable {P : Program} {w : World} {K : PySem.W.Frag} {mg : Str → Option Value} {base : Heap} {C CB : Addr}
/-! a size -/
abbrev spSz : SpD := fun as Q => as = [.pot] ∧ ∀ m d : Nat, dom m d = true → Q (.tup [.int (m : Int), .int (d : Int)])
abbrev NSz : List Str := ["_law_pot_here", "_law_many"]
theorem sc_sz : FnScope NSz ["_law_pot_here"] (defScope (top 58)) := ⟨rfl, rfl, rfl, by decide +kernel, rfl, by decide +kernel, by decide +kernel⟩
theorem ok_sz {f : Addr} {fd : FuncData} (F : FunS K "_law_size" "_law_size" (top 58) f fd) (T : Txt K mg C) (G : Df P w K mg base "_law_draw" 1 2 spDraw) (PI : Df P w K mg base "_law_pick" 2 2 spPick) : GnOk P w K mg base 3 f fd ["_law_pot_here"] (lift K spSz) := by
  refine gn_dl F sc_sz (fun as Q h => by obtain ⟨rfl, _⟩ := h; rfl) (fun cdv A outer s H hr hG W as Q h => ?_)
  obtain ⟨rfl, q⟩ := h
  have nd := sc_sz.nd
  refine sds_cons (sd_set 1 nd rfl (ed_call PI (hr.mono (j := 2) (by decide)) hG (ad_pot 0 rfl rfl (ad_cons (ed_lst ?_)))))
  refine ad_cons (ed_int ?_)
  refine ad_cons (ed_int ?_)
  refine ad_cons (ed_int ?_)
  refine ad_cons (ed_int ?_)
  refine ad_cons (ed_int ?_)
  refine ad_cons (ed_int ?_)
  refine ad_cons (ed_int ?_)
  refine ad_cons (ed_int ?_)
  refine ad_nil ⟨([1, 2, 2, 3, 3, 3, 4, 4] : List Int).map D.int, rfl, by decide, ad_nil ⟨_, rfl, by decide, by decide, fun dd hd => ?_⟩⟩
  obtain ⟨mi, hmi, rfl⟩ := List.mem_map.mp hd
  have fin : ∀ (m b : Nat), (∀ d, d < b → dom m d = true) → ([9, 7, 5, 4] : List Int)[m - 1]? = some (b : Int) → 1 ≤ m → 0 < b → b < 100 → SDs (Bx P w K mg base NSz "_law_size" (top 58) f cdv A outer s H) H W [some .pot, some (.val (.int (m : Int)))] ((defBody (top 58)).drop 1) { nx := fun _ => Q .non, rt := Q } := by
    intro m b hb ha m1 b0 b1
    refine sds_cons (sd_ret (ed_tup (ad_cons (nm 1 (ad_cons (ed_call G (hr.mono (j := 1) (by decide)) hG (ad_pot 0 rfl rfl (ad_cons (ed_ix (ed_lst ?_))))))))))
    refine ad_cons (ed_int ?_)
    refine ad_cons (ed_int ?_)
    refine ad_cons (ed_int ?_)
    refine ad_cons (ed_int ?_)
    refine ad_nil ⟨([9, 7, 5, 4] : List Int).map D.int, rfl, by decide, ed_bin (nm 1 (ed_int (od_sub ⟨([9, 7, 5, 4] : List Int).map D.int, ((m - 1 : Nat) : Int), .int (b : Int), .inl rfl, (show D.int ((m : Int) - 1) = D.int ((m - 1 : Nat) : Int) by congr 1; omega), atI_nat (by rw [List.getElem?_map, ha]; rfl), ad_nil ⟨(b : Int), rfl, by omega, by omega, fun d hd => ad_nil ⟨[.int (m : Int), .int (d : Int)], rfl, by simp, q m d (hb d (by omega))⟩⟩⟩)))⟩
  have mm : mi = 1 ∨ mi = 2 ∨ mi = 3 ∨ mi = 4 := by
    simp only [List.mem_cons, List.not_mem_nil, or_false] at hmi
    omega
  rcases mm with rfl | rfl | rfl | rfl
  · exact fin 1 9 (by decide) rfl (by decide) (by decide) (by decide)
  · exact fin 2 7 (by decide) rfl (by decide) (by decide) (by decide)
  · exact fin 3 5 (by decide) rfl (by decide) (by decide) (by decide)
  · exact fin 4 4 (by decide) rfl (by decide) (by decide) (by decide)
/-! an amount -/
abbrev spAmD (C : Addr) : SpD := fun as Q => as = [.pot] ∧ ∀ d r, Nq C 10 d r → 0 < r → Q d
abbrev NAm : List Str := ["_law_pot_here", "_law_top", "_law_bottom"]
theorem sc_amt : FnScope NAm ["_law_pot_here"] (defScope (top 59)) := ⟨rfl, rfl, rfl, by decide +kernel, rfl, by decide +kernel, by decide +kernel⟩
theorem ok_amt {f : Addr} {fd : FuncData} (F : FunS K "_law_amount" "_law_amount" (top 59) f fd) (V : Rt P w K mg base C) (G : Df P w K mg base "_law_draw" 1 2 spDraw) : GnOk P w K mg base 4 f fd ["_law_pot_here"] (lift K (spAmD C)) := by
  refine gn_dl F sc_amt (fun as Q h => by obtain ⟨rfl, _⟩ := h; rfl) (fun cdv A outer s H hr hG W as Q h => ?_)
  obtain ⟨rfl, q⟩ := h
  have nd := sc_amt.nd
  refine sds_cons (sd_par 1 2 rfl nd rfl rfl (by decide) rfl rfl (ad_cons (ed_bin (ed_int (ed_call G (hr.mono (j := 1) (by decide)) hG (ad_pot 0 rfl rfl (ad_cons (ed_int (ad_nil ⟨30, rfl, by decide, by decide, fun t ht => od_add (ad_cons (ed_bin (ed_int (ed_call G (hr.mono (j := 1) (by decide)) hG (ad_pot 0 rfl rfl (ad_cons (ed_int (ad_nil ⟨9, rfl, by decide, by decide, fun b hb => od_add (ad_nil ⟨_, _, rfl, ?_⟩)⟩))))))))⟩)))))))))
  refine sds_cons (sd_ret (ed_ifx (td_cmp (ed_call G (hr.mono (j := 1) (by decide)) hG (ad_pot 0 rfl rfl (ad_cons (ed_int (ad_nil ⟨3, rfl, by decide, by decide, fun d2 hd2 => ed_int (od_gt (kB ?_))⟩))))))))
  split
  · exact nm 1 (q _ _ (.int (1 + (t : Int)) (Bq.int (by show _ < 1024; omega) (by decide))) (Rat.intCast_pos.mpr (by omega)))
  · refine ed_makeA V.mk2 (hr.mono (j := 3) (by decide)) hG (ad_cons (nm 1 (ad_cons (nm 2 (ad_nil (mk_ok (n := 10) (t := 1 + (t : Int)) (b := 1 + (b : Int)) (by omega) (by show _ < 1024; omega) (by show _ < 1024; omega) (by decide) ?_))))))
    have b0 : (1 : Int) + (b : Int) ≠ 0 := by omega
    have bd := low_bd (t := 1 + (t : Int)) b0 (n := 10) (by show _ < 1024; omega) (by show _ < 1024; omega)
    have e := low_fr (t := 1 + (t : Int)) b0
    rw [e] at bd ⊢
    exact q _ _ (.rat _ bd) (dv_pos (by omega) (by omega))
/-! a blend -/
abbrev spBlD (C CB : Addr) : SpD := fun as Q => ∃ z, ∃ m d : Nat, ∃ ps, as = [.pot, .val (.str (SX.S z)), .val (.lst (ps.map tI))] ∧ LetZ z ∧ z.length = m ∧ d ≤ 8 ∧ Pk m d ps ∧ ps.length ≤ 12 ∧ ∀ es, GE m d 10 es → es.map (·.1) = ps → srt es = es → Q (Bo C CB z d es)
abbrev NBl : List Str := ["_law_pot_here", "_law_letters_here", "_law_products_here", "_law_entries", "_law_counts_here"]
theorem sc_bld : FnScope NBl ["_law_pot_here", "_law_letters_here", "_law_products_here"] (defScope (top 60)) := ⟨rfl, rfl, rfl, by decide +kernel, rfl, by decide +kernel, by decide +kernel⟩
theorem ok_bld {f : Addr} {fd : FuncData} (F : FunS K "_law_blend" "_law_blend" (top 60) f fd) (V : Bt P w K mg base C CB) (MK : KlK P w K mg base "Blend" CB 7 ["entries", "letters"] List.reverse (spBl K C)) (G : Df P w K mg base "_law_draw" 1 2 spDraw) (MX : Df P w K mg base "_law_mixed" 2 2 spMix) (AM : Df P w K mg base "_law_amount" 4 1 (spAmD C)) : GnOk P w K mg base 9 f fd ["_law_pot_here", "_law_letters_here", "_law_products_here"] (lift K (spBlD C CB)) := by
  refine gn_dl F sc_bld (fun as Q h => by obtain ⟨_, _, _, _, rfl, _⟩ := h; rfl) (fun cdv A outer s H hr hG W as Q h => ?_)
  obtain ⟨z, m, d, ps, rfl, hz, hm, d8, pk, p12, q⟩ := h
  have nd := sc_bld.nd
  have T := V.L.V.T
  refine sds_cons (sd_own 3 nd rfl (fd_lst (ad_nil ⟨[], rfl, by simp, ?_⟩)))
  refine sds_cons (sd_forLG PassesOwn.never rfl (fun l j S' => ∃ qs : List (List Int), ∃ acc es o4, l = qs.map tI ∧ qs.Perm ps ∧ S' = [some .pot, some (.val (.str (SX.S z))), some (.val (.lst (ps.map tI))), some (.own acc), o4] ∧ Paired (EntD C 10) acc es ∧ es.map (·.1) = qs.take j ∧ ∀ e ∈ es, 0 < e.2 ∧ Bq 10 e.2) (ed_call MX (hr.mono (j := 2) (by decide)) hG (ad_pot 0 rfl rfl (ad_cons (nm 2 (ad_nil ⟨_, rfl, .inl ⟨_, rfl⟩, ?_, fun l' p => ?_⟩))))) ?_ ?_)
  · show (ps.map tI).length ≤ 1000
    rw [List.length_map]
    omega
  · obtain ⟨qs, rfl, pq⟩ := perm_map_inv (f := tI) p
    exact ⟨_, rfl, qs, [], [], none, rfl, pq, rfl, .nil, rfl, nofun⟩
  · rintro l j dk S' hj ⟨qs, acc, es, o4, rfl, pq, rfl, pe, ek, ep⟩
    rw [List.getElem?_map] at hj
    obtain ⟨k, hk, rfl⟩ := Option.map_eq_some_iff.mp hj
    have al : acc.length ≤ 12 := by
      rw [Paired.length pe, ← List.length_map (f := fun e : Ent => e.1), ek, List.length_take, pq.length_eq]
      omega
    refine gd_name 4 nd rfl (sds_cons (sd_append 3 _ rfl rfl (by omega) (ed_tup (ad_cons (ed_imp (Q := fun kd => SeqD kd (k.map D.int)) ?_ fun kd hkd => ?_)))))
    · refine ed_ifx (td_cmp (ed_call G (hr.mono (j := 1) (by decide)) hG (ad_pot 0 rfl rfl (ad_cons (ed_int (ad_nil ⟨2, rfl, by decide, by decide, fun d2 hd2 => ed_int (od_eqi (kB ?_))⟩))))))
      split
      · exact nm 4 (.inr rfl)
      · exact ed_fd (fd_list T.list (nm 4 ⟨k.map D.int, .inr rfl, .inl rfl⟩))
    · refine ad_cons (ed_call AM (hr.mono (j := 4) (by decide)) hG (ad_pot 0 rfl rfl (ad_nil ⟨rfl, fun ad r nq r0 => ad_nil ⟨[kd, ad], rfl, by simp, ?_⟩⟩)))
      refine sds_nil ⟨qs, acc ++ [.tup [kd, ad]], es ++ [(k, r)], some (.val (tI k)), rfl, pq, rfl, paired_snoc ⟨kd, ad, rfl, hkd, nq⟩ pe, ?_, fun e he => ?_⟩
      · rw [List.map_append, ek, List.take_add_one, hk]
        rfl
      · rcases List.mem_append.mp he with h | h
        · exact ep e h
        · rw [List.mem_singleton.mp h]
          exact ⟨r0, nq.b⟩
  · rintro l S' ⟨qs, acc, es, o4, rfl, pq, rfl, pe, ek, ep⟩
    rw [List.length_map, List.take_length] at ek
    have km : ∀ e ∈ es, e.1 ∈ ps := fun e he => pq.mem_iff.mp (by rw [← ek]; exact List.mem_map_of_mem he)
    have ge : GE m d 10 es := ⟨fun e he => pk.len _ (km e he), fun e he => pk.nn _ (km e he), fun e he => pk.sum _ (km e he), fun e he => (ep e he).1, fun e he => (ep e he).2, by rw [ek]; exact pq.nodup_iff.mpr pk.nd, by
      have : es.length = ps.length := by rw [← List.length_map (f := fun e : Ent => e.1), ek, pq.length_eq]
      omega⟩
    have ks : ps = (srt es).map (·.1) := keys_srt ge d8 (by rw [ek]; exact pq.symm) (pk.so.imp fun h => Int.le_of_lt h)
    have fin := q (srt es) (srt_ge ge) ks.symm (srt_srt ge d8)
    refine sds_frz 3 _ rfl ?_
    refine sds_cons (sd_ret (ed_ifx (td_cmp (ed_call G (hr.mono (j := 1) (by decide)) hG (ad_pot 0 rfl rfl (ad_cons (ed_int (ad_nil ⟨2, rfl, by decide, by decide, fun d2 hd2 => ed_int (od_eqi (kB ?_))⟩))))))))
    split
    · exact ed_makeA V.mkA (hr.mono (j := 8) (by decide)) hG (ad_cons (nm 1 (ad_cons (nm 3 (ad_nil (.inl ⟨z, m, d, 10, es, acc, _, rfl, .inl rfl, hz, hm, d8, by decide, ge, pe, fin⟩))))))
    · exact ed_makeK0 MK (hr.mono (j := 8) (by decide)) hG (kd_cons (ed_callTy T.tuple (ad_cons (nm 3 (ad_nil (cd_tuple (kd_cons (nm 1 (kd_nil ⟨rfl, .inl ⟨z, m, d, 10, es, acc, _, rfl, .inr rfl, hz, hm, d8, by decide, ge, pe, fin⟩⟩)))))))))
/-! all that is drawn -/
abbrev spDr (C CB : Addr) : SpD := fun as Q => as = [.pot] ∧ ∀ (z : List Nat) (m d : Nat) (es : List Ent), dom m d = true → LetZ z → z.length = m → GE m d 10 es → Pk m d (es.map (·.1)) → es.length ≤ 12 → srt es = es → Q (.tup [.str (SX.S z), .lst ((es.map (·.1)).map tI), Bo C CB z d es])
abbrev NDw : List Str := ["_law_pot_here", "_law_many", "_law_degree", "_law_letters_here", "_law_products_here"]
theorem sc_dw : FnScope NDw ["_law_pot_here"] (defScope (top 61)) := ⟨rfl, rfl, rfl, by decide +kernel, rfl, by decide +kernel, by decide +kernel⟩
theorem ok_dw {f : Addr} {fd : FuncData} (F : FunS K "_law_drawn" "_law_drawn" (top 61) f fd) (SZ : Df P w K mg base "_law_size" 3 1 spSz) (LT : Df P w K mg base "_law_letters" 3 2 spLtr) (PD : Df P w K mg base "_law_products" 7 3 spPr) (BL : Df P w K mg base "_law_blend" 9 3 (spBlD C CB)) : GnOk P w K mg base 10 f fd ["_law_pot_here"] (lift K (spDr C CB)) := by
  refine gn_dl F sc_dw (fun as Q h => by obtain ⟨rfl, _⟩ := h; rfl) (fun cdv A outer s H hr hG W as Q h => ?_)
  obtain ⟨rfl, q⟩ := h
  have nd := sc_dw.nd
  refine sds_cons (sd_asg (ed_call SZ (hr.mono (j := 3) (by decide)) hG (ad_pot 0 rfl rfl (ad_nil ⟨rfl, fun m d hd => gd_tup rfl (gds_cons (gd_name 1 nd rfl (gds_cons (gd_name 2 nd rfl (gds_nil ?_))))) rfl⟩))))
  obtain ⟨m1, m4, d8⟩ := dom_le hd
  refine sds_cons (sd_par 3 4 rfl nd rfl rfl (by decide) rfl rfl (ad_cons (ed_call LT (hr.mono (j := 3) (by decide)) hG (ad_pot 0 rfl rfl (ad_cons (nm 1 (ad_nil ⟨m, rfl, m1, by omega, fun z hz hm => ad_cons (ed_call PD (hr.mono (j := 7) (by decide)) hG (ad_pot 0 rfl rfl (ad_cons (nm 1 (ad_cons (nm 2 (ad_nil ⟨m, d, rfl, hd, fun ps pk p12 => ad_nil ⟨_, _, rfl, ?_⟩⟩)))))))⟩)))))))
  refine sds_cons (sd_ret (ed_tup (ad_cons (nm 3 (ad_cons (nm 4 (ad_cons (ed_call BL (hr.mono (j := 9) (by decide)) hG (ad_pot 0 rfl rfl (ad_cons (nm 3 (ad_cons (nm 4 (ad_nil ⟨z, m, d, ps, rfl, hz, hm, d8, pk, p12, fun es ge ek so => ad_nil ⟨[.str (SX.S z), .lst (ps.map tI), Bo C CB z d es], rfl, by simp, ?_⟩⟩))))))))))))))
  subst ek
  exact q z m d es hd hz hm ge pk (by rw [List.length_map] at p12; exact p12) so
end
end K25

set_option Elab.async false
set_option linter.all false
set_option maxRecDepth 100000
set_option maxHeartbeats 4000000
/-! x[i] -= j, x the owner of a list -/
namespace DL
open PySem PySem.Spec PyProof.Rows L2
section
variable {k0 : Nat}
theorem sd_augSub {iv : Expr} (i : Nat) (l : List D) (hN : X.N[i]? = some x) (h : S[i]? = some (some (.own l)))
    (he : ED X B S iv fun d => ∃ j : Nat, ∃ n : Int, d = .int (j : Int) ∧ j < 100000 ∧ l[j]? = some (.int n) ∧ ED X B S e fun y => ∃ m : Int, y = .int m ∧ E.nx (S.set i (some (.own (l.set j (.int (n - m)))))))
    (hps : PS X (.AugAssign (.Subscript (.Name x px) iv tpos) .Sub e pos) (tAugS (tVar i) (WE X iv) (WE X e) (rGetL X.K) (ipI fun i j => i - j) rSetL) := by
      exact ps_augS (pe_var (by rfl) (by first | exact Or.inl rfl | exact Or.inr (Or.inl rfl))) DL.we_pe DL.get_list DL.we_pe ip_sub set_list) :
    SD X B W0 S (.AugAssign (.Subscript (.Name x px) iv tpos) .Sub e pos) E := fun σ W H r z D' k => by
  refine PS.w hps ?_
  obtain ⟨v, e1, p, xs, ev, hB, n0, hI, hH, d0⟩ := r.sl i _ h
  subst ev
  refine ⟨_, e1, ?_⟩
  refine he σ W H r _ fun d v W1 H1 s1 ok1 n1 q1 => ?_
  obtain ⟨j, n, rfl, hj, hl, q1⟩ := q1
  cases n1
  have hH1 : H1 p = some (.lst xs) := s1.keep _ _ hH n0
  have nP : ¬ W1.P p := fun q => n0 (s1.oldP p _ hH q)
  have hI1 : W1.I p = none := s1.old p _ hH (fun _ z => by cases z) hI
  have d1 := d0.mono s1.I
  obtain ⟨v, ex, nv⟩ := d1.get' hl
  cases nv
  refine ⟨p, xs, j, _, rfl, rfl, hH1, hj, ex, ?_⟩
  refine q1 σ W1 H1 (r.step s1 ok1) _ fun d2 u W2 H2 s2 ok2 n2 q2 => ?_
  obtain ⟨m, rfl, q2⟩ := q2
  cases n2
  have hH2 : H2 p = some (.lst xs) := s2.keep _ _ hH1 nP
  have nP2 : ¬ W2.P p := fun q => nP (s2.oldP p _ hH1 q)
  have hI2 : W2.I p = none := s2.old p _ hH1 (fun _ z => by cases z) hI1
  have lt : j < xs.length := (List.getElem?_eq_some_iff.mp ex).1
  refine ⟨n, m, rfl, rfl, p, xs, j, j, rfl, rfl, hH2, ixN_lt lt, ?_⟩
  have de : Dns X.K W2.I (l.set j (.int (n - m))) (xs.set j (.int (n - m))) := Dns.set (.int _) j (d1.mono s2.I)
  exact k.nx _ σ W2 _ (((r.step s1 ok1).step s2 ok2).putOwn h e1 hB nP2 hI2 hH2 de) (stp_upd ((z.trans r.ok s1).trans ok1 s2) hB) (s1.I.trans s2.I) q2
end
end DL

set_option Elab.async false
set_option linter.all false
set_option maxRecDepth 100000
set_option maxHeartbeats 8000000
/-! k25: letters traded, mates -/
namespace K25
open PySem L2 DL
def trd (k : List Int) (a b : Nat) : List Int := (k.set a (k.getD a 0 - 1)).set b ((k.set a (k.getD a 0 - 1)).getD b 0 + 1)
theorem gd_some {k : List Int} {a : Nat} (h : a < k.length) : (k.map D.int)[a]? = some (.int (k.getD a 0)) := by
  rw [List.getElem?_map, List.getD_eq_getElem?_getD, List.getElem?_eq_getElem h]
  rfl
/-- the places of the mates -/
def mts (ps : List (List Int)) (k o : List Int) (a : Nat) : List Nat := (List.range k.length).filter fun b => decide (k.getD b 0 < o.getD b 0) && (decide (trd k a b ∈ ps) && decide (trd o b a ∈ ps))
def keysT (ps : List (List Int)) : List (List Key × D) := ps.map fun k => (ik k, .bl true)
theorem look_keys (l : List Int) : ∀ ps : List (List Int), (look (keysT ps) (ik l)).isSome = decide (l ∈ ps)
  | [] => by simp [look, keysT]
  | m :: ps => by
    have ih := look_keys l ps
    unfold look keysT at ih ⊢
    rw [List.map_cons, List.find?_cons]
    by_cases e : m = l
    · subst e
      simp
    · have n1 : ¬ ik m = ik l := fun z => e (ik_inj z)
      have n2 : ¬ l = m := fun z => e z.symm
      simp only [n1, decide_false]
      rw [ih]
      simp [n2]
section
variable {P : Program} {w : World} {K : PySem.W.Frag} {mg : Str → Option Value} {base : Heap} {C CB : Addr}
/-! _traded -/
abbrev spTd : SpD := fun as Q => ∃ k : List Int, ∃ a b : Nat, as = [.val (tI k), .val (.int (a : Int)), .val (.int (b : Int))] ∧ a < k.length ∧ b < k.length ∧ k.length ≤ 100 ∧ Q (tI (trd k a b))
abbrev NTd : List Str := ["counts", "less", "more", "changed"]
theorem sc_td : FnScope NTd ["counts", "less", "more"] (defScope (top 48)) := ⟨rfl, rfl, rfl, by decide +kernel, rfl, by decide +kernel, by decide +kernel⟩
theorem ok_td {f : Addr} {fd : FuncData} (F : FunS K "_traded" "_traded" (top 48) f fd) (T : Txt K mg C) : GnOk P w K mg base 1 f fd ["counts", "less", "more"] (lift K spTd) := by
  refine gn_dl F sc_td (fun as Q h => by obtain ⟨_, _, _, rfl, _⟩ := h; rfl) (fun cdv A outer s H hr hG W as Q h => ?_)
  obtain ⟨k, a, b, rfl, ha, hb, hl, q⟩ := h
  have nd := sc_td.nd
  refine sds_cons (sd_own 3 nd rfl (fd_list T.list (nm 0 ⟨k.map D.int, .inr rfl, ?_⟩)))
  refine sds_cons (sd_augSub 3 (k.map D.int) rfl rfl (nm 1 ⟨a, k.getD a 0, rfl, by omega, gd_some ha, ed_int ⟨1, rfl, ?_⟩⟩))
  rw [show (k.map D.int).set a (.int (k.getD a 0 - 1)) = (k.set a (k.getD a 0 - 1)).map D.int by rw [List.map_set]]
  refine sds_cons (sd_augOwn 3 ((k.set a (k.getD a 0 - 1)).map D.int) rfl rfl (nm 2 ⟨b, (k.set a (k.getD a 0 - 1)).getD b 0, rfl, by omega, gd_some (by rw [List.length_set]; exact hb), ed_int ⟨1, rfl, ?_⟩⟩))
  rw [show ((k.set a (k.getD a 0 - 1)).map D.int).set b (.int ((k.set a (k.getD a 0 - 1)).getD b 0 + 1)) = (trd k a b).map D.int by simp only [trd, List.map_set]]
  refine sds_frz 3 _ rfl ?_
  exact sds_cons (sd_ret (ed_callTy T.tuple (ad_cons (nm 3 (ad_nil (cd_tuple q))))))
/-! _both_stay -/
abbrev spBs : SpD := fun as Q => ∃ ps : List (List Int), ∃ k o : List Int, ∃ a b : Nat, as = [.val (.dcT (keysT ps)), .val (tI k), .val (tI o), .val (.int (a : Int)), .val (.int (b : Int))] ∧ a < k.length ∧ b < k.length ∧ o.length = k.length ∧ k.length ≤ 100 ∧ Q (.bl (decide (trd k a b ∈ ps) && decide (trd o b a ∈ ps)))
abbrev NBst : List Str := ["products", "counts", "other", "place", "at"]
theorem sc_bs : FnScope NBst ["products", "counts", "other", "place", "at"] (defScope (top 47)) := ⟨rfl, rfl, rfl, by decide +kernel, rfl, by decide +kernel, by decide +kernel⟩
theorem u1 {X : Cx} {k : Nat} (hr : Room k X.A) : X.A.units + 1 < cLine := by have := hr.un; omega
theorem ok_bs {f : Addr} {fd : FuncData} (F : FunS K "_both_stay" "_both_stay" (top 47) f fd) (TD' : Df P w K mg base "_traded" 1 3 spTd) : GnOk P w K mg base 2 f fd ["products", "counts", "other", "place", "at"] (lift K spBs) := by
  refine gn_dl F sc_bs (fun as Q h => by obtain ⟨_, _, _, _, _, rfl, _⟩ := h; rfl) (fun cdv A outer s H hr hG W as Q h => ?_)
  obtain ⟨ps, k, o, a, b, rfl, ha, hb, ho, hl, q⟩ := h
  refine sds_cons (sd_ret (ed_and (ed_cmp (ed_call TD' hr hG (ad_cons (nm 1 (ad_cons (nm 3 (ad_cons (nm 4 (ad_nil ⟨k, a, b, rfl, ha, hb, hl, nm 0 ?_⟩)))))))))))
  rw [← tD_ik]
  refine od_din (u1 hr) ?_
  rw [look_keys]
  refine kB ?_
  cases h1 : decide (trd k a b ∈ ps) with
  | false =>
    rw [h1] at q
    exact q
  | true =>
    rw [h1] at q
    show ED _ _ _ _ _
    refine ed_one (ed_cmp (ed_call TD' hr hG (ad_cons (nm 2 (ad_cons (nm 4 (ad_cons (nm 3 (ad_nil ⟨o, b, a, rfl, by omega, by omega, by omega, nm 0 ?_⟩)))))))))
    rw [← tD_ik]
    refine od_din (u1 hr) ?_
    rw [look_keys]
    exact q
/-! the law's own -/
abbrev NMv : List Str := ["_law_counts_here", "_law_less", "_law_more", "_law_found"]
theorem sc_mv : FnScope NMv ["_law_counts_here", "_law_less", "_law_more"] (defScope (top 62)) := ⟨rfl, rfl, rfl, by decide +kernel, rfl, by decide +kernel, by decide +kernel⟩
theorem ok_mv {f : Addr} {fd : FuncData} (F : FunS K "_law_moved" "_law_moved" (top 62) f fd) (T : Txt K mg C) : GnOk P w K mg base 1 f fd ["_law_counts_here", "_law_less", "_law_more"] (lift K spTd) := by
  refine gn_dl F sc_mv (fun as Q h => by obtain ⟨_, _, _, rfl, _⟩ := h; rfl) (fun cdv A outer s H hr hG W as Q h => ?_)
  obtain ⟨k, a, b, rfl, ha, hb, hl, q⟩ := h
  have nd := sc_mv.nd
  refine sds_cons (sd_own 3 nd rfl (fd_list T.list (nm 0 ⟨k.map D.int, .inr rfl, ?_⟩)))
  refine sds_cons (sd_asg (ed_bin (ed_ixOwn 3 (k.map D.int) rfl rfl (nm 1 ⟨a, .int (k.getD a 0), rfl, gd_some ha, ed_int (od_sub (gd_ownAt 3 1 (k.map D.int) rfl rfl rfl rfl (by rw [List.length_map]; omega) ?_))⟩))))
  refine sds_st (S' := [some (.val (tI k)), some (.val (.int (a : Int))), some (.val (.int (b : Int))), some (.own ((k.set a (k.getD a 0 - 1)).map D.int))]) (by rw [List.map_set]; rfl) ?_
  refine sds_cons (sd_asg (ed_bin (ed_ixOwn 3 ((k.set a (k.getD a 0 - 1)).map D.int) rfl rfl (nm 2 ⟨b, .int ((k.set a (k.getD a 0 - 1)).getD b 0), rfl, gd_some (by rw [List.length_set]; exact hb), ed_int (od_add (gd_ownAt 3 2 ((k.set a (k.getD a 0 - 1)).map D.int) rfl rfl rfl rfl (by rw [List.length_map, List.length_set]; omega) ?_))⟩))))
  refine sds_st (S' := [some (.val (tI k)), some (.val (.int (a : Int))), some (.val (.int (b : Int))), some (.own ((trd k a b).map D.int))]) (by simp only [trd, List.map_set]; rfl) ?_
  refine sds_frz 3 _ rfl ?_
  exact sds_cons (sd_ret (ed_callTy T.tuple (ad_cons (nm 3 (ad_nil (cd_tuple q))))))
abbrev spMt : SpD := fun as Q => ∃ ps : List (List Int), ∃ k o : List Int, ∃ a : Nat, as = [.val (.lst (ps.map tI)), .val (tI k), .val (tI o), .val (.int (a : Int))] ∧ a < k.length ∧ o.length = k.length ∧ k.length ≤ 100 ∧ Q (.lst ((mts ps k o a).map fun (b : Nat) => D.int (b : Int)))
abbrev NMt : List Str := ["_law_products_here", "_law_counts_here", "_law_other", "_law_at", "_law_found", "_law_to"]
theorem sc_mt : FnScope NMt ["_law_products_here", "_law_counts_here", "_law_other", "_law_at"] (defScope (top 63)) := ⟨rfl, rfl, rfl, by decide +kernel, rfl, by decide +kernel, by decide +kernel⟩
theorem u65 {X : Cx} {k : Nat} (hr : Room k X.A) : X.A.units + 65 < cLine := by have := hr.un; omega
theorem ok_mt {f : Addr} {fd : FuncData} (F : FunS K "_law_mates" "_law_mates" (top 63) f fd) (T : Txt K mg C) (MV : Df P w K mg base "_law_moved" 1 3 spTd) : GnOk P w K mg base 2 f fd ["_law_products_here", "_law_counts_here", "_law_other", "_law_at"] (lift K spMt) := by
  refine gn_dl F sc_mt (fun as Q h => by obtain ⟨_, _, _, _, rfl, _⟩ := h; rfl) (fun cdv A outer s H hr hG W as Q h => ?_)
  obtain ⟨ps, k, o, a, rfl, ha, ho, hl, q⟩ := h
  have nd := sc_mt.nd
  refine sds_cons (sd_own 4 nd rfl (fd_lst (ad_nil ⟨[], rfl, by simp, ?_⟩)))
  refine sds_cons (sd_forR (n := ((k.length : Nat) : Int)) PassesOwn.never rfl T.range (fun i S' => ∃ o5, S' = [some (.val (.lst (ps.map tI))), some (.val (tI k)), some (.val (tI o)), some (.val (.int (a : Int))), some (.own (((List.range i).filter fun b => decide (k.getD b 0 < o.getD b 0) && (decide (trd k a b ∈ ps) && decide (trd o b a ∈ ps))).map fun (b : Nat) => D.int (b : Int))), o5]) (ad_cons (ed_callB T.len (ad_cons (nm 1 (ad_nil (cd_len (l := k.map D.int) (.inr rfl) (ad_nil ⟨by rw [List.length_map], by omega, by omega, none, rfl⟩))))))) ?_ ?_)
  · rintro i S' hi ⟨o5, rfl⟩
    have il : i < k.length := by omega
    have len : (((List.range i).filter fun b => decide (k.getD b 0 < o.getD b 0) && (decide (trd k a b ∈ ps) && decide (trd o b a ∈ ps))).map fun (b : Nat) => D.int (b : Int)).length ≤ i := by
      rw [List.length_map]
      have := List.length_filter_le (fun b => decide (k.getD b 0 < o.getD b 0) && (decide (trd k a b ∈ ps) && decide (trd o b a ∈ ps))) (List.range i)
      rwa [List.length_range] at this
    have rng : ∀ v : Bool, (decide (k.getD i 0 < o.getD i 0) && (decide (trd k a i ∈ ps) && decide (trd o i a ∈ ps))) = v → (((List.range (i + 1)).filter fun b => decide (k.getD b 0 < o.getD b 0) && (decide (trd k a b ∈ ps) && decide (trd o b a ∈ ps))).map fun (b : Nat) => D.int (b : Int)) = (((List.range i).filter fun b => decide (k.getD b 0 < o.getD b 0) && (decide (trd k a b ∈ ps) && decide (trd o b a ∈ ps))).map fun (b : Nat) => D.int (b : Int)) ++ if v = true then [D.int (i : Int)] else [] := fun v e => by
      rw [List.range_succ, List.filter_append, List.map_append, List.filter_cons, e]
      cases v <;> rfl
    refine gd_name 5 nd rfl (sds_cons (sd_ifAny (fun v => v = (decide (k.getD i 0 < o.getD i 0) && (decide (trd k a i ∈ ps) && decide (trd o i a ∈ ps)))) (td_of (tw_and (td_cmp (ed_ix (nm 2 (nm 5 ⟨o.map D.int, (i : Int), .int (o.getD i 0), .inr rfl, rfl, atI_nat (gd_some (by omega)), ed_ix (nm 1 (nm 5 ⟨k.map D.int, (i : Int), .int (k.getD i 0), .inr rfl, rfl, atI_nat (gd_some il), od_gt (kB ?_)⟩))⟩)))))) (fun e => ?_) (fun e => ?_)))
    · cases h1 : decide (k.getD i 0 < o.getD i 0) with
      | false => rfl
      | true =>
        show TW _ _ _ _ _
        refine tw_and (td_cmp (ed_call MV hr hG (ad_cons (nm 1 (ad_cons (nm 3 (ad_cons (nm 5 (ad_nil ⟨k, a, i, rfl, ha, il, hl, nm 0 (od_inT (u65 hr) (kB ?_))⟩)))))))))
        cases h2 : decide (trd k a i ∈ ps) with
        | false => rfl
        | true =>
          show TW _ _ _ _ _
          exact tw_and1 (td_cmp (ed_call MV hr hG (ad_cons (nm 2 (ad_cons (nm 5 (ad_cons (nm 3 (ad_nil ⟨o, i, a, rfl, by omega, by omega, by omega, nm 0 (od_inT (u65 hr) (kB rfl))⟩)))))))))
    · refine sds_cons (sd_append 4 _ rfl rfl (by omega) (nm 5 (sds_nil (sds_nil ⟨some (.val (.int (i : Int))), ?_⟩))))
      rw [rng true e.symm]
      rfl
    · refine sds_nil (sds_nil ⟨some (.val (.int (i : Int))), ?_⟩)
      rw [rng false e.symm, if_neg (by decide), List.append_nil]
      rfl
  · rintro S' ⟨o5, rfl⟩
    rw [Int.toNat_natCast]
    refine sds_frz 4 _ rfl ?_
    exact sds_cons (sd_ret (nm 4 q))
end
end K25

set_option Elab.async false
set_option linter.all false
set_option maxRecDepth 100000
set_option maxHeartbeats 4000000
/-! where a sign stands first in a text -/
namespace DL
open PySem PySem.Spec PyProof.Rows L2
def ocStep (s y : Str) (hi limit : Nat) (q : Array Nat × Nat) (i : Nat) : Array Nat × Nat :=
  if (q.1.size < limit && q.2 ≤ i && i + y.length ≤ hi && Builtin.Str.subAt s y i) = true then (q.1.push i, i + y.length) else q
theorem oc_fold (s y : Str) (hi limit : Nat) : Builtin.Str.occurrences s y 0 hi limit = ((List.range' 0 (hi + 1)).foldl (ocStep s y hi limit) (#[], 0)).1.toList := by
  unfold Builtin.Str.occurrences
  simp only [Id.run, Std.Legacy.Range.forIn_eq_forIn_range', Std.Legacy.Range.size]
  have e : (fun (i : Nat) (q : Array Nat × Nat) => if (decide (q.fst.size < limit) && decide (q.snd ≤ i) && decide (i + y.length ≤ hi) && Builtin.Str.subAt s y i) = true then (pure (ForInStep.yield (q.fst.push i, i + y.length)) : Id (ForInStep (Array Nat × Nat))) else pure (ForInStep.yield (q.fst, q.snd))) = fun i q => pure (ForInStep.yield (ocStep s y hi limit q i)) := by
    funext i q
    unfold ocStep
    split <;> rfl
  have n : (hi + 1 - 0 + 1 - 1) / 1 = hi + 1 := by rw [Nat.div_one]; omega
  rw [n]
  simp only [e]
  rw [List.forIn_pure_yield_eq_foldl]
  rfl
theorem oc_none (s y : Str) (hi a : Nat) : ∀ (b : Nat), (∀ j, a ≤ j → j < a + b → Builtin.Str.subAt s y j = false) → (List.range' a b).foldl (ocStep s y hi 1) (#[], 0) = (#[], 0)
  | 0, _ => rfl
  | b + 1, h => by
    rw [List.range'_succ, List.foldl_cons]
    have : ocStep s y hi 1 (#[], 0) a = (#[], 0) := by
      unfold ocStep
      rw [h a (Nat.le_refl _) (by omega)]
      simp
    rw [this]
    have ih := oc_none s y hi (a + 1) b fun j h1 h2 => h j (by omega) (by omega)
    exact ih
theorem oc_one (s y : Str) (hi i n : Nat) : ∀ l : List Nat, l.foldl (ocStep s y hi 1) (#[i], n) = (#[i], n)
  | [] => rfl
  | j :: l => by
    rw [List.foldl_cons]
    have : ocStep s y hi 1 (#[i], n) j = (#[i], n) := by
      unfold ocStep
      simp
    rw [this]
    exact oc_one s y hi i n l
theorem sub_sg (z : List Nat) (c i : Nat) : Builtin.Str.subAt (SX.S z) (sg c) i = decide (z[i]? = some c) := by
  unfold Builtin.Str.subAt
  have e : ((SX.S z).cps.extract i (i + (sg c).length) == (sg c).cps) = decide (((SX.S z).cps.extract i (i + 1)) = #[c]) := by
    rw [Bool.eq_iff_iff, beq_iff_eq, decide_eq_true_eq]
    rfl
  rw [e]
  refine decide_eq_decide.mpr ?_
  have e2 : (SX.S z).cps.extract i (i + 1) = ((z.drop i).take 1).toArray := by
    show z.toArray.extract i (i + 1) = _
    rw [List.extract_toArray, List.extract_eq_take_drop]
    congr 2
    omega
  rw [e2]
  constructor
  · intro h
    have h2 : (z.drop i).take 1 = [c] := by
      have := congrArg Array.toList h
      simpa using this
    have : ((z.drop i).take 1)[0]? = some c := by rw [h2]; rfl
    simpa using this
  · intro h
    have hi := (List.getElem?_eq_some_iff.mp h).1
    have : (z.drop i).take 1 = [c] := by
      rw [List.drop_eq_getElem_cons hi]
      have := (List.getElem?_eq_some_iff.mp h).2
      rw [this]
      rfl
    rw [this]
/-- text.index(sign), the sign's first place -/
theorem index0_at {z : List Nat} {c a : Nat} (ha : z[a]? = some c) (no : ∀ j, j < a → z[j]? ≠ some c) : Txt.index0 (SX.S z) (sg c) = some a := by
  have la := (List.getElem?_eq_some_iff.mp ha).1
  show (Builtin.Str.occurrences (SX.S z) (sg c) 0 (SX.S z).length 1).head? = some a
  rw [oc_fold, SX.S_len]
  have sp : List.range' 0 (z.length + 1) = List.range' 0 a ++ (a :: List.range' (a + 1) (z.length - a)) := by
    have h1 := List.range'_append (s := 0) (m := a) (n := z.length + 1 - a) (step := 1)
    rw [show a + (z.length + 1 - a) = z.length + 1 by omega, Nat.zero_add, Nat.one_mul] at h1
    rw [← h1, show z.length + 1 - a = (z.length - a) + 1 by omega, List.range'_succ]
  rw [sp, List.foldl_append, oc_none _ _ _ _ _ fun j _ hj => by rw [sub_sg]; exact decide_eq_false (no j (by omega)), List.foldl_cons]
  have st : ocStep (SX.S z) (sg c) z.length 1 (#[], 0) a = (#[a], a + 1) := by
    unfold ocStep
    rw [sub_sg, decide_eq_true ha]
    have : (sg c).length = 1 := rfl
    rw [this]
    simp
    omega
  rw [st, oc_one]
  rfl
end DL

set_option Elab.async false
set_option linter.all false
set_option maxRecDepth 100000
set_option maxHeartbeats 8000000
/-! k25: products looked up, the first mate -/
namespace K25
open PySem L2 DL
theorem ix_of {z : List Nat} (hz : LetZ z) {a c : Nat} (ha : z[a]? = some c) : Txt.index0 (SX.S z) (sg c) = some a := index0_at ha fun j hj h => by
  obtain ⟨l1, e1⟩ := List.getElem?_eq_some_iff.mp ha
  obtain ⟨l2, e2⟩ := List.getElem?_eq_some_iff.mp h
  have := List.pairwise_iff_getElem.mp hz.up j a l2 l1 hj
  omega
/-- the first mate's place -/
def fmt (ps : List (List Int)) (k o : List Int) (a : Nat) : Option Nat := (mts ps k o a).head?
def fmD (z : List Nat) : Option Nat → D
  | some b => .str (sg (z.getD b 0))
  | none => .non
theorem fmt_none {ps : List (List Int)} {k o : List Int} {a : Nat} : fmt ps k o a = none ↔ mts ps k o a = [] := List.head?_eq_none_iff
section
variable {P : Program} {w : World} {K : PySem.W.Frag} {mg : Str → Option Value} {base : Heap} {C CB : Addr}
abbrev lblP (base : En) : D → En
  | .tup [a, b] => (itE base [("counts", 1), ("_", 2)] 1 a).set 2 (some (.val b))
  | _ => []
abbrev spPds (C CB : Addr) : SpD := fun as Q => ∃ z, ∃ m n b : Nat, ∃ es, as = [.val (Bo C CB z n es)] ∧ GE m n b es ∧ es.length ≤ 60 ∧ Q (.dcT (keysT (es.map (·.1))))
abbrev NPds : List Str := ["blend", "counts", "_"]
theorem sc_pds : FnScope NPds ["blend"] (defScope (top 42)) := ⟨rfl, rfl, rfl, by decide +kernel, rfl, by decide +kernel, by decide +kernel⟩
theorem ok_pds {f : Addr} {fd : FuncData} (F : FunS K "_products" "_products" (top 42) f fd) (V : Bt P w K mg base C CB) : GnOk P w K mg base 2 f fd ["blend"] (lift K (spPds C CB)) := by
  refine gn_dl F sc_pds (fun as Q h => by obtain ⟨_, _, _, _, _, rfl, _⟩ := h; rfl) (fun cdv A outer s H hr hG W as Q h => ?_)
  obtain ⟨z, m, n, b, es, rfl, ge, l60, q⟩ := h
  have nd := sc_pds.nd
  refine sds_cons (sd_ret (ed_ft (ft_dcL (l := enD C es) (g := gTup K 2 (gCons (gName 1) (gCons (gName 2) gNil))) (fun i acc => acc = keysT ((es.take i).map (·.1))) (lblP [some (.val (Bo C CB z n es)), none, none]) rfl (u1 hr) nd (own := [("counts", 1), ("_", 2)]) (blkOk_by (by show blkC NPds (defScope (top 42)) _ _ = true; decide +kernel)) (fun _ _ _ _ _ => pg_tup rfl (pgs_cons (pg_name (i := 1) nd rfl (Or.inl rfl)) (pgs_cons (pg_name (i := 2) nd rfl (Or.inl rfl)) pgs_nil rfl) rfl)) (mE V ge (hr.mono (j := 1) (by decide)) hG (nm 0 ⟨rfl, rfl, by rw [enD_len]; omega, rfl⟩)) ?_ ?_ ?_)))
  · intro d hd
    obtain ⟨e, _, rfl⟩ := List.mem_map.mp hd
    exact pat_two 1 2 (by simp) (by simp)
  · intro i d acc hi ha s2 H0 C2 cl fp
    have hi' : (es.map fun e => D.tup [tI e.1, Ra C (fr e.2)])[i]? = some d := hi
    rw [List.getElem?_map] at hi'
    obtain ⟨e, he, rfl⟩ := Option.map_eq_some_iff.mp hi'
    refine nm 1 ⟨ik e.1, (tD_ik _).symm, fun s3 H3 C3 cl3 fp3 => ed_bl ?_⟩
    rw [ha, List.take_add_one, he, List.map_append]
    unfold keysT
    rw [List.map_append, putE_new]
    · rfl
    · intro hm
      obtain ⟨y, hy, ey⟩ := List.mem_map.mp hm
      obtain ⟨k, hk, rfl⟩ := List.mem_map.mp hy
      obtain ⟨x, hx, rfl⟩ := List.mem_map.mp hk
      have ex : x.1 = e.1 := ik_inj ey
      obtain ⟨j, hj, ej⟩ := List.getElem_of_mem hx
      rw [List.length_take] at hj
      have li := (List.getElem?_eq_some_iff.mp he).1
      have ei := (List.getElem?_eq_some_iff.mp he).2
      rw [List.getElem_take] at ej
      have := List.pairwise_iff_getElem.mp ge.nd j i (by rw [List.length_map]; omega) (by rw [List.length_map]; exact li) (by omega)
      rw [List.getElem_map, List.getElem_map, ej, ei] at this
      exact this ex
  · intro acc ha
    rw [ha, enD_len, List.take_length]
    exact q
/-! the first mate -/
abbrev spFm : SpD := fun as Q => ∃ z ps, ∃ k o : List Int, ∃ a c : Nat, as = [.val (.str (SX.S z)), .val (.dcT (keysT ps)), .val (.tup [tI k, tI o, .str (sg c)])] ∧ LetZ z ∧ k.length = z.length ∧ o.length = z.length ∧ z[a]? = some c ∧ Q (fmD z (fmt ps k o a))
abbrev NFm : List Str := ["letters", "products", "asked", "counts", "other", "letter", "place", "at", "name"]
theorem sc_fm : FnScope NFm ["letters", "products", "asked"] (defScope (top 46)) := ⟨rfl, rfl, rfl, by decide +kernel, rfl, by decide +kernel, by decide +kernel⟩
theorem ok_fm {f : Addr} {fd : FuncData} (F : FunS K "_first_mate" "_first_mate" (top 46) f fd) (henum : mg "enumerate" = none) (BS : Df P w K mg base "_both_stay" 2 5 spBs) : GnOk P w K mg base 3 f fd ["letters", "products", "asked"] (lift K spFm) := by
  refine gn_dl F sc_fm (fun as Q h => by obtain ⟨_, _, _, _, _, _, rfl, _⟩ := h; rfl) (fun cdv A outer s H hr hG W as Q h => ?_)
  obtain ⟨z, ps, k, o, a, c, rfl, hz, hk, ho, ha, q⟩ := h
  have nd := sc_fm.nd
  have l8 := hz.l8
  have la := (List.getElem?_eq_some_iff.mp ha).1
  have zs : (SX.S z).cps.size = k.length := by rw [hk]; simp
  refine sds_cons (sd_asg (nm 2 (gd_tup rfl (gds_cons (gd_name 3 nd rfl (gds_cons (gd_name 4 nd rfl (gds_cons (gd_name 5 nd rfl (gds_nil ?_))))))) rfl)))
  refine sds_cons (sd_set 6 nd rfl (ed_index (s := SX.S z) (nm 0 ⟨rfl, nm 5 ⟨sg c, a, rfl, ix_of hz ha, ?_⟩⟩)))
  refine sds_cons (sd_forEnS (z := SX.S z) PassesOwn.never rfl henum (fun i S' => (∀ b, b < i → (decide (k.getD b 0 < o.getD b 0) && (decide (trd k a b ∈ ps) && decide (trd o b a ∈ ps))) = false) ∧ ∃ o7 o8, S' = [some (.val (.str (SX.S z))), some (.val (.dcT (keysT ps))), some (.val (.tup [tI k, tI o, .str (sg c)])), some (.val (tI k)), some (.val (tI o)), some (.val (.str (sg c))), some (.val (.int (a : Int))), o7, o8]) (ad_cons (nm 0 (ad_nil ⟨rfl, fun b hb => absurd hb (Nat.not_lt_zero _), none, none, rfl⟩))) ?_ ?_)
  · rintro i ch S' hi ⟨no, o7, o8, rfl⟩
    have hi' : z[i]? = some ch := by simpa using hi
    have il := (List.getElem?_eq_some_iff.mp hi').1
    refine gd_tup rfl (gds_cons (gd_name 7 nd rfl (gds_cons (gd_name 8 nd rfl (gds_nil ?_))))) rfl
    refine sds_cons (sd_ifAny (fun v => v = (decide (k.getD i 0 < o.getD i 0) && (decide (trd k a i ∈ ps) && decide (trd o i a ∈ ps)))) (td_of (tw_and (td_cmp (ed_ix (nm 3 (nm 7 ⟨k.map D.int, (i : Int), .int (k.getD i 0), .inr rfl, rfl, atI_nat (gd_some (by omega)), ed_ix (nm 4 (nm 7 ⟨o.map D.int, (i : Int), .int (o.getD i 0), .inr rfl, rfl, atI_nat (gd_some (by omega)), od_lt (kB ?_)⟩))⟩)))))) (fun e => ?_) (fun e => ?_))
    · cases h1 : decide (k.getD i 0 < o.getD i 0) with
      | false => rfl
      | true =>
        show TW _ _ _ _ _
        exact tw_and1 (td_val (ed_call BS hr hG (ad_cons (nm 1 (ad_cons (nm 3 (ad_cons (nm 4 (ad_cons (nm 6 (ad_cons (nm 7 (ad_nil ⟨ps, k, o, a, i, rfl, by omega, by omega, by omega, by omega, kB rfl⟩)))))))))))))
    · refine sds_cons (sd_ret (nm 8 ?_))
      have fi : fmt ps k o a = some i := by
        unfold fmt mts
        rw [List.head?_filter, List.find?_range_eq_some]
        exact ⟨e.symm, List.mem_range.mpr (by omega), fun b hb => by rw [no b hb]; rfl⟩
      rw [fi] at q
      have ez : z.getD i 0 = ch := by rw [List.getD_eq_getElem?_getD, hi']; rfl
      show Q (.str (sg ch))
      rw [← ez]
      exact q
    · refine sds_nil (sds_nil ⟨fun b hb => ?_, some (.val (.int (i : Int))), some (.val (.str (sg ch))), rfl⟩)
      rcases Nat.lt_or_ge b i with l | l
      · exact no b l
      · have : b = i := by omega
        rw [this]
        exact e.symm
  · rintro S' ⟨no, o7, o8, rfl⟩
    refine sds_cons (sd_ret (ed_non ?_))
    have fi : fmt ps k o a = none := by
      unfold fmt mts
      rw [List.head?_filter, List.find?_eq_none]
      intro b hb
      have := no b (by rw [zs]; exact List.mem_range.mp hb)
      rw [this]
      exact Bool.false_ne_true
    rw [fi] at q
    exact q
end
end K25

set_option Elab.async false
set_option linter.all false
set_option maxRecDepth 100000
set_option maxHeartbeats 8000000
/-! [.. for x, y in zip(a text, a tuple) if ..] -/
namespace TZT
open PySem PySem.Spec PyProof.Rows TZ
abbrev ti (b : Addr) : Obj := { cls := .type "tuple_iterator", data := .fields #[.ref b, .int 0 0] }
abbrev n2 (h : Heap) (x : Str) (t : Tok) (b : Addr) : Heap := (m1 h x t).push (ti b)
abbrev n3 (h : Heap) (x : Str) (t : Tok) (b : Addr) : Heap := (n2 h x t b).push { cls := .type "tuple", data := .seq #[.ref h.objs.size, .ref (m1 h x t).objs.size] }
abbrev n4 (h : Heap) (x : Str) (t : Tok) (b : Addr) : Heap := (n3 h x t b).push { cls := .type "tuple", data := .seq #[.none, .none] }
abbrev n5 (h : Heap) (x : Str) (t : Tok) (b : Addr) : Heap := (n4 h x t b).push { cls := .type "zip", data := .fields #[.none, .bool false, .bool false, .ref (n2 h x t b).objs.size, .ref (n3 h x t b).objs.size] }
section
variable {p : Program} {w : World} {A : Around} {E : Value → Shared → Prop} {s : Shared}
structure St (x : Str) (t : Tok) (b z TI TO i1 i2 : Addr) (i : Nat) (h : Heap) : Prop where
  z : IsZip h z TI TO .none
  ti : IsTupOf2 h TI (.ref i1) (.ref i2)
  to : ∃ a b, IsTupOf2 h TO a b
  f : h.IsStrIter i1 "str_ascii_iterator" x t i
  g : h.IsTupleIter i2 b i
end
end TZT
namespace DL
open PySem PySem.Spec PyProof.Rows L2 TZT
/-- a text's signs and a tuple's items, two by two -/
def Itst (K : PySem.W.Frag) (x : Str) (b : Addr) : It := ⟨fun i H => i < x.cps.size ∧ ∃ ys y, SqT K H b ys ∧ ys[i]? = some y, fun i H v H' => ∃ T c y, x.cps[i]? = some c ∧ v = .ref T ∧ H T = none ∧ H' = upd H T (.tup [.str ⟨#[c]⟩, y]) ∧ ∀ ys, SqT K H b ys → ys[i]? = some y,
  fun i H => ∃ ys, SqT K H b ys ∧ i ≤ x.cps.size ∧ i ≤ ys.length ∧ (i = x.cps.size ∨ i = ys.length)⟩
def iZst (K : PySem.W.Frag) (ta : TA) : TI := fun σ H R => ta σ H fun vs H1 => ∃ x b ys, vs = [.str x, .ref b] ∧ x.cps.all (· < 128) = true ∧ SqT K H1 b ys ∧ R (Itst K x b) H1
section
variable {X : Cx} {B : Hp} {S : En} {p1 pos px : Pos} {e e2 elt c : Expr} {x : Str}
end
end DL

set_option Elab.async false
set_option linter.all false
set_option maxRecDepth 100000
set_option maxHeartbeats 4000000
/-! for x, y, z in zip(a text, b, c) -/
namespace Z3S
open PySem PySem.Spec PyProof.Rows ZX Z3
/-- how the zip stands ahead of turn i -/
structure St (u v : Bool) (x : Str) (t : Tok) (b c z TI TO i1 i2 i3 : Addr) (i : Nat) (h : Heap) : Prop where
  z : IsZip h z TI TO .none
  ti : IsTupOf3 h TI (.ref i1) (.ref i2) (.ref i3)
  to : ∃ x y w, IsTupOf3 h TO x y w
  f : h.IsStrIter i1 "str_ascii_iterator" x t i
  g : ItAt u i2 b i h
  e : ItAt v i3 c i h
end Z3S
namespace DL
open PySem PySem.Spec PyProof.Rows L2 ZX Z3 Z3S
def Itm3S (K : PySem.W.Frag) (x : Str) (u v : Bool) (b c : Addr) : It where
  go := fun i H => i < x.cps.size ∧ ∃ (ys ws : List V) (y w : V), SqB K u H b ys ∧ SqB K v H c ws ∧ ys[i]? = some y ∧ ws[i]? = some w
  yld := fun i H r H' => ∃ T c0 y w, r = .ref T ∧ H T = none ∧ H' = upd H T (.tup [.str ⟨#[c0]⟩, y, w]) ∧ x.cps[i]? = some c0 ∧ (∀ ys, SqB K u H b ys → ys[i]? = some y) ∧ ∀ ws, SqB K v H c ws → ws[i]? = some w
  stop := fun i H => ∃ ys ws : List V, SqB K u H b ys ∧ SqB K v H c ws ∧ i ≤ x.cps.size ∧ i ≤ ys.length ∧ i ≤ ws.length ∧ (i = x.cps.size ∨ i = ys.length ∨ i = ws.length)
theorem turn_m3S {P : Program} {w : World} {K : PySem.W.Frag} {elts : List Expr} {kk : Nat} {tpos : Pos} {u v : Bool} {x : Str} {t : Tok} {b c z TI TO i1 i2 i3 : Addr} (D : ZipSep3 z TI TO i1 i2 i3 [i1] [i2, b] [i3, c]) (nb : b ≠ i2) (nc : c ≠ i3) : Turn P w K (.Tuple elts kk tpos) (Itm3S K x u v b c) [z, TI, TO, i1, i2, i3] z (Z3S.St u v x t b c z TI TO i1 i2 i3) where
  mem := by simp
  obj := fun i h st q hq => by
    obtain ⟨x3, y, r, hTO⟩ := st.to
    have e : q = z ∨ q = TI ∨ q = TO ∨ q = i1 ∨ q = i2 ∨ q = i3 := by simpa using hq
    rcases e with e | e | e | e | e | e <;> subst e
    · exact ⟨_, st.z, fun v q => nomatch q⟩
    · exact ⟨_, st.ti, fun v q => nomatch q⟩
    · exact ⟨_, hTO, fun v q => nomatch q⟩
    · obtain ⟨o, e, _, d⟩ := st.f
      exact ⟨o, e, fun v q => by rw [d] at q; cases q⟩
    · exact st.g.obj
    · exact st.e.obj
  keep := fun i h h' st k => by
    obtain ⟨x3, y, r, hTO⟩ := st.to
    obtain ⟨o1, e1, r1⟩ := st.f
    exact ⟨k z (by simp) _ st.z, k TI (by simp) _ st.ti, ⟨x3, y, r, k TO (by simp) _ hTO⟩, ⟨o1, k i1 (by simp) _ e1, r1⟩, st.g.at (k i2 (by simp)), st.e.at (k i3 (by simp))⟩
  item := by
    intro X hP hw hK hc i pins s σ H E I hf st hg
    subst hP hw hK
    obtain ⟨l1, ys, ws, y, r, qy, qw, hy, hr⟩ := hg
    obtain ⟨m2, r2, p2⟩ := qy.stand I
    obtain ⟨m3, r3, p3⟩ := qw.stand I
    obtain ⟨v2, e2, rv2⟩ := r2.get hy
    obtain ⟨v3, e3, rv3⟩ := r3.get hr
    obtain ⟨x0, y0, z0, hTO⟩ := st.to
    have zlt : z < s.heap.objs.size := Heap.lt_size st.z
    have hd : X.A.in1.handled = none := I.ok.hd hc
    have l2 : i < m2.toArray.size := by rw [List.size_toArray]; exact (List.getElem?_eq_some_iff.mp e2).1
    have l3 : i < m3.toArray.size := by rw [List.size_toArray]; exact (List.getElem?_eq_some_iff.mp e3).1
    refine wpAny_pyNext_zipD3_item D (Draws.strAscii hd i1 x t) (drawsB u hd i2 b nb m2.toArray) (drawsB v hd i3 c nc m3.toArray) st.z st.ti hTO st.f ⟨st.g, p2⟩ ⟨st.e, p3⟩ l1 l2 l3 fun u1 u2 u3 h' tk y1 y2 y3 z' t' f' g' e' T' size' keep => ?_
    obtain ⟨c1, t1, hc1, rfl⟩ := y1
    have q2 : u2 = v2 := by
      have y1' : m2.toArray[i]? = some u2 := y2
      rw [List.getElem?_toArray, e2] at y1'
      exact (Option.some.inj y1').symm
    have q3 : u3 = v3 := by
      have y1' : m3.toArray[i]? = some u3 := y3
      rw [List.getElem?_toArray, e3] at y1'
      exact (Option.some.inj y1').symm
    subst q2 q3
    refine ⟨_, rfl, wpAny_letOwnedTupleGo_zip (s := { s with heap := h', toks := tk }) z' fun h'' z'' sb => ?_⟩
    have T2 : h''.get? s.heap.objs.size = some { cls := .type "tuple", data := .seq #[.str ⟨#[c1]⟩ t1, u2, u3] } := (sb.2 _ (Nat.ne_of_gt zlt)).trans T'
    have new : ObjOk X.prog X.w (upd H s.heap.objs.size (.tup [.str ⟨#[c1]⟩, y, r])) h'' s.heap.objs.size (.tup [.str ⟨#[c1]⟩, y, r]) := ⟨by show 3 ≤ sizeLine; decide, [_, u2, u3], .cons ⟨t1, rfl⟩ (.cons rv2 (.cons rv3 .nil)), ⟨_, T2, rfl, _, rfl⟩⟩
    have far : ∀ c, c ∉ [z, TI, TO, i1, i2, i3] → c ≠ z ∧ c ≠ TO ∧ c ≠ i1 ∧ c ≠ i2 ∧ c ≠ i3 := fun c hb => ⟨fun q => hb (by simp [q]), fun q => hb (by simp [q]), fun q => hb (by simp [q]), fun q => hb (by simp [q]), fun q => hb (by simp [q])⟩
    have I1 : Inv X pins σ (upd H s.heap.objs.size (.tup [.str ⟨#[c1]⟩, y, r])) { s with heap := h'', toks := tk } :=
      I.turnedNew (t' := tk) (ch := [z, TI, TO, i1, i2, i3]) (fun c o hb q => let ⟨q1, q2, q3, q4, q5⟩ := far c hb; (sb.2 c q1).trans (keep c o q1 q2 q3 q4 q5 q)) hf (Nat.le_refl _) new
    refine ⟨.ref s.heap.objs.size, _, I1, rfl, ⟨_, c1, y, r, rfl, I.hok.fresh (Nat.le_refl _), rfl, hc1, fun l hl => by rw [hl.inj I qy]; exact hy, fun l hl => by rw [hl.inj I qw]; exact hr⟩, ⟨z'', ?_, ⟨.str ⟨#[c1]⟩ t1, u2, u3, ?_⟩, ?_, ?_, ?_⟩, fun c hcm => ?_⟩
    · exact (sb.2 _ D.TIz).trans (keep _ _ D.TIz D.TITO D.TIi1 D.TIi2 D.TIi3 st.ti)
    · exact (sb.2 _ D.TOz).trans t'
    · obtain ⟨o1, e1, r1⟩ := f'
      exact ⟨o1, (sb.2 _ D.zi1.symm).trans e1, r1⟩
    · exact g'.1.at fun o e => (sb.2 _ D.zi2.symm).trans e
    · exact e'.1.at fun o e => (sb.2 _ D.zi3.symm).trans e
    · have lt : c < s.heap.objs.size := by
        have e' : c = z ∨ c = TI ∨ c = TO ∨ c = i1 ∨ c = i2 ∨ c = i3 := by simpa using hcm
        rcases e' with q | q | q | q | q | q <;> rw [q]
        · exact zlt
        · exact Heap.lt_size st.ti
        · exact Heap.lt_size hTO
        · obtain ⟨_, e, _⟩ := st.f; exact Heap.lt_size e
        · obtain ⟨_, e, _⟩ := st.g.obj; exact Heap.lt_size e
        · obtain ⟨_, e, _⟩ := st.e.obj; exact Heap.lt_size e
      rw [upd_ne (Nat.ne_of_lt lt)]
      exact (hf c hcm).1
  done := by
    intro X hP hw hK hc i pins s σ H E I hf st hg
    subst hP hw hK
    obtain ⟨ys, ws, qy, qw, h1, h2, h3, hend⟩ := hg
    obtain ⟨m2, r2, p2⟩ := qy.stand I
    obtain ⟨m3, r3, p3⟩ := qw.stand I
    have l2 := r2.length
    have l3 := r3.length
    obtain ⟨x0, y0, z0, hTO⟩ := st.to
    have hd : X.A.in1.handled = none := I.ok.hd hc
    refine wpAny_pyNext_zipD3_end D (Draws.strAscii hd i1 x t) (drawsB u hd i2 b nb m2.toArray) (drawsB v hd i3 c nc m3.toArray) st.z st.ti hTO st.f ⟨st.g, p2⟩ ⟨st.e, p3⟩ h1 (by have := List.size_toArray (as := m2); omega) (by have := List.size_toArray (as := m3); omega) (by have := List.size_toArray (as := m2); have := List.size_toArray (as := m3); omega) fun h' tk keep =>
      ⟨rfl, I.turnedL (t' := tk) (ch := [z, TI, TO, i1, i2, i3]) (fun c o hb q => keep c o (fun q' => hb (by simp [q'])) (fun q' => hb (by simp [q'])) (fun q' => hb (by simp [q'])) (fun q' => hb (by simp [q'])) (fun q' => hb (by simp [q'])) q) hf⟩
  self := fun A i s Q E st h => wpAny_pyIter_zip st.z h
def iZm3S (K : PySem.W.Frag) (ta : TA) : TI := fun σ H R => ta σ H fun vs H1 => ∃ x u v b c ys ws, vs = [.str x, .ref b, .ref c] ∧ x.cps.all (· < 128) = true ∧ SqB K u H1 b ys ∧ SqB K v H1 c ws ∧ R (Itm3S K x u v b c) H1
theorem pi_zm3S {X : Cx} {e e2 e3 : Expr} {ta : TA} {p pos tpos : Pos} {elts : List Expr} {kk : Nat} (hg : Gl X "zip") (hm : X.mg "zip" = none) (ha : PA X [e, e2, e3] ta)
    (hs : starEach [e, e2, e3] X.env = (false, eval e X.env) :: starEach [e2, e3] X.env) (hpl : (backTo pos (starEach [e2, e3] X.env)).any (·.1) = false) : PI X (.Tuple elts kk tpos) (.Call (.Name "zip" p) [e, e2, e3] [] pos) (iZm3S X.K ta) := by
  refine ⟨fun pins s σ H R I h => Call_ (ld_blt I hg hm PyProof.Rows.boot_zip (PyProof.Rows.callWith_type1 (thn (ha.run pos pins s σ H _ I h) fun us s1 ⟨vs, H1, I1, rv, q1⟩ => ?_) hs hpl))⟩
  obtain ⟨x, u, v, b, c, ys, ws, rfl, hx, qy, qw, q⟩ := q1
  obtain ⟨v1, v2, v3, rfl, r1, r2, r3⟩ := (show ∃ v1 v2 v3, us = [v1, v2, v3] ∧ RelV (.str x) v1 ∧ RelV (.ref b) v2 ∧ RelV (.ref c) v3 from by
    cases rv with
    | cons r rr => cases rr with
      | cons r' rr => cases rr with
        | cons r'' rr => cases rr; exact ⟨_, _, _, rfl, r, r', r''⟩)
  obtain ⟨t, rfl⟩ := r1
  cases r2
  cases r3
  obtain ⟨m2, w2, p2⟩ := qy.stand I1
  obtain ⟨m3, w3, p3⟩ := qw.stand I1
  have B1 := begins_text x t
  obtain ⟨o2, B2, f2⟩ := beginsB u b m2.toArray
  obtain ⟨o3, B3, f3⟩ := beginsB v c m3.toArray
  have lb := stand_lt p2
  have lc := stand_lt p3
  refine zip_begins3 B1 B2 B3 trivial p2 p3 fun h' z' ti' to' g1 g2 g3 size' hk => wpAny_pyIter_zip z' ?_
  have I2 : Inv X pins σ H1 { s1 with heap := h' } := I1.kept (t' := s1.toks) hk
  refine ⟨s1.heap.objs.size + 5, [s1.heap.objs.size + 5, s1.heap.objs.size + 3, s1.heap.objs.size + 4, s1.heap.objs.size, s1.heap.objs.size + 1, s1.heap.objs.size + 2], _, _, H1, rfl, I2, turn_m3S (zip_sep3 (fp1 := []) (fp2 := [b]) (fp3 := [c]) (by simp) (by simpa using lb) (by simpa using lc)) (Nat.ne_of_lt (Nat.lt_succ_of_lt lb)) (Nat.ne_of_lt (Nat.lt_succ_of_lt (Nat.lt_succ_of_lt lc))), ⟨z', ti', ⟨_, _, _, to'⟩, ⟨_, g1, by show Value.type (strIterType x) = _; rw [strIterType, if_pos hx], rfl⟩, f2 _ _ g2, f3 _ _ g3⟩, fun c hc => ?_, q⟩
  have le : s1.heap.objs.size ≤ c := by
    have e' : c = s1.heap.objs.size + 5 ∨ c = s1.heap.objs.size + 3 ∨ c = s1.heap.objs.size + 4 ∨ c = s1.heap.objs.size ∨ c = s1.heap.objs.size + 1 ∨ c = s1.heap.objs.size + 2 := by simpa using hc
    rcases e' with q | q | q | q | q | q <;> rw [q]
    · exact Nat.le_add_right _ _
    · exact Nat.le_add_right _ _
    · exact Nat.le_add_right _ _
    · exact Nat.le_refl _
    · exact Nat.le_add_right _ _
    · exact Nat.le_add_right _ _
  exact I1.fpOk le (I1.hok.fresh le)
section
variable {X : Cx} {B : Hp} {W0 : Wd} {S : En} {pos p p1 : Pos} {e e2 e3 : Expr} {E : Ends'}
/-- for x, y, z in zip(a text, b, c), all alike long -/
theorem sd_forZ3S {elts : List Expr} {kk : Nat} {tpos : Pos} {body : List Stmt} {sx : Str} {l' l2 : List D} (hp : PassesOwn (model X.prog X.w) X.A X.env X.xe) (hc : X.calm = true) (hm : X.mg "zip" = none) (hsx : sx.cps.all (· < 128) = true) (hll : sx.cps.size = l'.length) (hl2 : sx.cps.size = l2.length) (Inv : Nat → En → Prop)
    (h : AD X B S [e, e2, e3] fun as => ∃ d' d2, as = [.val (.str sx), .val d', .val d2] ∧ SeqD d' l' ∧ SeqD d2 l2 ∧ Inv 0 S)
    (hs : ∀ (i c0 : Nat) d' d2 S', sx.cps[i]? = some c0 → l'[i]? = some d' → l2[i]? = some d2 → Inv i S' → GD X B W0 S' (.Tuple elts kk tpos) (.tup [.str (sg c0), d', d2]) fun S2 => SDs X B W0 S2 body { nx := Inv (i + 1), rt := E.rt, bk := E.nx, ct := Inv (i + 1) })
    (hd : ∀ S', Inv sx.cps.size S' → E.nx S') (hg : Gl X "zip" := by rfl) (hst : starEach [e, e2, e3] X.env = (false, eval e X.env) :: starEach [e2, e3] X.env := by rfl) (hpl : (backTo p1 (starEach [e2, e3] X.env)).any (·.1) = false := by rfl)
    (hf : ∀ x, foldedSetIterable (.Call (.Name "zip" p) [e, e2, e3] [] p1) X.env x = pure x := by intro _; rfl) :
    SD X B W0 S (.For (.Tuple elts kk tpos) (.Call (.Name "zip" p) [e, e2, e3] [] p1) body [] pos) E := fun σ W H r z D' k => by
  refine PS.w (ps_for hp hc (pi_zm3S hg hm wa_pa hst hpl) wg_pg wss_pss hf) ?_
  refine h σ W H r _ fun as vs W1 H1 s1 ok1 n1 q1 => ?_
  obtain ⟨d', d2, rfl, sd', sd2, i0⟩ := q1
  obtain ⟨v, v', v2, rfl, m, m', m2⟩ := three_args n1
  cases m
  obtain ⟨u, b, ys, rfl, w', hy⟩ := sd'.at m'
  obtain ⟨tt, c, ws, rfl, w2, hw⟩ := sd2.at m2
  have lxy : sx.cps.size = ys.length := by rw [← w'.length, hll]
  have lxw : sx.cps.size = ws.length := by rw [← w2.length, hl2]
  refine ⟨sx, u, tt, b, c, ys, ws, rfl, hsx, hy _ ok1.ex, hw _ ok1.ex, fun i n σ' H' => n = sx.cps.size - i ∧ i ≤ sx.cps.size ∧ ∃ S' W', Rep X.K (gOf X) B S' σ' W' H' ∧ Stp W0 B W' H' ∧ Ex W1.I W'.I ∧ Inv i S', ⟨_, rfl, Nat.zero_le _, S, W1, r.step s1 ok1, z.trans r.ok s1, Ex.refl _, i0⟩, ?_⟩
  rintro i n σ' H' ⟨rfl, lx, S', W', r', z', e', i'⟩
  have qy := hy H' fun c o y => r'.ok.ex _ _ (e' _ _ y)
  have qw := hw H' fun c o y => r'.ok.ex _ _ (e' _ _ y)
  by_cases c : i < sx.cps.size
  · have ey : ys[i]? = some (ys[i]'(lxy ▸ c)) := List.getElem?_eq_getElem (lxy ▸ c)
    have ew : ws[i]? = some (ws[i]'(lxw ▸ c)) := List.getElem?_eq_getElem (lxw ▸ c)
    refine .inr ⟨⟨c, ys, ws, _, _, qy, qw, ey, ew⟩, fun σ2 H2 => ∃ S2 W2, Rep X.K (gOf X) B S2 σ2 W2 H2 ∧ Stp W0 B W2 H2 ∧ Ex W1.I W2.I ∧ Inv (i + 1) S2, fun σ2 H2 y => ⟨sx.cps.size - (i + 1), by omega, rfl, c, y⟩, ?_⟩
    rintro x H2 ⟨T, c0, y1, w1, rfl, hT, rfl, e1, f2, f3⟩
    have e2 := f2 ys qy
    have e3 := f3 ws qw
    obtain ⟨d2, hd2, nd2⟩ := w'.get e2
    obtain ⟨d3, hd3, nd3⟩ := w2.get e3
    have st := Stp.new (o := .tup [.str ⟨#[c0]⟩, y1, w1]) r'.ok hT
    have ok2 := r'.ok.new (o := .tup [.str ⟨#[c0]⟩, y1, w1]) hT
    refine hs i c0 d2 d3 S' e1 hd2 hd3 i' σ' _ _ _ (r'.step st ok2) (z'.trans r'.ok st) (.tup (show upd W'.I T _ T = _ from upd_same) (.cons (.str _) (.cons ((nd2.mono e').mono st.I) (.cons ((nd3.mono e').mono st.I) .nil)))) _ fun S3 σ3 W3 H3 r3 z3 e3 q3 => ?_
    have e4 := (e'.trans st.I).trans e3
    exact q3 σ3 W3 H3 r3 z3 _ ⟨fun S5 σ5 W5 H5 r5 z5 e5 q5 => ⟨S5, W5, r5, z5, e4.trans e5, q5⟩, fun d5 v5 W5 H5 r5 z5 e5 n5 q5 => k.rt d5 v5 W5 H5 r5 z5 ((s1.I.trans e4).trans e5) n5 q5,
      fun S5 σ5 W5 H5 r5 z5 e5 q5 => k.nx S5 σ5 W5 H5 r5 z5 ((s1.I.trans e4).trans e5) q5, fun S5 σ5 W5 H5 r5 z5 e5 q5 => ⟨S5, W5, r5, z5, e4.trans e5, q5⟩⟩
  · refine .inl ⟨⟨ys, ws, qy, qw, by omega, by omega, by omega, .inl (by omega)⟩, ?_⟩
    have : i = sx.cps.size := by omega
    rw [this] at i'
    exact k.nx S' σ' W' H' r' z' (s1.I.trans e') (hd S' i')
end
end DL

set_option Elab.async false
set_option linter.all false
set_option maxRecDepth 100000
set_option maxHeartbeats 8000000
/-! k25: all that is asked -/
namespace K25
open PySem L2 DL
/-- what is asked of two products, up to a place -/
def askTo (z : List Nat) (k o : List Int) (n : Nat) : List Nat := (List.range n).filter fun a => decide (o.getD a 0 < k.getD a 0)
def askD (z : List Nat) (k o : List Int) (a : Nat) : D := .tup [tI k, tI o, .str (sg (z.getD a 0))]
def ask2 (z : List Nat) (k o : List Int) : List (List Int × List Int × Nat) := (askTo z k o z.length).map fun a => (k, o, a)
def askAll (z : List Nat) (ps : List (List Int)) : List (List Int × List Int × Nat) := ps.flatMap fun k => ps.flatMap fun o => ask2 z k o
def askE (z : List Nat) (t : List Int × List Int × Nat) : D := askD z t.1 t.2.1 t.2.2
theorem askTo_len {z : List Nat} {k o : List Int} {n : Nat} : (askTo z k o n).length ≤ n := by
  have := List.length_filter_le (fun a => decide (o.getD a 0 < k.getD a 0)) (List.range n)
  rw [List.length_range] at this
  exact this
theorem flat_leq {α β : Type} {f : α → List β} {c : Nat} : ∀ {l : List α}, (∀ a ∈ l, (f a).length ≤ c) → (l.flatMap f).length ≤ l.length * c
  | [], _ => by simp
  | a :: l, h => by
    have h1 := h a (List.mem_cons_self ..)
    have h2 := flat_leq (l := l) fun b hb => h b (List.mem_cons_of_mem _ hb)
    rw [List.flatMap_cons, List.length_append, List.length_cons, Nat.add_mul, Nat.one_mul]
    omega
section
variable {P : Program} {w : World} {K : PySem.W.Frag} {mg : Str → Option Value} {base : Heap} {C CB : Addr}
abbrev spAs (C CB : Addr) : SpD := fun as Q => ∃ z, ∃ m n b : Nat, ∃ es, as = [.val (Bo C CB z n es)] ∧ LetZ z ∧ z.length = m ∧ GE m n b es ∧ es.length ≤ 60 ∧ Q (.lst ((askAll z (es.map (·.1))).map (askE z)))
abbrev NAs : List Str := ["blend", "counts", "products", "found", "other", "letter", "one", "two", "_"]
theorem sc_as : FnScope NAs ["blend"] (defScope (top 43)) := ⟨rfl, rfl, rfl, by decide +kernel, rfl, by decide +kernel, by decide +kernel⟩
abbrev lblA (base : En) : D → En
  | .tup [a, b] => (itE base [("counts", 1), ("_", 8)] 1 a).set 8 (some (.val b))
  | _ => []
theorem ok_as {f : Addr} {fd : FuncData} (F : FunS K "_all_asked" "_all_asked" (top 43) f fd) (V : Bt P w K mg base C CB) (hzip : mg "zip" = none) : GnOk P w K mg base 3 f fd ["blend"] (lift K (spAs C CB)) := by
  refine gn_dl F sc_as (fun as Q h => by obtain ⟨_, _, _, _, _, rfl, _⟩ := h; rfl) (fun cdv A outer s H hr hG W as Q h => ?_)
  obtain ⟨z, m, n, b, es, rfl, hz, hm, ge, l60, q⟩ := h
  have nd := sc_as.nd
  have l8 := hz.l8
  obtain ⟨ps, eps⟩ : ∃ ps, ps = es.map (·.1) := ⟨_, rfl⟩
  have lps : ps.length ≤ 60 := by rw [eps, List.length_map]; exact l60
  have kps : ∀ k ∈ ps, k.length = z.length := fun k hk => by
    rw [eps] at hk
    obtain ⟨e, he, rfl⟩ := List.mem_map.mp hk
    rw [ge.len e he, hm]
  refine sds_cons (sd_ownLc (i := 2) (g := gTup K 2 (gCons (gName 1) (gCons (gName 8) gNil))) (own := [("counts", 1), ("_", 8)]) rfl nd rfl rfl (pi_list we_pe) (blkOk_by (by show blkC NAs (defScope (top 43)) _ _ = true; decide +kernel)) (fun _ _ _ _ _ => pg_tup rfl (pgs_cons (pg_name (i := 1) nd rfl (Or.inl rfl)) (pgs_cons (pg_name (i := 8) nd rfl (Or.inl rfl)) pgs_nil rfl) rfl)) (lc_L (l := enD C es) (fun i acc => acc = (ps.take i).map tI) (lblA [some (.val (Bo C CB z n es)), none, none, none, none, none, none, none, none]) (mE V ge (hr.mono (j := 1) (by decide)) hG (nm 0 ⟨rfl, rfl, by rw [enD_len]; omega, rfl⟩)) ?_ ?_ ?_))
  · intro d hd
    obtain ⟨e, _, rfl⟩ := List.mem_map.mp hd
    exact pat_two 1 8 (by simp) (by simp)
  · intro i d acc hi _ ha s2 H0 C2 cl fp
    have hi' : (es.map fun e => D.tup [tI e.1, Ra C (fr e.2)])[i]? = some d := hi
    rw [List.getElem?_map] at hi'
    obtain ⟨e, he, rfl⟩ := Option.map_eq_some_iff.mp hi'
    refine nm 1 ?_
    rw [ha, eps, List.take_add_one, List.getElem?_map, he, List.map_append]
    rfl
  · intro acc _ ha
    rw [enD_len, show es.length = ps.length by rw [eps, List.length_map], List.take_length] at ha
    subst ha
    refine sds_frz 2 _ rfl ?_
    refine sds_cons (sd_own 3 nd rfl (fd_lst (ad_nil ⟨[], rfl, by simp, ?_⟩)))
    refine sds_cons (sd_forL (l := ps.map tI) PassesOwn.never rfl (fun i S' => ∃ o1 o4 o5 o6 o7, S' = [some (.val (Bo C CB z n es)), o1, some (.val (.lst (ps.map tI))), some (.own (((ps.take i).flatMap fun k => ps.flatMap fun o => ask2 z k o).map (askE z))), o4, o5, o6, o7, none]) (nm 2 ⟨rfl, none, none, none, none, none, rfl⟩) ?_ ?_)
    · rintro i d S' hi ⟨o1, o4, o5, o6, o7, rfl⟩
      rw [List.getElem?_map] at hi
      obtain ⟨k, hk, rfl⟩ := Option.map_eq_some_iff.mp hi
      have kl := kps k (List.mem_of_getElem? hk)
      refine gd_name 1 nd rfl ?_
      refine sds_cons (sd_forL (l := ps.map tI) PassesOwn.never rfl (fun j S' => ∃ o4 o5 o6 o7, S' = [some (.val (Bo C CB z n es)), some (.val (tI k)), some (.val (.lst (ps.map tI))), some (.own ((((ps.take i).flatMap fun k => ps.flatMap fun o => ask2 z k o) ++ (ps.take j).flatMap fun o => ask2 z k o).map (askE z))), o4, o5, o6, o7, none]) (nm 2 ⟨rfl, o4, o5, o6, o7, by simp⟩) ?_ ?_)
      · rintro j d S' hj ⟨o4, o5, o6, o7, rfl⟩
        rw [List.getElem?_map] at hj
        obtain ⟨o, ho, rfl⟩ := Option.map_eq_some_iff.mp hj
        have ol := kps o (List.mem_of_getElem? ho)
        refine gd_name 4 nd rfl ?_
        obtain ⟨L, eL⟩ : ∃ L, L = ((ps.take i).flatMap fun k => ps.flatMap fun o => ask2 z k o) ++ (ps.take j).flatMap fun o => ask2 z k o := ⟨_, rfl⟩
        have lL : L.length ≤ 60 * (60 * 8) + 60 * 8 := by
          have a2 : ∀ k o, (ask2 z k o).length ≤ 8 := fun k o => by
            rw [ask2, List.length_map]
            exact Nat.le_trans askTo_len l8
          have b1 : ((ps.take j).flatMap fun o => ask2 z k o).length ≤ 60 * 8 := Nat.le_trans (flat_leq fun o _ => a2 k o) (Nat.mul_le_mul_right _ (by rw [List.length_take]; omega))
          have b2 : ((ps.take i).flatMap fun k => ps.flatMap fun o => ask2 z k o).length ≤ 60 * (60 * 8) := Nat.le_trans (flat_leq (c := 60 * 8) fun k _ => Nat.le_trans (flat_leq fun o _ => a2 k o) (Nat.mul_le_mul_right _ lps)) (Nat.mul_le_mul_right _ (by rw [List.length_take]; omega))
          rw [eL, List.length_append]
          omega
        rw [← eL]
        refine sds_cons (sd_forZ3S (sx := SX.S z) (l' := k.map D.int) (l2 := o.map D.int) PassesOwn.never rfl hzip hz.asc (by rw [List.length_map, kl]; simp) (by rw [List.length_map, ol]; simp) (fun a S' => ∃ o5 o6 o7, S' = [some (.val (Bo C CB z n es)), some (.val (tI k)), some (.val (.lst (ps.map tI))), some (.own ((L ++ (askTo z k o a).map fun a => (k, o, a)).map (askE z))), some (.val (tI o)), o5, o6, o7, none]) (ad_cons (pL V (hr.mono (j := 2) (by decide)) hG (nm 0 ⟨rfl, ad_cons (nm 1 (ad_cons (nm 4 (ad_nil ⟨_, _, rfl, .inr rfl, .inr rfl, o5, o6, o7, by simp [askTo]⟩))))⟩))) ?_ ?_)
        · rintro a c0 d' d2 S' ha hd' hd2 ⟨o5, o6, o7, rfl⟩
          have ha' : z[a]? = some c0 := by simpa using ha
          have al := (List.getElem?_eq_some_iff.mp ha').1
          rw [gd_some (by omega)] at hd' hd2
          cases hd'
          cases hd2
          refine gd_tup rfl (gds_cons (gd_name 5 nd rfl (gds_cons (gd_name 6 nd rfl (gds_cons (gd_name 7 nd rfl (gds_nil ?_))))))) rfl
          have es : askTo z k o (a + 1) = askTo z k o a ++ if decide (o.getD a 0 < k.getD a 0) = true then [a] else [] := by
            unfold askTo
            rw [List.range_succ, List.filter_append]
            rw [List.filter_cons, List.filter_nil]
          have lt := @askTo_len z k o a
          refine sds_cons (sd_ifAny (fun v => v = decide (o.getD a 0 < k.getD a 0)) (td_cmp (nm 6 (nm 7 (od_gt (kB rfl))))) (fun e => ?_) (fun e => ?_))
          · rw [← e, if_pos rfl] at es
            refine sds_cons (sd_append 3 _ rfl rfl (by rw [List.length_map, List.length_append, List.length_map]; omega) (ed_tup (ad_cons (nm 1 (ad_cons (nm 4 (ad_cons (nm 5 (ad_nil ⟨[_, _, _], rfl, by simp, ?_⟩)))))))))
            refine sds_nil ?_
            refine sds_nil ?_
            refine ⟨some (.val (.str (sg c0))), some (.val (.int (k.getD a 0))), some (.val (.int (o.getD a 0))), ?_⟩
            have ez : askE z (k, o, a) = .tup [tI k, tI o, .str (sg c0)] := by
              unfold askE askD
              rw [List.getD_eq_getElem?_getD, ha']
              rfl
            have e1 : (L ++ (askTo z k o (a + 1)).map fun a => (k, o, a)).map (askE z) = (L ++ (askTo z k o a).map fun a => (k, o, a)).map (askE z) ++ [.tup [tI k, tI o, .str (sg c0)]] := by
              rw [es, List.map_append (l₁ := askTo z k o a), ← List.append_assoc, List.map_append (l₁ := L ++ _)]
              simp only [List.map_cons, List.map_nil, ez]
            rw [e1]
            rfl
          · rw [← e] at es
            refine sds_nil ?_
            refine sds_nil ?_
            refine ⟨some (.val (.str (sg c0))), some (.val (.int (k.getD a 0))), some (.val (.int (o.getD a 0))), ?_⟩
            rw [es]
            simp
        · rintro S' ⟨o5, o6, o7, rfl⟩
          refine sds_nil ⟨some (.val (tI o)), o5, o6, o7, ?_⟩
          rw [List.take_add_one, ho, List.flatMap_append, ← List.append_assoc, ← eL]
          simp [ask2]
      · rintro S' ⟨o4, o5, o6, o7, rfl⟩
        refine sds_nil ⟨some (.val (tI k)), o4, o5, o6, o7, ?_⟩
        rw [List.length_map, List.take_length, List.take_add_one, hk, List.flatMap_append]
        simp
    · rintro S' ⟨o1, o4, o5, o6, o7, rfl⟩
      rw [List.length_map, List.take_length]
      refine sds_frz 3 _ rfl ?_
      refine sds_cons (sd_ret (nm 3 ?_))
      rw [eps]
      exact q
end
end K25

set_option Elab.async false
set_option linter.all false
set_option maxRecDepth 100000
set_option maxHeartbeats 8000000
/-! k25: the misfit, exchanges -/
namespace K25
open PySem L2 DL
def msf (z : List Nat) (ps : List (List Int)) : Option (List Int × List Int × Nat) := (askAll z ps).find? fun t => decide (fmt ps t.1 t.2.1 t.2.2 = none)
def msfD (z : List Nat) : Option (List Int × List Int × Nat) → D
  | some t => askE z t
  | none => .non
theorem mem_ask {z : List Nat} {ps : List (List Int)} {t : List Int × List Int × Nat} (h : t ∈ askAll z ps) : t.1 ∈ ps ∧ t.2.1 ∈ ps ∧ t.2.2 < z.length ∧ t.2.1.getD t.2.2 0 < t.1.getD t.2.2 0 := by
  obtain ⟨k, hk, h⟩ := List.mem_flatMap.mp h
  obtain ⟨o, ho, h⟩ := List.mem_flatMap.mp h
  obtain ⟨a, ha, rfl⟩ := List.mem_map.mp h
  have ha' := List.mem_filter.mp ha
  exact ⟨hk, ho, List.mem_range.mp ha'.1, of_decide_eq_true ha'.2⟩
section
variable {P : Program} {w : World} {K : PySem.W.Frag} {mg : Str → Option Value} {base : Heap} {C CB : Addr}
abbrev spMf (C CB : Addr) : SpD := fun as Q => ∃ z, ∃ m n b : Nat, ∃ es, as = [.val (Bo C CB z n es)] ∧ LetZ z ∧ z.length = m ∧ GE m n b es ∧ es.length ≤ 60 ∧ Q (msfD z (msf z (es.map (·.1))))
abbrev NMf : List Str := ["blend", "products", "asked"]
theorem sc_mf : FnScope NMf ["blend"] (defScope (top 40)) := ⟨rfl, rfl, rfl, by decide +kernel, rfl, by decide +kernel, by decide +kernel⟩
theorem ok_mf {f : Addr} {fd : FuncData} (F : FunS K "misfit" "misfit" (top 40) f fd) (V : Bt P w K mg base C CB) (PD : Df P w K mg base "_products" 2 1 (spPds C CB)) (AA : Df P w K mg base "_all_asked" 3 1 (spAs C CB)) (FM : Df P w K mg base "_first_mate" 3 3 spFm) : GnOk P w K mg base 4 f fd ["blend"] (lift K (spMf C CB)) := by
  refine gn_dl F sc_mf (fun as Q h => by obtain ⟨_, _, _, _, _, rfl, _⟩ := h; rfl) (fun cdv A outer s H hr hG W as Q h => ?_)
  obtain ⟨z, m, n, b, es, rfl, hz, hm, ge, l60, q⟩ := h
  have nd := sc_mf.nd
  obtain ⟨ps, eps⟩ : ∃ ps, ps = es.map (·.1) := ⟨_, rfl⟩
  have kps : ∀ k ∈ ps, k.length = z.length := fun k hk => by
    rw [eps] at hk
    obtain ⟨e, he, rfl⟩ := List.mem_map.mp hk
    rw [ge.len e he, hm]
  refine sds_cons (sd_expr (ed_call V.ck (hr.mono (j := 1) (by decide)) hG (ad_cons (nm 0 (ad_nil ⟨z, n, es, rfl, ?_⟩)))))
  refine sds_cons (sd_set 1 nd rfl (ed_call PD (hr.mono (j := 2) (by decide)) hG (ad_cons (nm 0 (ad_nil ⟨z, m, n, b, es, rfl, ge, l60, ?_⟩)))))
  rw [← eps] at q ⊢
  refine sds_cons (sd_forL (l := (askAll z ps).map (askE z)) PassesOwn.never rfl (fun i S' => (∀ t ∈ (askAll z ps).take i, fmt ps t.1 t.2.1 t.2.2 ≠ none) ∧ ∃ o2, S' = [some (.val (Bo C CB z n es)), some (.val (.dcT (keysT ps))), o2]) (ed_call AA hr hG (ad_cons (nm 0 (ad_nil ⟨z, m, n, b, es, rfl, hz, hm, ge, l60, by rw [← eps]; exact ⟨rfl, nofun, none, rfl⟩⟩)))) ?_ ?_)
  · rintro i d S' hi ⟨no, o2, rfl⟩
    rw [List.getElem?_map] at hi
    obtain ⟨t, ht, rfl⟩ := Option.map_eq_some_iff.mp hi
    obtain ⟨m1, m2, m3, m4⟩ := mem_ask (List.mem_of_getElem? ht)
    refine gd_name 2 nd rfl ?_
    have ez : z[t.2.2]? = some (z.getD t.2.2 0) := by rw [List.getD_eq_getElem?_getD, List.getElem?_eq_getElem m3]; rfl
    refine sds_cons (sd_ifAny (fun v => v = decide (fmt ps t.1 t.2.1 t.2.2 = none)) (td_cmp (ed_call FM hr hG (ad_cons (pL V (hr.mono (j := 2) (by decide)) hG (nm 0 ⟨rfl, ad_cons (nm 1 (ad_cons (nm 2 (ad_nil ⟨z, ps, t.1, t.2.1, t.2.2, z.getD t.2.2 0, rfl, hz, kps _ m1, kps _ m2, ez, ed_non (od_isN (kB ?_))⟩))))⟩))))) (fun e => ?_) (fun e => ?_))
    · cases fmt ps t.1 t.2.1 t.2.2 <;> rfl
    · have e0 := of_decide_eq_true e.symm
      have em : msf z ps = some t := by
        unfold msf
        have hl := (List.getElem?_eq_some_iff.mp ht).1
        rw [List.find?_eq_some_iff_getElem]
        refine ⟨decide_eq_true e0, i, hl, (List.getElem?_eq_some_iff.mp ht).2, fun j hj => ?_⟩
        have := no ((askAll z ps)[j]'(by omega)) (by rw [List.mem_take_iff_getElem]; exact ⟨j, by omega, rfl⟩)
        simp [this]
      rw [em] at q
      exact sds_cons (sd_ret (nm 2 q))
    · have e0 : fmt ps t.1 t.2.1 t.2.2 ≠ none := of_decide_eq_false e.symm
      refine sds_nil (sds_nil ⟨fun t' h' => ?_, some (.val (askE z t)), rfl⟩)
      rw [List.take_add_one, ht] at h'
      rcases List.mem_append.mp h' with h' | h'
      · exact no t' h'
      · cases List.mem_singleton.mp h'
        exact e0
  · rintro S' ⟨no, o2, rfl⟩
    refine sds_cons (sd_ret (ed_non ?_))
    have em : msf z ps = none := by
      unfold msf
      rw [List.find?_eq_none]
      intro t ht
      have := no t (by rw [List.length_map, List.take_length]; exact ht)
      simp [this]
    rw [em] at q
    exact q
/-! exchanges -/
abbrev spEx (C CB : Addr) : SpD := fun as Q => ∃ z, ∃ m n b : Nat, ∃ es, as = [.val (Bo C CB z n es)] ∧ LetZ z ∧ z.length = m ∧ GE m n b es ∧ es.length ≤ 60 ∧ Q (.bl (msf z (es.map (·.1))).isNone)
theorem sc_ex : FnScope ["blend"] ["blend"] (defScope (top 39)) := ⟨rfl, rfl, rfl, by decide +kernel, rfl, by decide +kernel, by decide +kernel⟩
theorem ok_ex {f : Addr} {fd : FuncData} (F : FunS K "exchanges" "exchanges" (top 39) f fd) (MF : Df P w K mg base "misfit" 4 1 (spMf C CB)) : GnOk P w K mg base 5 f fd ["blend"] (lift K (spEx C CB)) := by
  refine gn_dl F sc_ex (fun as Q h => by obtain ⟨_, _, _, _, _, rfl, _⟩ := h; rfl) (fun cdv A outer s H hr hG W as Q h => ?_)
  obtain ⟨z, m, n, b, es, rfl, hz, hm, ge, l60, q⟩ := h
  refine sds_cons (sd_ret (ed_cmp (ed_call MF hr hG (ad_cons (nm 0 (ad_nil ⟨z, m, n, b, es, rfl, hz, hm, ge, l60, ed_non (od_isN ?_)⟩))))))
  cases h : msf z (es.map (·.1)) with
  | none => rw [h] at q; exact q
  | some t => rw [h] at q; exact q
end
end K25

set_option Elab.async false
set_option linter.all false
set_option maxRecDepth 100000
set_option maxHeartbeats 8000000
/-! k25: the law's own list of what is asked -/
namespace K25
open PySem L2 DL
def askI (t : List Int × List Int × Nat) : D := .tup [tI t.1, tI t.2.1, .int (t.2.2 : Int)]
/-- the same as ask2, by how long the counts are -/
def ask1 (k o : List Int) : List (List Int × List Int × Nat) := ((List.range k.length).filter fun a => decide (o.getD a 0 < k.getD a 0)).map fun a => (k, o, a)
def askL (ps : List (List Int)) : List (List Int × List Int × Nat) := ps.flatMap fun k => ps.flatMap fun o => ask1 k o
theorem flat_congr {α β : Type} {f g : α → List β} {l : List α} (h : ∀ a ∈ l, f a = g a) : l.flatMap f = l.flatMap g := by
  induction l with
  | nil => rfl
  | cons a l ih => rw [List.flatMap_cons, List.flatMap_cons, h a (List.mem_cons_self ..), ih fun b hb => h b (List.mem_cons_of_mem _ hb)]
theorem askL_eq {z : List Nat} {ps : List (List Int)} (h : ∀ k ∈ ps, k.length = z.length) : askL ps = askAll z ps := by
  unfold askL askAll
  refine flat_congr fun k hk => flat_congr fun o _ => ?_
  unfold ask1 ask2 askTo
  rw [h k hk]
section
variable {P : Program} {w : World} {K : PySem.W.Frag} {mg : Str → Option Value} {base : Heap} {C CB : Addr}
abbrev spLs : SpD := fun as Q => ∃ ps : List (List Int), ∃ m : Nat, as = [.val (.lst (ps.map tI))] ∧ (∀ k ∈ ps, k.length = m) ∧ m ≤ 8 ∧ ps.length ≤ 60 ∧ Q (.lst ((askL ps).map askI))
abbrev NLs : List Str := ["_law_products_here", "_law_found", "_law_counts_here", "_law_other", "_law_at"]
theorem sc_ls : FnScope NLs ["_law_products_here"] (defScope (top 64)) := ⟨rfl, rfl, rfl, by decide +kernel, rfl, by decide +kernel, by decide +kernel⟩
theorem ask1_len {k o : List Int} : (ask1 k o).length ≤ k.length := by
  unfold ask1
  rw [List.length_map]
  have := List.length_filter_le (fun a => decide (o.getD a 0 < k.getD a 0)) (List.range k.length)
  rw [List.length_range] at this
  exact this
theorem ok_ls {f : Addr} {fd : FuncData} (F : FunS K "_law_asked" "_law_asked" (top 64) f fd) (T : Txt K mg C) : GnOk P w K mg base 1 f fd ["_law_products_here"] (lift K spLs) := by
  refine gn_dl F sc_ls (fun as Q h => by obtain ⟨_, _, rfl, _⟩ := h; rfl) (fun cdv A outer s H hr hG W as Q h => ?_)
  obtain ⟨ps, m, rfl, kps, m8, lps, q⟩ := h
  have nd := sc_ls.nd
  refine sds_cons (sd_own 1 nd rfl (fd_lst (ad_nil ⟨[], rfl, by simp, ?_⟩)))
  refine sds_cons (sd_forL (l := ps.map tI) PassesOwn.never rfl (fun i S' => ∃ o2 o3, S' = [some (.val (.lst (ps.map tI))), some (.own (((ps.take i).flatMap fun k => ps.flatMap fun o => ask1 k o).map askI)), o2, o3, none]) (nm 0 ⟨rfl, none, none, rfl⟩) ?_ ?_)
  · rintro i d S' hi ⟨o2, o3, rfl⟩
    rw [List.getElem?_map] at hi
    obtain ⟨k, hk, rfl⟩ := Option.map_eq_some_iff.mp hi
    have kl := kps k (List.mem_of_getElem? hk)
    refine gd_name 2 nd rfl ?_
    refine sds_cons (sd_forL (l := ps.map tI) PassesOwn.never rfl (fun j S' => ∃ o3, S' = [some (.val (.lst (ps.map tI))), some (.own ((((ps.take i).flatMap fun k => ps.flatMap fun o => ask1 k o) ++ (ps.take j).flatMap fun o => ask1 k o).map askI)), some (.val (tI k)), o3, none]) (nm 0 ⟨rfl, o3, by simp⟩) ?_ ?_)
    · rintro j d S' hj ⟨o3, rfl⟩
      rw [List.getElem?_map] at hj
      obtain ⟨o, ho, rfl⟩ := Option.map_eq_some_iff.mp hj
      have ol := kps o (List.mem_of_getElem? ho)
      refine gd_name 3 nd rfl ?_
      obtain ⟨L, eL⟩ : ∃ L, L = ((ps.take i).flatMap fun k => ps.flatMap fun o => ask1 k o) ++ (ps.take j).flatMap fun o => ask1 k o := ⟨_, rfl⟩
      have lL : L.length ≤ 60 * (60 * 8) + 60 * 8 := by
        have a2 : ∀ k ∈ ps, ∀ o, (ask1 k o).length ≤ 8 := fun k hk o => Nat.le_trans ask1_len (by rw [kps k hk]; exact m8)
        have b1 : ((ps.take j).flatMap fun o => ask1 k o).length ≤ 60 * 8 := Nat.le_trans (flat_leq fun o _ => a2 k (List.mem_of_getElem? hk) o) (Nat.mul_le_mul_right _ (by rw [List.length_take]; omega))
        have b2 : ((ps.take i).flatMap fun k => ps.flatMap fun o => ask1 k o).length ≤ 60 * (60 * 8) := Nat.le_trans (flat_leq (c := 60 * 8) fun k hk' => Nat.le_trans (flat_leq fun o _ => a2 k (List.mem_of_mem_take hk') o) (Nat.mul_le_mul_right _ lps)) (Nat.mul_le_mul_right _ (by rw [List.length_take]; omega))
        rw [eL, List.length_append]
        omega
      have l1 := @ask1_len k o
      rw [← eL]
      refine sds_cons (sd_extend 1 _ rfl rfl (fd_ftR (n := k.length) (u := fun a => askI (k, o, a)) (t := fun a => decide (o.getD a 0 < k.getD a 0)) 4 rfl nd T.range (own := [("_law_at", 4)]) (blkOk_by (by show blkC NLs (defScope (top 64)) _ _ = true; decide +kernel)) (fun _ _ _ _ _ => pg_name (i := 4) nd rfl (Or.inl rfl)) (by simp) (by omega) (ad_cons (ed_callB T.len (ad_cons (nm 2 (ad_nil (cd_len (l := k.map D.int) (.inr rfl) (ad_nil (by rw [List.length_map]))))))))  ?_ ?_ ?_))
      · intro a ha s2 H0 C2 cl fp
        exact td_cmp (ed_ix (nm 2 (nm 4 ⟨k.map D.int, (a : Int), .int (k.getD a 0), .inr rfl, rfl, atI_nat (gd_some ha), ed_ix (nm 3 (nm 4 ⟨o.map D.int, (a : Int), .int (o.getD a 0), .inr rfl, rfl, atI_nat (gd_some (by omega)), od_gt (kB rfl)⟩))⟩)))
      · intro a ha _ s2 H0 C2 cl fp
        exact ed_tup (ad_cons (nm 2 (ad_cons (nm 3 (ad_cons (nm 4 (ad_nil ⟨[_, _, _], rfl, by simp, rfl⟩)))))))
      · have e1 : (((List.range k.length).filter fun a => decide (o.getD a 0 < k.getD a 0)).map fun a => askI (k, o, a)) = (ask1 k o).map askI := by
          unfold ask1
          rw [List.map_map]
          rfl
        rw [e1]
        refine ⟨by rw [List.length_map, List.length_map]; omega, sds_nil ⟨some (.val (tI o)), ?_⟩⟩
        rw [List.take_add_one, ho, List.flatMap_append, ← List.append_assoc, ← eL]
        simp
    · rintro S' ⟨o3, rfl⟩
      refine sds_nil ⟨some (.val (tI k)), o3, ?_⟩
      rw [List.length_map, List.take_length, List.take_add_one, hk, List.flatMap_append]
      simp
  · rintro S' ⟨o2, o3, rfl⟩
    rw [List.length_map, List.take_length]
    refine sds_frz 1 _ rfl ?_
    exact sds_cons (sd_ret (nm 1 q))
end
end K25

set_option Elab.async false
set_option linter.all false
set_option maxRecDepth 100000
set_option maxHeartbeats 8000000
/-! k25: whether each has a mate, as the law tells -/
namespace K25
open PySem L2 DL
theorem od_neNi {X : Cx} {Q : D → Prop} {l : List Int} (hu : X.A.units + 64 < cLine) (q : Q (.bl (!l.isEmpty))) : OD X (compareOp .NotEq) (.lst (l.map D.int)) (.lst []) Q := by
  refine od_ned hu (.lst (pyd_ints l)) (.lst .nil) (shaped_is l) rfl ?_
  cases l with
  | nil => exact q
  | cons a l => exact q
section
variable {P : Program} {w : World} {K : PySem.W.Frag} {mg : Str → Option Value} {base : Heap} {C CB : Addr}
abbrev spLx : SpD := fun as Q => ∃ ps : List (List Int), ∃ m : Nat, as = [.val (.lst (ps.map tI))] ∧ (∀ k ∈ ps, k.length = m) ∧ m ≤ 8 ∧ ps.length ≤ 60 ∧ Q (.bl ((askL ps).all fun t => !(mts ps t.1 t.2.1 t.2.2).isEmpty))
abbrev NLx : List Str := ["_law_products_here", "_law_counts_here", "_law_other", "_law_at"]
theorem sc_lx : FnScope NLx ["_law_products_here"] (defScope (top 65)) := ⟨rfl, rfl, rfl, by decide +kernel, rfl, by decide +kernel, by decide +kernel⟩
abbrev lblX (base : En) : D → En
  | .tup [a, b, c] => ((itE base [("_law_counts_here", 1), ("_law_other", 2), ("_law_at", 3)] 1 a).set 2 (some (.val b))).set 3 (some (.val c))
  | _ => []
theorem mem_askL {m : Nat} {ps : List (List Int)} (kps : ∀ k ∈ ps, k.length = m) {t : List Int × List Int × Nat} (h : t ∈ askL ps) : t.1 ∈ ps ∧ t.2.1 ∈ ps ∧ t.2.2 < t.1.length := by
  obtain ⟨k, hk, h⟩ := List.mem_flatMap.mp h
  obtain ⟨o, ho, h⟩ := List.mem_flatMap.mp h
  obtain ⟨a, ha, rfl⟩ := List.mem_map.mp h
  exact ⟨hk, ho, List.mem_range.mp (List.mem_filter.mp ha).1⟩
theorem askL_len {m : Nat} {ps : List (List Int)} (kps : ∀ k ∈ ps, k.length = m) (m8 : m ≤ 8) (lps : ps.length ≤ 60) : (askL ps).length ≤ 28800 := by
  have a2 : ∀ k ∈ ps, ∀ o, (ask1 k o).length ≤ 8 := fun k hk o => Nat.le_trans ask1_len (by rw [kps k hk]; exact m8)
  exact Nat.le_trans (flat_leq (c := 60 * 8) fun k hk => Nat.le_trans (flat_leq fun o _ => a2 k hk o) (Nat.mul_le_mul_right _ lps)) (Nat.mul_le_mul_right _ lps)
theorem ok_lx {f : Addr} {fd : FuncData} (F : FunS K "_law_exchanges" "_law_exchanges" (top 65) f fd) (T : Txt K mg C) (LS : Df P w K mg base "_law_asked" 1 1 spLs) (MT : Df P w K mg base "_law_mates" 2 4 spMt) : GnOk P w K mg base 3 f fd ["_law_products_here"] (lift K spLx) := by
  refine gn_dl F sc_lx (fun as Q h => by obtain ⟨_, _, rfl, _⟩ := h; rfl) (fun cdv A outer s H hr hG W as Q h => ?_)
  obtain ⟨ps, m, rfl, kps, m8, lps, q⟩ := h
  have nd := sc_lx.nd
  refine sds_cons (sd_ret (ed_callB T.all (ad_cons (ed_fd (fd_lcL (l := (askL ps).map askI) (fun i acc => acc = (((askL ps).take i).map fun t => !(mts ps t.1 t.2.1 t.2.2).isEmpty).map D.bl) (lblX [some (.val (.lst (ps.map tI))), none, none, none]) (g := gTup K 3 (gCons (gName 1) (gCons (gName 2) (gCons (gName 3) gNil)))) (own := [("_law_counts_here", 1), ("_law_other", 2), ("_law_at", 3)]) rfl nd (blkOk_by (by show blkC NLx (defScope (top 65)) _ _ = true; decide +kernel)) (fun _ _ _ _ _ => pg_tup rfl (pgs_cons (pg_name (i := 1) nd rfl (Or.inl rfl)) (pgs_cons (pg_name (i := 2) nd rfl (Or.inl rfl)) (pgs_cons (pg_name (i := 3) nd rfl (Or.inl rfl)) pgs_nil rfl) rfl) rfl)) (ed_call LS (hr.mono (j := 1) (by decide)) hG (ad_cons (nm 0 (ad_nil ⟨ps, m, rfl, kps, m8, lps, rfl, ?_, rfl⟩)))) ?_ ?_ ?_)))))
  · have := askL_len kps m8 lps
    rw [List.length_map]
    omega
  · intro d hd
    obtain ⟨t, _, rfl⟩ := List.mem_map.mp hd
    exact pat_three 1 2 3 (by simp) (by simp) (by simp)
  · intro i d acc hi _ ha s2 H0 C2 cl fp
    rw [List.getElem?_map] at hi
    obtain ⟨t, ht, rfl⟩ := Option.map_eq_some_iff.mp hi
    obtain ⟨m1, m2, m3⟩ := mem_askL kps (List.mem_of_getElem? ht)
    have k1 := kps _ m1
    have k2 := kps _ m2
    have e1 : ((mts ps t.1 t.2.1 t.2.2).map fun (b : Nat) => D.int (b : Int)) = ((mts ps t.1 t.2.1 t.2.2).map fun (b : Nat) => (b : Int)).map D.int := by
      rw [List.map_map]
      rfl
    refine ed_cmp (ed_call MT hr hG (ad_cons (nm 0 ?_)))
    refine ad_cons (nm 1 ?_)
    refine ad_cons (nm 2 ?_)
    refine ad_cons (nm 3 ?_)
    refine ad_nil ⟨ps, t.1, t.2.1, t.2.2, rfl, m3, by omega, by omega, ?_⟩
    refine ed_lst (ad_nil ⟨[], rfl, by simp, ?_⟩)
    rw [e1]
    refine od_neNi (un64 hr) ?_
    rw [List.isEmpty_map, ha, List.take_add_one, ht, List.map_append, List.map_append]
    rfl
  · intro acc _ ha
    rw [List.length_map, List.take_length] at ha
    rw [ha]
    refine ad_nil (cd_all rfl ?_)
    rw [List.all_map]
    exact q
end
/-- the program's misfit is none where the law finds a mate for each -/
theorem msf_ex {z : List Nat} {ps : List (List Int)} (h : ∀ k ∈ ps, k.length = z.length) : (msf z ps).isNone = (askL ps).all fun t => !(mts ps t.1 t.2.1 t.2.2).isEmpty := by
  rw [askL_eq h]
  unfold msf
  rw [Bool.eq_iff_iff, Option.isNone_iff_eq_none, List.find?_eq_none, List.all_eq_true]
  refine forall_congr' fun t => forall_congr' fun _ => ?_
  rw [decide_eq_true_eq, fmt_none]
  cases mts ps t.1 t.2.1 t.2.2 <;> simp
/-- the misfit is asked for and has no mate -/
theorem msf_some {z : List Nat} {ps : List (List Int)} {t : List Int × List Int × Nat} (h : msf z ps = some t) : t ∈ askAll z ps ∧ mts ps t.1 t.2.1 t.2.2 = [] := by
  have h1 := List.find?_some (p := fun t : List Int × List Int × Nat => decide (fmt ps t.1 t.2.1 t.2.2 = none)) h
  exact ⟨List.mem_of_find?_eq_some h, fmt_none.mp (of_decide_eq_true h1)⟩
end K25

set_option Elab.async false
set_option linter.all false
set_option maxRecDepth 100000
set_option maxHeartbeats 8000000
/-! k25: is_small_letter and is_letter_of of any value -/
namespace K25
open PySem L2 DL
/-- the small letter that a value is -/
def smV : D → Option Nat
  | .str s => match s.cps.toList with
    | [c] => if 97 ≤ c ∧ c ≤ 122 then some c else none
    | _ => none
  | _ => none
/-- a text, or what is told to be none -/
def StrOr (K : PySem.W.Frag) (v : D) : Prop := (∃ s : Str, v = .str s ∧ s.length ≤ 50000) ∨ ∃ t, TyD K v t ∧ PySem.W.kitOne K t (.type "str") = some false ∧ smV v = none
/-- the value is a letter of the text -/
def ltB (z : List Nat) (v : D) : Bool := match smV v with
  | some c => decide (c ∈ z)
  | none => false
section
variable {P : Program} {w : World} {K : PySem.W.Frag} {mg : Str → Option Value} {base : Heap} {C CB : Addr}
abbrev spSmA (K : PySem.W.Frag) : SpD := fun as Q => ∃ v, as = [.val v] ∧ StrOr K v ∧ Q (.bl (smV v).isSome)
theorem sg_of {s : Str} {c : Nat} (h : s.cps.toList = [c]) : s = sg c := by
  obtain ⟨cps⟩ := s
  obtain ⟨l⟩ := cps
  have : l = [c] := h
  subst this
  rfl
theorem ok_smA {f : Addr} {fd : FuncData} (F : FunS K "is_small_letter" "is_small_letter" (top 7) f fd) (T : Txt K mg C) : GnOk P w K mg base 1 f fd ["value"] (lift K (spSmA K)) := by
  refine gn_dl F sc_small (fun as Q h => by obtain ⟨_, rfl, _⟩ := h; rfl) (fun cdv A outer s H hr hG W as Q h => ?_)
  obtain ⟨v, rfl, hv, q⟩ := h
  rcases hv with ⟨s, rfl, l5⟩ | ⟨t, ht, ns, nv⟩
  · refine sds_cons (sd_ret (ed_and (ed_callB T.isi (ad_cons (nm 0 (ad_cons (ed_ty T.str (ad_nil (cd_isi (.str _) (.ty _) (same (by decide +kernel)) (kB ?_))))))))))
    show ED _ _ _ _ _
    refine ed_and (ed_cmp (ed_callB T.len (ad_cons (nm 0 (ad_nil (cd_lenS (z := s) l5 (ed_int (od_eqi (kB ?_)))))))))
    by_cases h1 : ∃ c, s.cps.toList = [c]
    · obtain ⟨c, hc⟩ := h1
      cases sg_of hc
      show ED _ _ _ _ _
      have e : (smV (.str (sg c))).isSome = (decide (97 ≤ c) && decide (c ≤ 122)) := by
        show (if 97 ≤ c ∧ c ≤ 122 then some c else none : Option Nat).isSome = _
        by_cases a : 97 ≤ c <;> by_cases b : c ≤ 122 <;> simp [a, b]
      rw [e] at q
      refine ed_one (ed_chain (ed_str (nm 0 (od_leS (kB ?_)))))
      by_cases a : 97 ≤ c
      · rw [decide_eq_false (fun z => by have := (lt1 (c := c) (d := 97)).mp z; omega)]
        show ED _ _ _ _ _
        refine ed_str (od_leS ?_)
        rw [decide_eq_true a, Bool.true_and] at q
        have : (!decide ((Str.ofString "z").cps.toList < (sg c).cps.toList)) = decide (c ≤ 122) := by
          by_cases b : c ≤ 122
          · rw [decide_eq_false (fun z => by have := (lt1 (c := 122) (d := c)).mp z; omega), decide_eq_true b]; rfl
          · have g1 : (Str.ofString "z").cps.toList < (sg c).cps.toList := (lt1 (c := 122) (d := c)).mpr (by omega)
            rw [decide_eq_true g1, decide_eq_false b]; rfl
        rw [this]
        exact q
      · have g1 : (sg c).cps.toList < (Str.ofString "a").cps.toList := (lt1 (c := c) (d := 97)).mpr (by omega)
        rw [decide_eq_true g1]
        rw [decide_eq_false a, Bool.false_and] at q
        exact q
    · have n1 : ¬ (s.length : Int) = 1 := fun e => h1 (by
        have e' : s.cps.toList.length = 1 := by
          have : s.length = s.cps.toList.length := rfl
          omega
        match hx : s.cps.toList, e' with
        | [c], _ => exact ⟨c, rfl⟩)
      have e : (smV (.str s)).isSome = false := by
        show (match s.cps.toList with | [c] => if 97 ≤ c ∧ c ≤ 122 then some c else none | _ => none : Option Nat).isSome = false
        split
        · rename_i c hx
          exact absurd ⟨c, hx⟩ h1
        · rfl
      rw [e] at q
      rw [decide_eq_false n1]
      exact q
  · rw [nv] at q
    refine sds_cons (sd_ret (ed_and (ed_callB T.isi (ad_cons (nm 0 (ad_cons (ed_ty T.str (ad_nil (cd_isi ht (.ty _) ns (kB ?_))))))))))
    exact q
/-! is_letter_of -/
abbrev spLO (K : PySem.W.Frag) (C CB : Addr) : SpD := fun as Q => ∃ z n es v, as = [.val (Bo C CB z n es), .val v] ∧ StrOr K v ∧ Q (.bl (ltB z v))
theorem sc_lo : FnScope ["blend", "value"] ["blend", "value"] (defScope (top 36)) := ⟨rfl, rfl, rfl, by decide +kernel, rfl, by decide +kernel, by decide +kernel⟩
theorem ok_lo {f : Addr} {fd : FuncData} (F : FunS K "is_letter_of" "is_letter_of" (top 36) f fd) (V : Bt P w K mg base C CB) (SM : Df P w K mg base "is_small_letter" 1 1 (spSmA K)) : GnOk P w K mg base 3 f fd ["blend", "value"] (lift K (spLO K C CB)) := by
  refine gn_dl F sc_lo (fun as Q h => by obtain ⟨_, _, _, _, rfl, _⟩ := h; rfl) (fun cdv A outer s H hr hG W as Q h => ?_)
  obtain ⟨z, n, es, v, rfl, hv, q⟩ := h
  refine sds_cons (sd_ret (ed_and (ed_call SM (hr.mono (j := 1) (by decide)) hG (ad_cons (nm 1 (ad_nil ⟨v, rfl, hv, kB ?_⟩))))))
  cases e : smV v with
  | none =>
    have : ltB z v = false := by unfold ltB; rw [e]
    rw [this] at q
    exact q
  | some c =>
    show ED _ _ _ _ _
    have e1 : ltB z v = decide (c ∈ z) := by unfold ltB; rw [e]
    have e2 : v = .str (sg c) := by
      unfold smV at e
      split at e
      · rename_i s
        split at e
        · rename_i c' hx
          split at e
          · cases e
            rw [sg_of hx]
          · cases e
        · cases e
      · cases e
    rw [e1] at q
    subst e2
    refine ed_one (ed_cmp (nm 1 (pL V (hr.mono (j := 2) (by decide)) hG (nm 0 ⟨rfl, od_inS ?_⟩))))
    exact q
end
end K25

set_option Elab.async false
set_option linter.all false
set_option maxRecDepth 100000
set_option maxHeartbeats 8000000
/-! k25: which letter the one has oftener than the other -/
namespace K25
open PySem L2 DL
/-- the place of the letter that a value is, where the one has it oftener -/
def otP (z : List Nat) (k o : List Int) (v : D) : Option Nat := match smV v with
  | some c => if c ∈ z ∧ o.getD (z.idxOf c) 0 < k.getD (z.idxOf c) 0 then some (z.idxOf c) else none
  | none => none
theorem smV_str {v : D} {c : Nat} (e : smV v = some c) : v = .str (sg c) := by
  unfold smV at e
  split at e
  · rename_i s
    split at e
    · rename_i c' hx
      split at e
      · cases e
        rw [sg_of hx]
      · cases e
    · cases e
  · cases e
theorem at_idx {z : List Nat} {c : Nat} (h : c ∈ z) : z[z.idxOf c]? = some c := by
  rw [List.getElem?_eq_getElem (List.idxOf_lt_length_iff.mpr h), List.getElem_idxOf]
section
variable {P : Program} {w : World} {K : PySem.W.Frag} {mg : Str → Option Value} {base : Heap} {C CB : Addr}
abbrev spOt (K : PySem.W.Frag) (C CB : Addr) : SpD := fun as Q => ∃ z n es v, ∃ dk d2 : D, ∃ k o : List Int, as = [.val (Bo C CB z n es), .val dk, .val d2, .val v] ∧ LetZ z ∧ SeqD dk (k.map D.int) ∧ SeqD d2 (o.map D.int) ∧ k.length = z.length ∧ o.length = z.length ∧ StrOr K v ∧ Q (.bl (otP z k o v).isSome)
abbrev NOt : List Str := ["blend", "counts", "other", "letter", "place"]
theorem sc_ot : FnScope NOt ["blend", "counts", "other", "letter"] (defScope (top 45)) := ⟨rfl, rfl, rfl, by decide +kernel, rfl, by decide +kernel, by decide +kernel⟩
theorem ok_ot {f : Addr} {fd : FuncData} (F : FunS K "_is_oftener" "_is_oftener" (top 45) f fd) (V : Bt P w K mg base C CB) (LO : Df P w K mg base "is_letter_of" 3 2 (spLO K C CB)) : GnOk P w K mg base 4 f fd ["blend", "counts", "other", "letter"] (lift K (spOt K C CB)) := by
  refine gn_dl F sc_ot (fun as Q h => by obtain ⟨_, _, _, _, _, _, _, _, rfl, _⟩ := h; rfl) (fun cdv A outer s H hr hG W as Q h => ?_)
  obtain ⟨z, n, es, v, dk, d2, k, o, rfl, hz, sk, so, lk, lo, hv, q⟩ := h
  have nd := sc_ot.nd
  refine sds_cons (sd_ifAny (fun b => b = !ltB z v) (td_not (td_val (ed_call LO (hr.mono (j := 3) (by decide)) hG (ad_cons (nm 0 (ad_cons (nm 3 (ad_nil ⟨z, n, es, v, rfl, hv, kB rfl⟩)))))))) (fun e => ?_) (fun e => ?_))
  · refine sds_cons (sd_ret (ed_bl ?_))
    have : otP z k o v = none := by
      unfold ltB at e
      unfold otP
      split
      · rename_i c hc
        rw [hc] at e
        have : ¬ c ∈ z := fun m => by simp [m] at e
        rw [if_neg (fun h => this h.1)]
      · rfl
    rw [this] at q
    exact q
  · obtain ⟨c, ec, cz⟩ : ∃ c, smV v = some c ∧ c ∈ z := by
      unfold ltB at e
      split at e
      · rename_i c hc
        exact ⟨c, hc, by simpa using e⟩
      · simp at e
    have ev := smV_str ec
    subst ev
    have la := List.idxOf_lt_length_iff.mpr cz
    have eo : (otP z k o (.str (sg c))).isSome = decide (o.getD (z.idxOf c) 0 < k.getD (z.idxOf c) 0) := by
      unfold otP
      rw [ec]
      by_cases h : o.getD (z.idxOf c) 0 < k.getD (z.idxOf c) 0
      · simp only [if_pos (And.intro cz h), decide_eq_true h]; rfl
      · simp only [if_neg (fun x : c ∈ z ∧ _ => h x.2), decide_eq_false h]; rfl
    rw [eo] at q
    refine sds_nil (sds_cons (sd_set 4 nd rfl (ed_index (s := SX.S z) (pL V (hr.mono (j := 2) (by decide)) hG (nm 0 ⟨rfl, rfl, nm 3 ⟨sg c, z.idxOf c, rfl, ix_of hz (at_idx cz), ?_⟩⟩)))))
    exact sds_cons (sd_ret (ed_cmp (ed_ix (nm 1 (nm 4 ⟨k.map D.int, (z.idxOf c : Int), .int (k.getD (z.idxOf c) 0), sk, rfl, atI_nat (gd_some (by omega)), ed_ix (nm 2 (nm 4 ⟨o.map D.int, (z.idxOf c : Int), .int (o.getD (z.idxOf c) 0), so, rfl, atI_nat (gd_some (by omega)), od_gt q⟩))⟩)))))
end
end K25

set_option Elab.async false
set_option linter.all false
set_option maxRecDepth 100000
set_option maxHeartbeats 8000000
/-! k25: is_list and is_counts of any value -/
namespace K25
open PySem L2 DL
def isL : D → Bool
  | .lst _ => true
  | .tup _ => true
  | _ => false
/-- the counts that a value is -/
def ctB (m : Nat) : D → Bool
  | .lst l => decide (l.length = m) && (l.map isC).all id
  | .tup l => decide (l.length = m) && (l.map isC).all id
  | _ => false
/-- of the kinds of Kn, or {} -/
def KnE (C : Addr) (d : D) : Prop := Kn C d ∨ d = .dcK []
/-- a value of any kind, and those in it -/
def KnI (C : Addr) (d : D) : Prop := KnE C d ∧ ∀ l, SeqD d l → (∀ x ∈ l, Kn C x) ∧ l.length ≤ 50000
section
variable {P : Program} {w : World} {K : PySem.W.Frag} {mg : Str → Option Value} {base : Heap} {C CB : Addr}
abbrev spLA (C : Addr) : SpD := fun as Q => ∃ d, as = [.val d] ∧ KnE C d ∧ Q (.bl (isL d))
theorem ok_islA {f : Addr} {fd : FuncData} (F : FunS K "is_list" "is_list" sIsList f fd) (T : Txt K mg C) : GnOk P w K mg base 1 f fd ["value"] (lift K (spLA C)) := by
  refine gn_dl F sc_islist (fun as Q h => by obtain ⟨d, rfl, _⟩ := h; rfl) (fun cdv A outer s H hr hG W as Q h => ?_)
  obtain ⟨d, rfl, hd, q⟩ := h
  refine sds_cons (sd_ret (ed_callB T.isi (ad_cons (nm 0 (ad_cons (ed_tup (ad_cons (ed_ty T.list (ad_cons (ed_ty T.tuple (ad_nil ⟨[.ty "list", .ty "tuple"], rfl, by decide, ad_nil ?_⟩)))))))))))
  rcases hd with hd | rfl
  rotate_left
  · exact cd_isi2 (.dcK _) (.ty _) (.ty _) (T.l0 _ (by simp)) q
  cases hd with
  | non => exact cd_isi2 .non (.ty _) (.ty _) (T.l0 _ (by simp)) q
  | bl b => exact cd_isi2 (.bl b) (.ty _) (.ty _) (T.l0 _ (by simp)) q
  | int i => exact cd_isi2 (.int i) (.ty _) (.ty _) (T.l0 _ (by simp)) q
  | str s => exact cd_isi2 (.str s) (.ty _) (.ty _) (T.l0 _ (by simp)) q
  | dct => exact cd_isi2 .dct (.ty _) (.ty _) (T.l0 _ (by simp)) q
  | tup l => exact cd_isi2 (.tup l) (.ty _) (.ty _) T.l2 q
  | lst l => exact cd_isi2 (.lst l) (.ty _) (.ty _) T.l1 q
  | rat p => exact cd_isi2 (.obj _ T.is) (.ty _) (.ty _) T.l3 q
abbrev spCtA (C : Addr) : SpD := fun as Q => ∃ d, ∃ m : Nat, as = [.val d, .val (.int (m : Int))] ∧ KnI C d ∧ Q (.bl (ctB m d))
theorem ok_ctA {f : Addr} {fd : FuncData} (F : FunS K "is_counts" "is_counts" (top 6) f fd) (T : Txt K mg C) (L : Df P w K mg base "is_list" 1 1 (spLA C)) (G : Df P w K mg base "is_count" 2 1 (spB C isC)) : GnOk P w K mg base 3 f fd ["value", "many"] (lift K (spCtA C)) := by
  refine gn_dl F sc_counts (fun as Q h => by obtain ⟨_, _, rfl, _⟩ := h; rfl) (fun cdv A outer s H hr hG W as Q h => ?_)
  obtain ⟨d, m, rfl, ⟨kd, ki⟩, q⟩ := h
  have nd := sc_counts.nd
  refine sds_cons (sd_ret (ed_and (ed_call L (hr.mono (j := 1) (by decide)) hG (ad_cons (nm 0 (ad_nil ⟨d, rfl, kd, kB ?_⟩))))))
  by_cases hl : ∃ l, SeqD d l
  · obtain ⟨l, sd⟩ := hl
    obtain ⟨kx, l5⟩ := ki l sd
    have e : ctB m d = (decide (l.length = m) && (l.map isC).all id) := by rcases sd with rfl | rfl <;> rfl
    have e1 : isL d = true := by rcases sd with rfl | rfl <;> rfl
    rw [e] at q
    rw [e1]
    show ED _ _ _ _ _
    refine ed_and (ed_cmp (ed_callB T.len (ad_cons (nm 0 (ad_nil (cd_len sd (nm 1 (od_eqi (kB ?_)))))))))
    by_cases hm : l.length = m
    · rw [decide_eq_true hm, Bool.true_and] at q
      rw [decide_eq_true (by rw [hm])]
      show ED _ _ _ _ _
      refine ed_one (ed_callB T.all (ad_cons (ed_fd (fd_mp (f := fun x : D => x) (u := fun x => .bl (isC x)) (l := l) 2 (own := [("count", 2)]) rfl nd (blkOk_by (by show blkC ["value", "many", "count"] (defScope (top 6)) _ _ = true; decide +kernel)) (fun _ _ _ _ _ => pg_name (i := 2) nd rfl (Or.inl rfl)) (by simp) l5 (by rw [List.map_id']; exact sd) (nm 0 rfl) ?_ ?_))))
      · intro x hx s2 H0 C2 cl fp
        exact ed_call G (hr.mono (j := 2) (by decide)) hG (ad_cons (nm 2 (ad_nil ⟨x, rfl, kx x hx, rfl⟩)))
      · rw [show (l.map fun x => D.bl (isC x)) = (l.map isC).map D.bl by rw [List.map_map]; rfl]
        exact ad_nil (cd_all rfl q)
    · rw [decide_eq_false hm, Bool.false_and] at q
      rw [decide_eq_false (fun z => hm (by omega))]
      exact q
  · have e : ctB m d = false ∧ isL d = false := by
      cases d with
      | lst l => exact absurd ⟨l, .inl rfl⟩ hl
      | tup l => exact absurd ⟨l, .inr rfl⟩ hl
      | _ => exact ⟨rfl, rfl⟩
    rw [e.1] at q
    rw [e.2]
    exact q
end
end K25

set_option Elab.async false
set_option linter.all false
set_option maxRecDepth 100000
set_option maxHeartbeats 8000000
/-! k25: is_product_of any value -/
namespace K25
open PySem L2 DL
def itemsD : D → List D
  | .lst l => l
  | .tup l => l
  | _ => []
def toI : D → Int
  | .int i => i
  | _ => 0
/-- the counts that a value is told to be -/
def cnts (d : D) : List Int := (itemsD d).map toI
def prB (m : Nat) (ps : List (List Int)) (d : D) : Bool := ctB m d && decide (cnts d ∈ ps)
theorem isC_int {d : D} (h : isC d = true) : ∃ i : Int, d = .int i ∧ 0 ≤ i := by
  cases d with
  | int i => exact ⟨i, rfl, of_decide_eq_true h⟩
  | _ => exact absurd h Bool.false_ne_true
theorem all_ints : ∀ {l : List D}, (l.map isC).all id = true → l = (l.map toI).map D.int ∧ ∀ c ∈ l.map toI, (0 : Int) ≤ c
  | [], _ => ⟨rfl, nofun⟩
  | d :: l, h => by
    rw [List.map_cons, List.all_cons, Bool.and_eq_true] at h
    obtain ⟨i, rfl, h0⟩ := isC_int h.1
    obtain ⟨e, h1⟩ := all_ints h.2
    refine ⟨by rw [List.map_cons, List.map_cons, ← e]; rfl, fun c hc => ?_⟩
    rcases List.mem_cons.mp hc with rfl | hc
    · exact h0
    · exact h1 c hc
/-- what is told to be counts is a list of counts -/
theorem ctB_seq {m : Nat} {d : D} (h : ctB m d = true) : SeqD d ((cnts d).map D.int) ∧ (cnts d).length = m ∧ ∀ c ∈ cnts d, (0 : Int) ≤ c := by
  have key : ∀ l : List D, (decide (l.length = m) && (l.map isC).all id) = true → l = (l.map toI).map D.int ∧ (l.map toI).length = m ∧ ∀ c ∈ l.map toI, (0 : Int) ≤ c := fun l h => by
    rw [Bool.and_eq_true] at h
    obtain ⟨e, h1⟩ := all_ints h.2
    exact ⟨e, by rw [List.length_map]; exact of_decide_eq_true h.1, h1⟩
  cases d with
  | lst l =>
    obtain ⟨e, h1, h2⟩ := key l h
    exact ⟨.inl (by show D.lst l = .lst ((l.map toI).map D.int); rw [← e]), h1, h2⟩
  | tup l =>
    obtain ⟨e, h1, h2⟩ := key l h
    exact ⟨.inr (by show D.tup l = .tup ((l.map toI).map D.int); rw [← e]), h1, h2⟩
  | _ => exact absurd h Bool.false_ne_true
theorem amt_pos {es : List Ent} (pos : ∀ e ∈ es, 0 < e.2) (k : List Int) : decide (sgF (fr (amt es k)) > 0) = decide (k ∈ es.map (·.1)) := by
  unfold amt
  cases h : es.find? fun e => decide (e.1 = k) with
  | none =>
    rw [List.find?_eq_none] at h
    have n1 : ¬ k ∈ es.map (·.1) := fun m => by
      obtain ⟨e, he, ee⟩ := List.mem_map.mp m
      exact h e he (decide_eq_true ee)
    rw [decide_eq_false n1]
    rfl
  | some e =>
    have he := List.mem_of_find?_eq_some h
    have ek : e.1 = k := of_decide_eq_true (List.find?_some (p := fun e : Ent => decide (e.1 = k)) h)
    rw [decide_eq_true (List.mem_map.mpr ⟨e, he, ek⟩)]
    show decide (sgF (fr e.2) > 0) = true
    rw [sg_pos (pos e he)]
    rfl
section
variable {P : Program} {w : World} {K : PySem.W.Frag} {mg : Str → Option Value} {base : Heap} {C CB : Addr}
abbrev spPO (C CB : Addr) : SpD := fun as Q => ∃ z n es d, as = [.val (Bo C CB z n es), .val d] ∧ z.length ≤ 8 ∧ (∀ e ∈ es, (0 : Rat) < e.2) ∧ KnI C d ∧ Q (.bl (prB z.length (es.map (·.1)) d))
theorem sc_po : FnScope ["blend", "value"] ["blend", "value"] (defScope (top 37)) := ⟨rfl, rfl, rfl, by decide +kernel, rfl, by decide +kernel, by decide +kernel⟩
theorem ok_po {f : Addr} {fd : FuncData} (F : FunS K "is_product_of" "is_product_of" (top 37) f fd) (V : Bt P w K mg base C CB) (CT : Df P w K mg base "is_counts" 3 2 (spCtA C)) (AM : Mt P w K mg base CB "amount" 4 (spAmount C CB)) (G : Pr P w K mg base C "sign" 1 (sp1 C fun p => .int (sgF p))) : GnOk P w K mg base 5 f fd ["blend", "value"] (lift K (spPO C CB)) := by
  refine gn_dl F sc_po (fun as Q h => by obtain ⟨_, _, _, _, rfl, _⟩ := h; rfl) (fun cdv A outer s H hr hG W as Q h => ?_)
  obtain ⟨z, n, es, d, rfl, h8, pos, kd, q⟩ := h
  have T := V.T
  have hz : ((SX.S z).length : Int) = (z.length : Int) := by rw [SX.S_len]
  refine sds_cons (sd_ret (ed_and (ed_call CT (hr.mono (j := 3) (by decide)) hG (ad_cons (nm 1 (ad_cons (ed_callB T.T.len (ad_cons (pL V (hr.mono (j := 2) (by decide)) hG (nm 0 ⟨rfl, ad_nil (cd_lenS (z := SX.S z) (by rw [SX.S_len]; omega) (ad_nil ⟨d, z.length, by rw [hz], kd, kB ?_⟩))⟩))))))))))
  cases hc : ctB z.length d with
  | false =>
    have : prB z.length (es.map (·.1)) d = false := by unfold prB; rw [hc]; rfl
    rw [this] at q
    exact q
  | true =>
    show ED _ _ _ _ _
    obtain ⟨sd, hl, nn⟩ := ctB_seq hc
    refine ed_one (ed_cmp (pS T.T G (hr.mono (j := 2) (by decide)) hG (ed_meth T.nu.cl AM hr hG (nm 0 ⟨bf C z n es, rfl, lkN (by decide +kernel) (by decide +kernel) (by decide +kernel), ad_cons (nm 1 (ad_nil ⟨z, n, es, d, cnts d, rfl, sd, hl, h8, nn, rfl, ?_⟩))⟩))))
    refine ed_int (od_gt ?_)
    rw [amt_pos pos]
    unfold prB at q
    rw [hc, Bool.true_and] at q
    exact q
end
end K25

set_option Elab.async false
set_option linter.all false
set_option maxRecDepth 100000
set_option maxHeartbeats 8000000
/-! k25: _is_asked any value -/
namespace K25
open PySem L2 DL
/-- the place of what is asked, where a value asks -/
def asP (z : List Nat) (ps : List (List Int)) : D → Option Nat
  | .tup [a, b, c] => if prB z.length ps a = true ∧ prB z.length ps b = true then otP z (cnts a) (cnts b) c else none
  | _ => none
def isT : D → Bool
  | .tup _ => true
  | _ => false
/-- a value that may ask: its kind, and the kinds of those in it -/
structure AskV (K : PySem.W.Frag) (C : Addr) (v : D) : Prop where
  ty : ∃ t, TyD K v t ∧ PySem.W.kitOne K t (.type "tuple") = some (isT v)
  len : ∀ l, v = .tup l → l.length ≤ 50000
  three : ∀ a b c, v = .tup [a, b, c] → KnI C a ∧ KnI C b ∧ StrOr K c
section
variable {P : Program} {w : World} {K : PySem.W.Frag} {mg : Str → Option Value} {base : Heap} {C CB : Addr}
abbrev spAk (K : PySem.W.Frag) (C CB : Addr) : SpD := fun as Q => ∃ z n es v, as = [.val (Bo C CB z n es), .val v] ∧ LetZ z ∧ (∀ e ∈ es, (0 : Rat) < e.2) ∧ (∀ e ∈ es, e.1.length = z.length) ∧ AskV K C v ∧ Q (.bl (asP z (es.map (·.1)) v).isSome)
abbrev NAk : List Str := ["blend", "value", "counts", "other", "letter"]
theorem sc_ak : FnScope NAk ["blend", "value"] (defScope (top 44)) := ⟨rfl, rfl, rfl, by decide +kernel, rfl, by decide +kernel, by decide +kernel⟩
theorem prB_cnt {m : Nat} {ps : List (List Int)} {d : D} (h : prB m ps d = true) : SeqD d ((cnts d).map D.int) ∧ (cnts d).length = m ∧ cnts d ∈ ps := by
  unfold prB at h
  rw [Bool.and_eq_true] at h
  obtain ⟨a, b, _⟩ := ctB_seq h.1
  exact ⟨a, b, of_decide_eq_true h.2⟩
theorem ok_ak {f : Addr} {fd : FuncData} (F : FunS K "_is_asked" "_is_asked" (top 44) f fd) (V : Bt P w K mg base C CB) (PR : Df P w K mg base "is_product_of" 5 2 (spPO C CB)) (OT : Df P w K mg base "_is_oftener" 4 4 (spOt K C CB)) : GnOk P w K mg base 6 f fd ["blend", "value"] (lift K (spAk K C CB)) := by
  refine gn_dl F sc_ak (fun as Q h => by obtain ⟨_, _, _, _, rfl, _⟩ := h; rfl) (fun cdv A outer s H hr hG W as Q h => ?_)
  obtain ⟨z, n, es, v, rfl, hz, pos, kz, av, q⟩ := h
  have nd := sc_ak.nd
  have T := V.T.T
  have l8 := hz.l8
  obtain ⟨t, ht, kt⟩ := av.ty
  by_cases h3 : ∃ a b c, v = .tup [a, b, c]
  · obtain ⟨a, b, c, rfl⟩ := h3
    obtain ⟨ka, kb, kc⟩ := av.three a b c rfl
    refine sds_cons (sd_if (td_of (tw_or (td_not (td_val (ed_callB T.isi (ad_cons (nm 1 (ad_cons (ed_ty T.tuple (ad_nil (cd_isi ht (.ty _) kt (kB ?_)))))))))))))
    show TW _ _ _ _ _
    refine tw_or1 (td_cmp (ed_callB T.len (ad_cons (nm 1 (ad_nil (cd_len (l := [a, b, c]) (.inr rfl) (ed_int (od_nei (kB ?_)))))))))
    show SDs _ _ _ _ _ _
    refine sds_nil (sds_cons (sd_asg (nm 1 (gd_tup rfl (gds_cons (gd_name 2 nd rfl (gds_cons (gd_name 3 nd rfl (gds_cons (gd_name 4 nd rfl (gds_nil ?_))))))) rfl))))
    refine sds_cons (sd_ifAny (fun x => x = !(prB z.length (es.map (·.1)) a && prB z.length (es.map (·.1)) b)) (td_of (tw_or (td_not (td_val (ed_call PR hr hG (ad_cons (nm 0 (ad_cons (nm 2 (ad_nil ⟨z, n, es, a, rfl, l8, pos, ka, kB ?_⟩)))))))))) (fun e => ?_) (fun e => ?_))
    · cases ha : prB z.length (es.map (·.1)) a with
      | false => rfl
      | true =>
        show TW _ _ _ _ _
        refine tw_or1 (td_not (td_val (ed_call PR hr hG (ad_cons (nm 0 (ad_cons (nm 3 (ad_nil ⟨z, n, es, b, rfl, l8, pos, kb, kB ?_⟩))))))))
        rfl
    · have en : asP z (es.map (·.1)) (.tup [a, b, c]) = none := by
        exact if_neg (fun x : prB z.length (es.map (·.1)) a = true ∧ prB z.length (es.map (·.1)) b = true => by rw [x.1, x.2] at e; cases e)
      rw [en] at q
      exact sds_cons (sd_ret (ed_bl q))
    · have e' : prB z.length (es.map (·.1)) a = true ∧ prB z.length (es.map (·.1)) b = true := by
        rw [← Bool.and_eq_true]
        cases x : (prB z.length (es.map (·.1)) a && prB z.length (es.map (·.1)) b) with
        | true => rfl
        | false => rw [x] at e; cases e
      have en : asP z (es.map (·.1)) (.tup [a, b, c]) = otP z (cnts a) (cnts b) c := by
        exact if_pos e'
      rw [en] at q
      obtain ⟨s1, l1, _⟩ := prB_cnt e'.1
      obtain ⟨s2, l2, _⟩ := prB_cnt e'.2
      exact sds_nil (sds_cons (sd_ret (ed_call OT (hr.mono (j := 4) (by decide)) hG (ad_cons (nm 0 (ad_cons (nm 2 (ad_cons (nm 3 (ad_cons (nm 4 (ad_nil ⟨z, n, es, c, a, b, cnts a, cnts b, rfl, hz, s1, s2, l1, l2, kc, q⟩))))))))))))
  · have en : asP z (es.map (·.1)) v = none := by
      unfold asP
      split
      · exact absurd ⟨_, _, _, rfl⟩ h3
      · rfl
    rw [en] at q
    refine sds_cons (sd_ifAny (fun x => x = true) (td_of (tw_or (td_not (td_val (ed_callB T.isi (ad_cons (nm 1 (ad_cons (ed_ty T.tuple (ad_nil (cd_isi ht (.ty _) kt (kB ?_))))))))))) ) (fun _ => sds_cons (sd_ret (ed_bl q))) (fun e => by cases e))
    by_cases hl : ∃ l, v = .tup l
    · obtain ⟨l, rfl⟩ := hl
      have l5 := av.len l rfl
      show TW _ _ _ _ _
      refine tw_or1 (td_cmp (ed_callB T.len (ad_cons (nm 1 (ad_nil (cd_len (l := l) (.inr rfl) (ed_int (od_nei (kB ?_)))))))))
      have : ¬ (l.length : Int) = 3 := fun e => h3 (by
        have e' : l.length = 3 := by omega
        match l, e' with
        | [a, b, c], _ => exact ⟨a, b, c, rfl⟩)
      rw [decide_eq_false this]
      rfl
    · have : isT v = false := by
        cases v with
        | tup l => exact absurd ⟨l, rfl⟩ hl
        | _ => rfl
      rw [this]
      rfl
end
end K25

set_option Elab.async false
set_option linter.all false
set_option maxRecDepth 100000
set_option maxHeartbeats 8000000
/-! k25: is_misfit any value -/
namespace K25
open PySem L2 DL
/-- whether a value is a misfit -/
def msB (z : List Nat) (ps : List (List Int)) (v : D) : Bool := match asP z ps v with
  | some p => decide (fmt ps (cnts ((itemsD v).getD 0 .non)) (cnts ((itemsD v).getD 1 .non)) p = none)
  | none => false
theorem otP_some {z : List Nat} {k o : List Int} {v : D} {p : Nat} (h : otP z k o v = some p) : ∃ c, v = .str (sg c) ∧ z[p]? = some c := by
  unfold otP at h
  split at h
  · rename_i c hc
    split at h
    · rename_i hx
      cases h
      exact ⟨c, smV_str hc, at_idx hx.1⟩
    · cases h
  · cases h
theorem asP_some {z : List Nat} {ps : List (List Int)} {v : D} {p : Nat} (h : asP z ps v = some p) : ∃ a b c, v = .tup [a, b, .str (sg c)] ∧ prB z.length ps a = true ∧ prB z.length ps b = true ∧ z[p]? = some c := by
  unfold asP at h
  split at h
  · rename_i a b c
    split at h
    · rename_i hx
      obtain ⟨c', rfl, hc⟩ := otP_some h
      exact ⟨a, b, c', rfl, hx.1, hx.2, hc⟩
    · cases h
  · cases h
section
variable {P : Program} {w : World} {K : PySem.W.Frag} {mg : Str → Option Value} {base : Heap} {C CB : Addr}
abbrev spIm (K : PySem.W.Frag) (C CB : Addr) : SpD := fun as Q => ∃ z, ∃ n b : Nat, ∃ es v, as = [.val (Bo C CB z n es), .val v] ∧ LetZ z ∧ GE z.length n b es ∧ es.length ≤ 60 ∧ AskV K C v ∧ Q (.bl (msB z (es.map (·.1)) v))
abbrev NIm : List Str := ["blend", "value", "counts", "other", "letter"]
theorem sc_im : FnScope NIm ["blend", "value"] (defScope (top 41)) := ⟨rfl, rfl, rfl, by decide +kernel, rfl, by decide +kernel, by decide +kernel⟩
theorem ok_im {f : Addr} {fd : FuncData} (F : FunS K "is_misfit" "is_misfit" (top 41) f fd) (V : Bt P w K mg base C CB) (AK : Df P w K mg base "_is_asked" 6 2 (spAk K C CB)) (PD : Df P w K mg base "_products" 2 1 (spPds C CB)) (FM : Df P w K mg base "_first_mate" 3 3 spFm) : GnOk P w K mg base 7 f fd ["blend", "value"] (lift K (spIm K C CB)) := by
  refine gn_dl F sc_im (fun as Q h => by obtain ⟨_, _, _, _, _, rfl, _⟩ := h; rfl) (fun cdv A outer s H hr hG W as Q h => ?_)
  obtain ⟨z, n, b, es, v, rfl, hz, ge, l60, av, q⟩ := h
  have nd := sc_im.nd
  have T := V.T.T
  refine sds_cons (sd_expr (ed_call V.ck (hr.mono (j := 1) (by decide)) hG (ad_cons (nm 0 (ad_nil ⟨z, n, es, rfl, ?_⟩)))))
  refine sds_cons (sd_ifAny (fun x => x = !(asP z (es.map (·.1)) v).isSome) (td_not (td_val (ed_call AK hr hG (ad_cons (nm 0 (ad_cons (nm 1 (ad_nil ⟨z, n, es, v, rfl, hz, ge.pos, ge.len, av, kB rfl⟩)))))))) (fun e => ?_) (fun e => ?_))
  · have : msB z (es.map (·.1)) v = false := by
      unfold msB
      cases x : asP z (es.map (·.1)) v with
      | none => rfl
      | some p => rw [x] at e; cases e
    rw [this] at q
    exact sds_cons (sd_ret (ed_bl q))
  · cases x : asP z (es.map (·.1)) v with
    | none => rw [x] at e; cases e
    | some p =>
      obtain ⟨a, b', c, rfl, pa, pb, hc⟩ := asP_some x
      have em : msB z (es.map (·.1)) (.tup [a, b', .str (sg c)]) = decide (fmt (es.map (·.1)) (cnts a) (cnts b') p = none) := by
        unfold msB
        rw [x]
        rfl
      rw [em] at q
      obtain ⟨s1, l1, _⟩ := prB_cnt pa
      obtain ⟨s2, l2, _⟩ := prB_cnt pb
      refine sds_nil (sds_cons (sd_asg (nm 1 (gd_tup rfl (gds_cons (gd_name 2 nd rfl (gds_cons (gd_name 3 nd rfl (gds_cons (gd_name 4 nd rfl (gds_nil ?_))))))) rfl))))
      refine sds_cons (sd_ret (ed_cmp (ed_call FM (hr.mono (j := 3) (by decide)) hG (ad_cons (pL V (hr.mono (j := 2) (by decide)) hG (nm 0 ⟨rfl, ?_⟩))))))
      refine ad_cons (ed_call PD (hr.mono (j := 2) (by decide)) hG (ad_cons (nm 0 (ad_nil ⟨z, z.length, n, b, es, rfl, ge, l60, ?_⟩))))
      refine ad_cons (ed_tup ?_)
      refine ad_cons (ed_callTy T.tuple (ad_cons (nm 2 (ad_nil (cd_tupleS s1 ?_)))))
      refine ad_cons (ed_callTy T.tuple (ad_cons (nm 3 (ad_nil (cd_tupleS s2 ?_)))))
      refine ad_cons (nm 4 ?_)
      refine ad_nil ⟨[_, _, _], rfl, by simp, ?_⟩
      refine ad_nil ⟨z, es.map (·.1), cnts a, cnts b', p, c, rfl, hz, l1, l2, hc, ?_⟩
      refine ed_non (od_isN ?_)
      cases h : fmt (es.map (·.1)) (cnts a) (cnts b') p with
      | none => rw [h] at q; exact q
      | some t => rw [h] at q; exact q
end
end K25

set_option Elab.async false
set_option linter.all false
set_option maxRecDepth 100000
set_option maxHeartbeats 8000000
/-! k25: the law's product that a value is -/
namespace K25
open PySem L2 DL
/-- all that is in the value is whole numbers -/
def lpB (d : D) : Bool := isL d && ((itemsD d).map isI).all id
def lpD (ps : List (List Int)) (d : D) : D := if lpB d && decide (cnts d ∈ ps) then tI (cnts d) else .non
theorem all_isI : ∀ {l : List D}, (l.map isI).all id = true → l = (l.map toI).map D.int
  | [], _ => rfl
  | d :: l, h => by
    rw [List.map_cons, List.all_cons, Bool.and_eq_true] at h
    have e := all_isI h.2
    obtain ⟨i, rfl⟩ : ∃ i, d = .int i := by
      cases d with
      | int i => exact ⟨i, rfl⟩
      | _ => exact absurd h.1 Bool.false_ne_true
    rw [List.map_cons, List.map_cons, ← e]
    rfl
theorem isC_of {l : List Int} (h : ∀ c ∈ l, (0 : Int) ≤ c) : ((l.map D.int).map isC).all id = true := by
  rw [List.map_map, List.all_map, List.all_eq_true]
  intro c hc
  exact decide_eq_true (h c hc)
theorem isC_isI : ∀ {l : List D}, (l.map isC).all id = true → (l.map isI).all id = true
  | [], _ => rfl
  | d :: l, h => by
    rw [List.map_cons, List.all_cons, Bool.and_eq_true] at h
    obtain ⟨i, rfl, _⟩ := isC_int h.1
    rw [List.map_cons, List.all_cons, isC_isI h.2]
    rfl
/-- the law's way of telling a product is the program's -/
theorem lp_pr {m : Nat} {ps : List (List Int)} (hm : ∀ k ∈ ps, k.length = m) (nn : ∀ k ∈ ps, ∀ c ∈ k, (0 : Int) ≤ c) (d : D) : (lpB d && decide (cnts d ∈ ps)) = prB m ps d := by
  unfold prB
  by_cases hp : cnts d ∈ ps
  · rw [decide_eq_true hp, Bool.and_true, Bool.and_true]
    have key : ∀ l : List D, l.map toI ∈ ps → (l.map isI).all id = (decide (l.length = m) && (l.map isC).all id) := fun l hl => by
      have h1 := hm _ hl
      rw [List.length_map] at h1
      rw [decide_eq_true h1, Bool.true_and]
      cases h : (l.map isI).all id with
      | true =>
        have e := all_isI h
        have := isC_of (nn _ hl)
        rw [← e] at this
        exact this.symm
      | false =>
        cases h2 : (l.map isC).all id with
        | false => rfl
        | true => rw [isC_isI h2] at h; cases h
    cases d with
    | lst l => exact key l hp
    | tup l => exact key l hp
    | _ => rfl
  · rw [decide_eq_false hp, Bool.and_false, Bool.and_false]
section
variable {P : Program} {w : World} {K : PySem.W.Frag} {mg : Str → Option Value} {base : Heap} {C CB : Addr}
abbrev spLp (C : Addr) : SpD := fun as Q => ∃ ps : List (List Int), ∃ d, as = [.val (.lst (ps.map tI)), .val d] ∧ KnI C d ∧ Q (lpD ps d)
abbrev NLp : List Str := ["_law_products_here", "_law_value", "_law_one"]
theorem sc_lp : FnScope NLp ["_law_products_here", "_law_value"] (defScope (top 66)) := ⟨rfl, rfl, rfl, by decide +kernel, rfl, by decide +kernel, by decide +kernel⟩
theorem kn_any {d : D} (T : Txt K mg C) (h : KnE C d) : ∃ t, TyD K d t ∧ PySem.W.kitAny K t [.type "list", .type "tuple"] = some (isL d) := by
  rcases h with h | rfl
  rotate_left
  · exact ⟨_, .dcK _, T.l0 _ (by simp)⟩
  cases h with
  | non => exact ⟨_, .non, T.l0 _ (by simp)⟩
  | bl b => exact ⟨_, .bl b, T.l0 _ (by simp)⟩
  | int i => exact ⟨_, .int i, T.l0 _ (by simp)⟩
  | str s => exact ⟨_, .str s, T.l0 _ (by simp)⟩
  | dct => exact ⟨_, .dct, T.l0 _ (by simp)⟩
  | tup l => exact ⟨_, .tup l, T.l2⟩
  | lst l => exact ⟨_, .lst l, T.l1⟩
  | rat p => exact ⟨_, .obj _ T.is, T.l3⟩
theorem ok_lp {f : Addr} {fd : FuncData} (F : FunS K "_law_product" "_law_product" (top 66) f fd) (T : Txt K mg C) : GnOk P w K mg base 1 f fd ["_law_products_here", "_law_value"] (lift K (spLp C)) := by
  refine gn_dl F sc_lp (fun as Q h => by obtain ⟨_, _, rfl, _⟩ := h; rfl) (fun cdv A outer s H hr hG W as Q h => ?_)
  obtain ⟨ps, d, rfl, ⟨kd, ki⟩, q⟩ := h
  have nd := sc_lp.nd
  obtain ⟨t, ht, kt⟩ := kn_any T kd
  refine sds_cons (sd_ifAny (fun x => x = !lpB d) (td_of (tw_or (td_not (td_val (ed_callB T.isi (ad_cons (nm 1 (ad_cons (ed_tup (ad_cons (ed_ty T.list (ad_cons (ed_ty T.tuple (ad_nil ⟨[.ty "list", .ty "tuple"], rfl, by decide, ad_nil (cd_isi2 ht (.ty _) (.ty _) kt (kB ?_))⟩)))))))))))))) (fun e => ?_) (fun e => ?_))
  · by_cases hl : ∃ l, SeqD d l
    · obtain ⟨l, sd⟩ := hl
      obtain ⟨kx, l5⟩ := ki l sd
      have e1 : isL d = true ∧ itemsD d = l := by rcases sd with rfl | rfl <;> exact ⟨rfl, rfl⟩
      unfold lpB
      rw [e1.1, e1.2]
      show TW _ _ _ _ _
      refine tw_or1 (td_not (td_val (ed_callB T.all (ad_cons (ed_fd (fd_mp (f := fun x : D => x) (u := fun x => .bl (isI x)) (l := l) 2 (own := [("_law_one", 2)]) rfl nd (blkOk_by (by show blkC NLp (defScope (top 66)) _ _ = true; decide +kernel)) (fun _ _ _ _ _ => pg_name (i := 2) nd rfl (Or.inl rfl)) (by simp) l5 (by rw [List.map_id']; exact sd) (nm 1 rfl) ?_ ?_))))))
      · intro x hx s2 H0 C2 cl fp
        obtain ⟨t2, ty, h1, h2, _⟩ := (kx x hx).ty T
        refine ed_and (ed_callB T.isi (ad_cons (nm 2 (ad_cons (ed_ty T.int (ad_nil (cd_isi ty (.ty _) h1 (kB ?_))))))))
        have e : isI x = ((isI x || isB x) && !isB x) := by cases x <;> rfl
        cases c : (isI x || isB x) with
        | false =>
          show D.bl false = D.bl (isI x)
          rw [e, c]
          rfl
        | true =>
          show ED _ _ _ _ _
          refine ed_one (ed_not (ed_callB T.isi (ad_cons (nm 2 (ad_cons (ed_ty T.bool (ad_nil (cd_isi ty (.ty _) (h2 c) (kB ?_)))))))))
          rw [e, c]
          rfl
      · rw [show (l.map fun x => D.bl (isI x)) = (l.map isI).map D.bl by rw [List.map_map]; rfl]
        exact ad_nil (cd_all rfl (kB rfl))
    · have : isL d = false := by
        cases d with
        | lst l => exact absurd ⟨l, .inl rfl⟩ hl
        | tup l => exact absurd ⟨l, .inr rfl⟩ hl
        | _ => rfl
      unfold lpB
      rw [this]
      rfl
  · have : lpD ps d = .non := by
      have : lpB d = false := by cases x : lpB d <;> simp_all
      unfold lpD
      rw [this]
      rfl
    rw [this] at q
    exact sds_cons (sd_ret (ed_non q))
  · have hb : lpB d = true := by cases x : lpB d <;> simp_all
    have sd : SeqD d ((cnts d).map D.int) := by
      unfold lpB at hb
      rw [Bool.and_eq_true] at hb
      cases d with
      | lst l =>
        have e : l = (l.map toI).map D.int := all_isI hb.2
        exact .inl (by show D.lst l = .lst ((l.map toI).map D.int); rw [← e])
      | tup l =>
        have e : l = (l.map toI).map D.int := all_isI hb.2
        exact .inr (by show D.tup l = .tup ((l.map toI).map D.int); rw [← e])
      | _ => exact absurd hb.1 Bool.false_ne_true
    unfold lpD at q
    rw [hb, Bool.true_and] at q
    refine sds_nil (sds_cons (sd_ret (ed_ifx (td_cmp (ed_callTy T.tuple (ad_cons (nm 1 (ad_nil (cd_tupleS sd (nm 0 (od_inT (u65 hr) (kB ?_))))))))))))
    by_cases hp : cnts d ∈ ps
    · rw [decide_eq_true hp] at q ⊢
      show ED _ _ _ _ _
      exact ed_callTy T.tuple (ad_cons (nm 1 (ad_nil (cd_tupleS sd q))))
    · rw [decide_eq_false hp] at q ⊢
      show ED _ _ _ _ _
      exact ed_non q
end
end K25

set_option Elab.async false
set_option linter.all false
set_option maxRecDepth 100000
set_option maxHeartbeats 8000000
/-! a text in a list of texts; a sorted list of texts that is new -/
namespace DL
open PySem PySem.Spec PyProof.Rows L2
section
variable {X : Cx} {B : Hp} {S : En} {e : Expr} {p pos : Pos}
end
end DL

set_option Elab.async false
set_option linter.all false
/-! a sign not in a text -/
namespace DL
open PySem L2
theorem od_ninS {X : Cx} {Q : D → Prop} {c : Nat} {z : Str} (q : Q (.bl (!decide (c ∈ z.cps.toList)))) : OD X (compareOp .NotIn) (.str (sg c)) (.str z) Q := od_of op_notIn_str fun v u W H ok h1 h2 R k => by
  cases h1; cases h2
  refine ⟨sg c, z, rfl, rfl, ?_⟩
  rw [PyProof.Rows.empty_one, Bool.not_not]
  exact k.now ok (.bl _) q
end DL

set_option Elab.async false
set_option linter.all false
set_option maxRecDepth 100000
set_option maxHeartbeats 8000000
/-! k25: whether a value is a misfit, as the law tells -/
namespace K25
open PySem L2 DL
theorem od_eqNi {X : Cx} {Q : D → Prop} {l : List Int} (hu : X.A.units + 64 < cLine) (q : Q (.bl l.isEmpty)) : OD X (compareOp .Eq) (.lst (l.map D.int)) (.lst []) Q := by
  refine od_eqd hu (.lst (pyd_ints l)) (.lst .nil) (shaped_is l) rfl ?_
  cases l with
  | nil => exact q
  | cons a l => exact q
theorem msB_eq {z : List Nat} {ps : List (List Int)} {a b : D} {c0 : Nat} (hz : LetZ z) : msB z ps (.tup [a, b, .str (sg c0)]) = (prB z.length ps a && (prB z.length ps b && (decide (c0 ∈ z) && (decide ((cnts b).getD (z.idxOf c0) 0 < (cnts a).getD (z.idxOf c0) 0) && (mts ps (cnts a) (cnts b) (z.idxOf c0)).isEmpty)))) := by
  have ms : c0 ∈ z → smV (.str (sg c0)) = some c0 := fun h => if_pos (hz.lo c0 h)
  have key : asP z ps (.tup [a, b, .str (sg c0)]) = if prB z.length ps a = true ∧ prB z.length ps b = true ∧ c0 ∈ z ∧ (cnts b).getD (z.idxOf c0) 0 < (cnts a).getD (z.idxOf c0) 0 then some (z.idxOf c0) else none := by
    show (if prB z.length ps a = true ∧ prB z.length ps b = true then otP z (cnts a) (cnts b) (.str (sg c0)) else none) = _
    by_cases h1 : prB z.length ps a = true ∧ prB z.length ps b = true
    · rw [if_pos h1]
      unfold otP
      by_cases h2 : c0 ∈ z
      · rw [ms h2]
        by_cases h3 : (cnts b).getD (z.idxOf c0) 0 < (cnts a).getD (z.idxOf c0) 0
        · rw [if_pos ⟨h1.1, h1.2, h2, h3⟩]
          exact if_pos ⟨h2, h3⟩
        · rw [if_neg (fun x => h3 x.2.2.2)]
          exact if_neg (fun x => h3 x.2)
      · rw [if_neg (fun x => h2 x.2.2.1)]
        split
        · rename_i c hc
          have e := smV_str hc
          have : c0 = c := by
            have e2 : (sg c0).cps.toList = (sg c).cps.toList := by rw [D.str.inj e]
            exact (List.cons.inj e2).1
          subst this
          exact if_neg (fun x => h2 x.1)
        · rfl
    · rw [if_neg h1, if_neg (fun x => h1 ⟨x.1, x.2.1⟩)]
  unfold msB
  rw [key]
  by_cases h : prB z.length ps a = true ∧ prB z.length ps b = true ∧ c0 ∈ z ∧ (cnts b).getD (z.idxOf c0) 0 < (cnts a).getD (z.idxOf c0) 0
  · rw [if_pos h, h.1, h.2.1, decide_eq_true h.2.2.1, decide_eq_true h.2.2.2, Bool.true_and, Bool.true_and, Bool.true_and, Bool.true_and]
    show decide (fmt ps (cnts a) (cnts b) (z.idxOf c0) = none) = _
    cases hm : mts ps (cnts a) (cnts b) (z.idxOf c0) with
    | nil => exact decide_eq_true (fmt_none.mpr hm)
    | cons x l => exact decide_eq_false (fun y => by rw [fmt_none.mp y] at hm; cases hm)
  · rw [if_neg h]
    show false = _
    cases h1 : prB z.length ps a with
    | false => rfl
    | true => cases h2 : prB z.length ps b with
      | false => rfl
      | true =>
        by_cases h3 : c0 ∈ z
        · rw [decide_eq_false (fun h4 => h ⟨h1, h2, h3, h4⟩)]
          cases decide (c0 ∈ z) <;> rfl
        · rw [decide_eq_false h3]; rfl
section
variable {P : Program} {w : World} {K : PySem.W.Frag} {mg : Str → Option Value} {base : Heap} {C CB : Addr}
abbrev spLm (K : PySem.W.Frag) (C : Addr) : SpD := fun as Q => ∃ z, ∃ ps : List (List Int), ∃ v, as = [.val (.str (SX.S z)), .val (.lst (ps.map tI)), .val v] ∧ LetZ z ∧ (∀ k ∈ ps, k.length = z.length) ∧ (∀ k ∈ ps, ∀ c ∈ k, (0 : Int) ≤ c) ∧ AskV K C v ∧ Q (.bl (msB z ps v))
abbrev NLm : List Str := ["_law_letters_here", "_law_products_here", "_law_value", "_law_one", "_law_two", "_law_at"]
theorem sc_lm : FnScope NLm ["_law_letters_here", "_law_products_here", "_law_value"] (defScope (top 67)) := ⟨rfl, rfl, rfl, by decide +kernel, rfl, by decide +kernel, by decide +kernel⟩
theorem ok_lm {f : Addr} {fd : FuncData} (F : FunS K "_law_is_misfit" "_law_is_misfit" (top 67) f fd) (T : Txt K mg C) (LP : Df P w K mg base "_law_product" 1 2 (spLp C)) (MT : Df P w K mg base "_law_mates" 2 4 spMt) : GnOk P w K mg base 3 f fd ["_law_letters_here", "_law_products_here", "_law_value"] (lift K (spLm K C)) := by
  refine gn_dl F sc_lm (fun as Q h => by obtain ⟨_, _, _, rfl, _⟩ := h; rfl) (fun cdv A outer s H hr hG W as Q h => ?_)
  obtain ⟨z, ps, v, rfl, hz, kps, nn, av, q⟩ := h
  have nd := sc_lm.nd
  have l8 := hz.l8
  obtain ⟨t, ht, kt⟩ := av.ty
  by_cases h3 : ∃ a b c, v = .tup [a, b, .str c] ∧ c.length = 1
  · obtain ⟨a, b, c, rfl, hc1⟩ := h3
    obtain ⟨ka, kb, kc⟩ := av.three a b _ rfl
    obtain ⟨c0, hc0⟩ : ∃ c0, c.cps.toList = [c0] := by
      have e' : c.cps.toList.length = 1 := hc1
      match hx : c.cps.toList, e' with
      | [c], _ => exact ⟨c, rfl⟩
    cases sg_of hc0
    refine sds_cons (sd_ifAny (fun x => x = false) (td_of (tw_or (td_not (td_val (ed_callB T.isi (ad_cons (nm 2 (ad_cons (ed_ty T.tuple (ad_nil (cd_isi ht (.ty _) kt (kB ?_)))))))))))) (fun e => by cases e) (fun _ => ?_))
    · show TW _ _ _ _ _
      refine tw_or (td_cmp (ed_callB T.len (ad_cons (nm 2 (ad_nil (cd_len (l := [a, b, .str (sg c0)]) (.inr rfl) (ed_int (od_nei (kB ?_)))))))))
      show TW _ _ _ _ _
      refine tw_or (td_not (td_val (ed_callB T.isi (ad_cons (ed_ix (nm 2 (ed_int ⟨[a, b, .str (sg c0)], 2, .str (sg c0), .inr rfl, rfl, rfl, ad_cons (ed_ty T.str (ad_nil (cd_isi (.str _) (.ty _) (same (by decide +kernel)) (kB ?_))))⟩)))))))
      show TW _ _ _ _ _
      refine tw_or1 (td_cmp (ed_callB T.len (ad_cons (ed_ix (nm 2 (ed_int ⟨[a, b, .str (sg c0)], 2, .str (sg c0), .inr rfl, rfl, rfl, ad_nil (cd_lenS (z := sg c0) (by show 1 ≤ 50000; decide) (ed_int (od_nei (kB ?_))))⟩))))))
      rfl
    · rw [msB_eq hz] at q
      obtain ⟨kn, km⟩ := (⟨kps, nn⟩ : (∀ k ∈ ps, k.length = z.length) ∧ ∀ k ∈ ps, ∀ c ∈ k, (0 : Int) ≤ c)
      have la := lp_pr kn km a
      have lb := lp_pr kn km b
      refine sds_nil (sds_cons (sd_par 3 4 rfl nd rfl rfl (by decide) rfl rfl (ad_cons (ed_call LP (hr.mono (j := 1) (by decide)) hG (ad_cons (nm 1 (ad_cons (ed_ix (nm 2 (ed_int ⟨[a, b, .str (sg c0)], 0, a, .inr rfl, rfl, rfl, ad_nil ⟨ps, a, rfl, ka, ?_⟩⟩))))))))))
      refine ad_cons (ed_call LP (hr.mono (j := 1) (by decide)) hG (ad_cons (nm 1 (ad_cons (ed_ix (nm 2 (ed_int ⟨[a, b, .str (sg c0)], 1, b, .inr rfl, rfl, rfl, ad_nil ⟨ps, b, rfl, kb, ?_⟩⟩)))))))
      refine ad_nil ⟨lpD ps a, lpD ps b, rfl, ?_⟩
      have ea : lpD ps a = if prB z.length ps a = true then tI (cnts a) else .non := by unfold lpD; rw [la]
      have eb : lpD ps b = if prB z.length ps b = true then tI (cnts b) else .non := by unfold lpD; rw [lb]
      rw [ea, eb]
      cases ha : prB z.length ps a with
      | false =>
        rw [ha, Bool.false_and] at q
        refine sds_cons (sd_ifAny (fun x => x = true) (td_of (tw_or (td_cmp (nm 3 (ed_non (od_isN (kB ?_))))))) (fun _ => sds_cons (sd_ret (ed_bl q))) (fun e => by cases e))
        rfl
      | true =>
        rw [ha, Bool.true_and] at q
        cases hb : prB z.length ps b with
        | false =>
          rw [hb, Bool.false_and] at q
          refine sds_cons (sd_ifAny (fun x => x = true) (td_of (tw_or (td_cmp (nm 3 (ed_non (od_isN (kB ?_))))))) (fun _ => sds_cons (sd_ret (ed_bl q))) (fun e => by cases e))
          show TW _ _ _ _ _
          refine tw_or (td_cmp (nm 4 (ed_non (od_isN (kB ?_)))))
          rfl
        | true =>
          rw [hb, Bool.true_and] at q
          obtain ⟨_, l1, _⟩ := prB_cnt ha
          obtain ⟨_, l2, _⟩ := prB_cnt hb
          refine sds_cons (sd_ifAny (fun x => x = !decide (c0 ∈ z)) (td_of (tw_or (td_cmp (nm 3 (ed_non (od_isN (kB ?_))))))) (fun e => ?_) (fun e => ?_))
          · show TW _ _ _ _ _
            refine tw_or (td_cmp (nm 4 (ed_non (od_isN (kB ?_)))))
            show TW _ _ _ _ _
            refine tw_or1 (td_cmp (ed_ix (nm 2 (ed_int ⟨[a, b, .str (sg c0)], 2, .str (sg c0), .inr rfl, rfl, rfl, nm 0 (od_ninS (kB ?_))⟩))))
            rfl
          · have hz0 : decide (c0 ∈ z) = false := by cases x : decide (c0 ∈ z) with
              | false => rfl
              | true => rw [x] at e; cases e
            rw [hz0, Bool.false_and] at q
            exact sds_cons (sd_ret (ed_bl q))
          · have hz0 : decide (c0 ∈ z) = true := by cases x : decide (c0 ∈ z) with
              | true => rfl
              | false => rw [x] at e; cases e
            have cz := of_decide_eq_true hz0
            have lz := List.idxOf_lt_length_iff.mpr cz
            rw [hz0, Bool.true_and] at q
            refine sds_nil (sds_cons (sd_set 5 nd rfl (ed_index (s := SX.S z) (nm 0 ⟨rfl, ed_ix (nm 2 (ed_int ⟨[a, b, .str (sg c0)], 2, .str (sg c0), .inr rfl, rfl, rfl, sg c0, z.idxOf c0, rfl, ix_of hz (at_idx cz), ?_⟩))⟩))))
            refine sds_cons (sd_ret (ed_and (ed_cmp (ed_ix (nm 3 (nm 5 ⟨(cnts a).map D.int, (z.idxOf c0 : Int), .int ((cnts a).getD (z.idxOf c0) 0), .inr rfl, rfl, atI_nat (gd_some (by omega)), ed_ix (nm 4 (nm 5 ⟨(cnts b).map D.int, (z.idxOf c0 : Int), .int ((cnts b).getD (z.idxOf c0) 0), .inr rfl, rfl, atI_nat (gd_some (by omega)), od_gt (kB ?_)⟩))⟩))))))
            cases hd : decide ((cnts b).getD (z.idxOf c0) 0 < (cnts a).getD (z.idxOf c0) 0) with
            | false =>
              rw [hd, Bool.false_and] at q
              exact q
            | true =>
              rw [hd, Bool.true_and] at q
              show ED _ _ _ _ _
              refine ed_one (ed_cmp (ed_call MT (hr.mono (j := 2) (by decide)) hG (ad_cons (nm 1 (ad_cons (nm 3 (ad_cons (nm 4 (ad_cons (nm 5 (ad_nil ⟨ps, cnts a, cnts b, z.idxOf c0, rfl, by omega, by omega, by omega, ?_⟩)))))))))))
              refine ed_lst (ad_nil ⟨[], rfl, by simp, ?_⟩)
              have e1 : ((mts ps (cnts a) (cnts b) (z.idxOf c0)).map fun (b : Nat) => D.int (b : Int)) = ((mts ps (cnts a) (cnts b) (z.idxOf c0)).map fun (b : Nat) => (b : Int)).map D.int := by
                rw [List.map_map]
                rfl
              rw [e1]
              refine od_eqNi (un64 hr) ?_
              rw [List.isEmpty_map]
              exact q
  · have en : msB z ps v = false := by
      unfold msB
      cases x : asP z ps v with
      | none => rfl
      | some p =>
        obtain ⟨a, b, c, rfl, _⟩ := asP_some x
        exact absurd ⟨a, b, sg c, rfl, rfl⟩ h3
    rw [en] at q
    refine sds_cons (sd_ifAny (fun x => x = true) (td_of (tw_or (td_not (td_val (ed_callB T.isi (ad_cons (nm 2 (ad_cons (ed_ty T.tuple (ad_nil (cd_isi ht (.ty _) kt (kB ?_)))))))))))) (fun _ => sds_cons (sd_ret (ed_bl q))) (fun e => by cases e))
    by_cases hl : ∃ l, v = .tup l
    · obtain ⟨l, rfl⟩ := hl
      have l5 := av.len l rfl
      show TW _ _ _ _ _
      refine tw_or (td_cmp (ed_callB T.len (ad_cons (nm 2 (ad_nil (cd_len (l := l) (.inr rfl) (ed_int (od_nei (kB ?_)))))))))
      by_cases h3l : l.length = 3
      · obtain ⟨a, b, c, rfl⟩ : ∃ a b c, l = [a, b, c] := by
          match l, h3l with
          | [a, b, c], _ => exact ⟨a, b, c, rfl⟩
        obtain ⟨_, _, kc⟩ := av.three a b c rfl
        show TW _ _ _ _ _
        rcases kc with ⟨s, rfl, s5⟩ | ⟨t2, ht2, ns, _⟩
        · refine tw_or (td_not (td_val (ed_callB T.isi (ad_cons (ed_ix (nm 2 (ed_int ⟨[a, b, .str s], 2, .str s, .inr rfl, rfl, rfl, ad_cons (ed_ty T.str (ad_nil (cd_isi (.str _) (.ty _) (same (by decide +kernel)) (kB ?_))))⟩)))))))
          show TW _ _ _ _ _
          refine tw_or1 (td_cmp (ed_callB T.len (ad_cons (ed_ix (nm 2 (ed_int ⟨[a, b, .str s], 2, .str s, .inr rfl, rfl, rfl, ad_nil (cd_lenS (z := s) s5 (ed_int (od_nei (kB ?_))))⟩))))))
          have : ¬ (s.length : Int) = 1 := fun e => h3 ⟨a, b, s, rfl, by omega⟩
          rw [decide_eq_false this]
          rfl
        · refine tw_or (td_not (td_val (ed_callB T.isi (ad_cons (ed_ix (nm 2 (ed_int ⟨[a, b, c], 2, c, .inr rfl, rfl, rfl, ad_cons (ed_ty T.str (ad_nil (cd_isi ht2 (.ty _) ns (kB ?_))))⟩)))))))
          rfl
      · have : ¬ (l.length : Int) = 3 := fun e => h3l (by omega)
        rw [decide_eq_false this]
        rfl
    · have : isT v = false := by
        cases v with
        | tup l => exact absurd ⟨l, rfl⟩ hl
        | _ => rfl
      rw [this]
      rfl
end
end K25

set_option Elab.async false
set_option linter.all false
set_option maxRecDepth 100000
set_option maxHeartbeats 4000000
/-! {} as a datum, its text; texts of plain data; repr of a tuple that holds own objects -/
namespace DL
open PySem PySem.Spec PyProof.Rows L2
section
variable {X : Cx} {B : Hp} {S : En} {pos : Pos} {Q : D → Prop} {k : Nat}
theorem ed_dct0 (q : Q (.dcK [])) : ED X B S (.Dict [] [] pos) Q := fun σ W H r R c =>
  PE.w pe_dnewK fun p hp => c (.dcK []) _ _ _ (Stp.new r.ok hp) (r.ok.new hp) (.dcK (show upd W.I p _ p = _ from upd_same) .nil) q
theorem wr_py {d : D} {p : PyData} (hp : PyD d p) (hd : p.depth ≤ 10) (hs : p.showable = true) : Wr X k d p.shown := fun A g W H pins σ s v u base Q E hA hg ok I n r hb q => by
  obtain ⟨as, rd⟩ := hp.reads I ok n r
  have nd := hp.nodict
  obtain ⟨bs, hb', hk⟩ := ReprK.of_reads (prog := X.prog) (w := X.w) rd hs (fun z => absurd z (by rw [nd]; exact Bool.false_ne_true)) (by omega)
  have un := hA.r.un
  exact hk base hb A g E s Q hg (clears ok hb') (by omega) (fun b o e => (cut_in e).1) fun h' tk kp => q W H _ Stp.refl ok (I.kept kp)
theorem emp_look {pins : List (Addr × Obj)} {σ : L2.St} {H : Hp} {s : Shared} {a : Addr} (I : Inv X pins σ H s) (h : H a = some (.dK [])) : ∃ o es n, s.heap.get? a = some o ∧ o.cls = .type "dict" ∧ o.data = .dict es n ∧ (a == sysModules) = false ∧ es.toList = [] := by
  obtain ⟨_, na, rows, kv, o, es, n, ga, xd, da, _, pr, _⟩ := (show ObjOk X.prog X.w H s.heap a (.dK []) from I.hok a _ h)
  cases kv
  exact ⟨o, es, n, ga, xd.1, da, na, by cases h : es.toList with | nil => rfl | cons e r => rw [h] at pr; cases pr⟩
theorem wr_emp : Wr X k (.dcK []) (dictText []) := fun A g W H pins σ s v u base Q E hA hg ok I n r hb q => by
  cases n with
  | @dcK _ a ws ha hm =>
    cases hm
    cases r
    obtain ⟨o, es, n, ga, xc, da, na, ee⟩ := emp_look I (ok.ex _ _ ha)
    have clr : Clear g a := clear_of fun z => by rw [(ok.gd a z).1] at ha; cases ha
    have un := hA.r.un
    have rk := ReprK.dict (prog := X.prog) (w := X.w) (as := []) (d := 0) (ps := []) ga xc da na (by simp) (by rw [ee]; exact .nil)
    exact rk base hb A g E s Q hg (by simpa using clr) (by omega) (fun b o e => e) fun h' tk kp => q W H _ Stp.refl ok (I.kept kp)
theorem cd_reprEmp (hG : X.A.guards = some (gOf X)) (hr : Room k X.A) (q : Q (.str (dictText []))) : CD X (.builtin "repr") [.val (.dcK [])] Q := fun vs W H ok ha R c pins s σ us I rv => by
  obtain ⟨v, rfl, n⟩ := one_arg ha
  cases rv with
  | cons r1 r2 =>
    cases r2
    cases n with
    | @dcK _ a ws hI hm =>
      cases hm
      cases r1
      obtain ⟨o, es, n, ga, xc, da, na, ee⟩ := emp_look I (ok.ex _ _ hI)
      have clr : Clear (gOf X) a := clear_of fun z => by rw [(ok.gd a z).1] at hI; cases hI
      have un := hr.un
      refine call_repr_slot (by omega) ⟨o, ga, xc⟩ F.slot_dict_repr ?_
      exact call_dict_reprK (A := X.A.in1) (as := []) (d := 0) (ps := []) ga xc da na (by simp) (by rw [ee]; exact .nil) hG (by simpa using clr) (by show X.A.units + 1 + _ < cLine; omega) (fun b o e => e) (fun h' u tk kp => ⟨_, _, rfl, .str _, H, I.kept kp, ⟨u, rfl⟩, c.now ok (.str _) q⟩) (by decide +kernel)
theorem cd_reprTup {l : List D} {ts : List Str} (hr : Room (k + 2) X.A) (hG : X.A.guards = some (gOf X)) (nk : ∀ ks : List Key, l ≠ ks.map kD) (rp : Rps l) (hlen : ts.length = l.length) (hT : ∀ (i : Nat) d, l[i]? = some d → ∃ t, ts[i]? = some t ∧ Wr X k d t) (hb : (tupleText ts).length ≤ sizeLine) (q : Q (.str (tupleText ts))) : CD X (.builtin "repr") [.val (.tup l)] Q := fun vs W H ok ha R c pins s σ us I rv => by
  obtain ⟨v, rfl, n⟩ := one_arg ha
  cases rv with
  | cons r1 r2 =>
    cases r2
    cases n with
    | @tup _ a xs hI hm =>
      cases r1
      obtain ⟨its, rv, ⟨o, ho, hc, n0, hd⟩, _⟩ := I.tuple (SqT.of (ok.ex _ _ hI))
      have ty : s.TypeIs (.ref a) "tuple" := ⟨o, ho, hc⟩
      have u0 := hr.un
      refine call_repr_slot (by omega) ty F.slot_tuple_repr (wpAny_call (codeAny_call_builtin_own (Code.quiet_builtin _ (by decide +kernel)) F.entry_tuple_repr (F.slot_tuple_repr.check _ _ _ _ _ _ _ _ ty (F.args_tuple_repr_1 _) ?_)))
      exact wr_tupBody (base := 0) (R := callEnd (fun r s₁ => ∃ x t, r = .str x t ∧ EP X pins σ R r s₁) X.xe) (.inl rfl) (ar_here hr I) hG ok I hI (fun ks z => by cases z; exact nk ks (keys_back hm)) hm rp hlen hT (by omega) fun W' H' s' u st ok' I' => ⟨_, _, rfl, .str _, H', I', ⟨u, rfl⟩, c (.str _) _ W' H' st ok' (.str _) q⟩
mutual
theorem PyD.rp : ∀ {d : D} {p : PyData}, PyD d p → Rp d
  | _, _, .non => .non
  | _, _, .bl b => .bl b
  | _, _, .int i => .int i
  | _, _, .str s => .str s
  | _, _, .lst h => .lst (PyDs.rp h)
  | _, _, .tup h => .tup (PyDs.rp h)
theorem PyDs.rp : ∀ {l : List D} {ps : List PyData}, PyDs l ps → Rps l
  | _, _, .nil => .nil
  | _, _, .cons h r => .cons (PyD.rp h) (PyDs.rp r)
end
/-- plain data with a short text -/
def TxP (k n : Nat) (d : D) : Prop := ∃ p, PyD d p ∧ p.showable = true ∧ p.depth ≤ k ∧ p.shown.length ≤ n
theorem TxP.up {j k m n : Nat} {d : D} (h : TxP j m d) (e : j ≤ k) (e2 : m ≤ n) : TxP k n d := let ⟨p, a, b, c, d⟩ := h; ⟨p, a, b, Nat.le_trans c e, Nat.le_trans d e2⟩
theorem TxP.wr {j n : Nat} {d : D} (h : TxP j n d) (e : j ≤ 10) : ∃ t, Wr X k d t ∧ t.length ≤ n := let ⟨p, a, b, c, d⟩ := h; ⟨_, wr_py a (Nat.le_trans c e) b, d⟩
theorem TxP.rp {j n : Nat} {d : D} (h : TxP j n d) : Rp d := let ⟨_, a, _⟩ := h; a.rp
theorem txp_all {n : Nat} : ∀ {l : List D}, (∀ x ∈ l, TxP k n x) → ∃ ps, PyDs l ps ∧ ps.length = l.length ∧ PyData.showableAll ps = true ∧ PyData.depthAll ps ≤ k ∧ (PyData.shownAll ps).length = l.length ∧ ∀ t ∈ PyData.shownAll ps, t.length ≤ n
  | [], _ => ⟨[], .nil, rfl, by simp [PyData.showableAll], by simp [PyData.depthAll], by simp [PyData.shownAll], by simp [PyData.shownAll]⟩
  | x :: l, h => by
    obtain ⟨p, a, b, c, e⟩ := h x (by simp)
    obtain ⟨ps, a2, l2, b2, c2, f2, e2⟩ := txp_all (l := l) fun y hy => h y (by simp [hy])
    refine ⟨p :: ps, .cons a a2, by simp [l2], by simp [PyData.showableAll, b, b2], by simp only [PyData.depthAll]; omega, by simp [PyData.shownAll, f2], fun t ht => ?_⟩
    simp only [PyData.shownAll] at ht
    rcases List.mem_cons.mp ht with rfl | ht
    · exact e
    · exact e2 t ht
theorem txp_non {n : Nat} (h : 4 ≤ n) : TxP k n .non := ⟨_, .non, by simp [PyData.showable], by simp [PyData.depth], by simp only [PyData.shown]; exact Nat.le_trans (by decide +kernel) h⟩
theorem txp_bl {b : Bool} {n : Nat} (h : 5 ≤ n) : TxP k n (.bl b) := ⟨_, .bl b, by simp [PyData.showable], by simp [PyData.depth], by simp only [PyData.shown]; refine Nat.le_trans ?_ h; cases b <;> decide +kernel⟩
end
end DL

set_option Elab.async false
set_option linter.all false
set_option maxRecDepth 100000
set_option maxHeartbeats 8000000
/-! k25: values of any kind, how they are written -/
namespace DL
open PySem PySem.Spec PyProof.Rows L2
theorem txp_int {k n : Nat} {i : Int} (h : i.natAbs < 2 ^ 1900) (hn : 1921 ≤ n) : TxP k n (.int i) :=
  ⟨_, .int i, by simp only [PyData.showable]; exact decide_eq_true (K25.tl h), by simp [PyData.depth], by simp only [PyData.shown]; exact Nat.le_trans (K25.tlen h) hn⟩
theorem txp_tup {k n m : Nat} {l : List D} (h : ∀ x ∈ l, TxP k n x) (hl : l.length ≤ m) : TxP (k + 1) ((n + 2) * m + 4) (.tup l) := by
  obtain ⟨ps, a, b, c, d, f, e⟩ := txp_all h
  refine ⟨_, .tup a, by simpa only [PyData.showable] using c, by simp only [PyData.depth]; omega, ?_⟩
  simp only [PyData.shown]
  have := tupleText_up e
  have : (n + 2) * (PyData.shownAll ps).length ≤ (n + 2) * m := Nat.mul_le_mul_left _ (by omega)
  omega
theorem txp_lst {k n m : Nat} {l : List D} (h : ∀ x ∈ l, TxP k n x) (hl : l.length ≤ m) : TxP (k + 1) ((n + 2) * m + 4) (.lst l) := by
  obtain ⟨ps, a, b, c, d, f, e⟩ := txp_all h
  refine ⟨_, .lst a, by simpa only [PyData.showable] using c, by simp only [PyData.depth]; omega, ?_⟩
  simp only [PyData.shown]
  have := listText_up e
  have : (n + 2) * (PyData.shownAll ps).length ≤ (n + 2) * m := Nat.mul_le_mul_left _ (by omega)
  omega
theorem txp_str {k : Nat} {s : Str} (h : ∀ c ∈ s.cps.toList, c < 128) (hl : s.length ≤ 20) : TxP k 2000 (.str s) := by
  have lv : (PyData.str s).leavesShort 13 = true := by
    show (s.cps.toList.all fun c => decide (c < 16 ^ 8)) = true
    rw [List.all_eq_true]
    intro c hc
    exact decide_eq_true (Nat.lt_of_lt_of_le (h c hc) (by decide))
  have h := PyData.shown_le 13 (by decide) _ lv
  have e : (PyData.str s).weight = s.length := rfl
  rw [e] at h
  exact ⟨_, .str s, by simp only [PyData.showable], by simp [PyData.depth], by omega⟩
end DL
namespace K25
open PySem L2 DL
/-- few and small counts -/
def Sm8 (k : List Int) : Prop := k.length ≤ 9 ∧ ∀ i ∈ k, i.natAbs ≤ 1000
theorem Sm8.int {k : List Int} (h : Sm8 k) : ∀ i ∈ k, i.natAbs < 2 ^ 1900 := fun i hi => Nat.lt_of_le_of_lt (h.2 i hi) (Nat.lt_of_lt_of_le (by decide : 1000 < 2 ^ 10) (Nat.pow_le_pow_right (by decide) (by decide)))
theorem txI {k : List Int} (h : Sm8 k) : TxP 1 20000 (tI k) := TxP.up (k := 1) (txp_tup (k := 0) (n := 1921) (m := 9) (fun x hx => by obtain ⟨i, hi, rfl⟩ := List.mem_map.mp hx; exact txp_int (h.int i hi) (by decide)) (by rw [List.length_map]; exact h.1)) (by decide) (by decide)
theorem txL {k : List Int} (h : Sm8 k) : TxP 1 20000 (.lst (k.map D.int)) := TxP.up (k := 1) (txp_lst (k := 0) (n := 1921) (m := 9) (fun x hx => by obtain ⟨i, hi, rfl⟩ := List.mem_map.mp hx; exact txp_int (h.int i hi) (by decide)) (by rw [List.length_map]; exact h.1)) (by decide) (by decide)
/-- what can be written -/
inductive Shw (C : Addr) : D → Prop
  | py {d} : TxP 8 1900000 d → Shw C d
  | emp : Shw C (.dcK [])
  | tE {a : List Int} {c} : Sm8 a → TxP 1 20000 c → Shw C (.tup [tI a, .dcK [], c])
  | tR {is : List Int} {b c} : Sm8 is → TxP 1 20000 b → TxP 1 20000 c → Shw C (.tup [.lst (is.map fun (i : Int) => Ra C (fr (i : Rat))), b, c])
theorem cd_reprShw {X : Cx} {C : Addr} {d : D} (R : Sm X.prog X.w X.K X.mg X.base C "__repr__" 1 (sp1b C 1900 fun p => .str (reprF p))) (hr : Room 6 X.A) (hG : X.A.guards = some (gOf X)) (h : Shw C d) : ∃ t, ∀ Q : D → Prop, Q (.str t) → CD X (.builtin "repr") [.val d] Q := by
  cases h with
  | py h =>
    obtain ⟨p, a, b, c, e⟩ := h
    have un := hr.un
    exact ⟨p.shown, fun Q q => cd_repr hG (by omega) a b (Nat.le_trans e (by decide)) q⟩
  | emp => exact ⟨_, fun Q q => cd_reprEmp hG hr q⟩
  | @tE a c ha hc =>
    obtain ⟨t1, w1, b1⟩ := (txI ha).wr (X := X) (k := 2) (by decide)
    obtain ⟨t3, w3, b3⟩ := hc.wr (X := X) (k := 2) (by decide)
    refine ⟨tupleText [t1, dictText [], t3], fun Q q => cd_reprTup (k := 2) (hr.mono (by decide)) hG (fun ks e => ?_) (.cons (txI ha).rp (.cons .dcK0 (.cons hc.rp .nil))) rfl ?_ ?_ q⟩
    · cases ks with
      | nil => cases e
      | cons x ks => cases x <;> cases e
    · intro i d hd
      match i, hd with
      | 0, hd => cases hd; exact ⟨_, rfl, w1⟩
      | 1, hd => cases hd; exact ⟨_, rfl, wr_emp⟩
      | 2, hd => cases hd; exact ⟨_, rfl, w3⟩
    · have := tupleText_up (n := 20000) (ts := [t1, dictText [], t3]) (fun t ht => by
        have e : (dictText []).length ≤ 20000 := by decide +kernel
        simp only [List.mem_cons, List.not_mem_nil, or_false] at ht
        rcases ht with rfl | rfl | rfl
        · exact b1
        · exact e
        · exact b3)
      exact Nat.le_trans this (show (20000 + 2) * 3 + 4 ≤ sizeLine by decide)
  | @tR is b c hi hb hc =>
    obtain ⟨t2, w2, b2⟩ := hb.wr (X := X) (k := 2) (by decide)
    obtain ⟨t3, w3, b3⟩ := hc.wr (X := X) (k := 2) (by decide)
    have bd : ∀ i ∈ is, Bd 1900 (fr (i : Rat)) := fun i h => by
      have := hi.int i h
      exact Bq.int this (by decide)
    have rps : ∀ l : List Int, Rps (l.map fun (i : Int) => Ra C (fr (i : Rat))) := fun l => by
      induction l with
      | nil => exact .nil
      | cons a l ih => exact .cons (.obj (.cons (.int _) (.cons (.int _) .nil))) ih
    have wl : Wr X 2 (.lst (is.map fun (i : Int) => Ra C (fr (i : Rat)))) (listText (is.map fun (i : Int) => reprF (fr (i : Rat)))) := by
      refine wr_list (k := 1) (by rw [List.length_map]; have := hi.1; omega) (rps is) (by rw [List.length_map, List.length_map]) fun i d hd => ?_
      rw [List.getElem?_map] at hd
      obtain ⟨x, hx, rfl⟩ := Option.map_eq_some_iff.mp hd
      exact ⟨reprF (fr (x : Rat)), by rw [List.getElem?_map, hx]; rfl, wr_obj R (fun Q q => ⟨fr _, rfl, bd x (List.mem_of_getElem? hx), q⟩)⟩
    have ll : (listText (is.map fun (i : Int) => reprF (fr (i : Rat)))).length ≤ 50000 := by
      have := listText_up (n := 4000) (ts := is.map fun (i : Int) => reprF (fr (i : Rat))) fun t ht => by
        obtain ⟨i, h, rfl⟩ := List.mem_map.mp ht
        exact reprF_len (bd i h)
      rw [List.length_map] at this
      have : (4000 + 2) * is.length ≤ (4000 + 2) * 9 := Nat.mul_le_mul_left _ hi.1
      omega
    refine ⟨tupleText [listText (is.map fun (i : Int) => reprF (fr (i : Rat))), t2, t3], fun Q q => cd_reprTup (k := 2) (hr.mono (by decide)) hG (fun ks e => ?_) (.cons (.lst (rps is)) (.cons hb.rp (.cons hc.rp .nil))) rfl ?_ ?_ q⟩
    · cases ks with
      | nil => cases e
      | cons x ks => cases x <;> cases e
    · intro i d hd
      match i, hd with
      | 0, hd => cases hd; exact ⟨_, rfl, wl⟩
      | 1, hd => cases hd; exact ⟨_, rfl, w2⟩
      | 2, hd => cases hd; exact ⟨_, rfl, w3⟩
    · have := tupleText_up (n := 50000) (ts := [listText (is.map fun (i : Int) => reprF (fr (i : Rat))), t2, t3]) (fun t ht => by
        simp only [List.mem_cons, List.not_mem_nil, or_false] at ht
        rcases ht with rfl | rfl | rfl
        · exact ll
        · exact Nat.le_trans b2 (by decide)
        · exact Nat.le_trans b3 (by decide))
      exact Nat.le_trans this (show (50000 + 2) * 3 + 4 ≤ sizeLine by decide)
/-! ### kinds -/
/-- what isinstance tells of the kinds that the law draws -/
structure Kt (K : PySem.W.Frag) : Prop where
  s1 : PySem.W.kitOne K (.type "NoneType") (.type "str") = some false
  s2 : PySem.W.kitOne K (.type "int") (.type "str") = some false
  s3 : PySem.W.kitOne K (.type "list") (.type "str") = some false
  s4 : PySem.W.kitOne K (.type "tuple") (.type "str") = some false
  t1 : PySem.W.kitOne K (.type "NoneType") (.type "tuple") = some false
  t2 : PySem.W.kitOne K (.type "int") (.type "tuple") = some false
  t3 : PySem.W.kitOne K (.type "bool") (.type "tuple") = some false
  t4 : PySem.W.kitOne K (.type "str") (.type "tuple") = some false
  t5 : PySem.W.kitOne K (.type "list") (.type "tuple") = some false
  t6 : PySem.W.kitOne K (.type "dict") (.type "tuple") = some false
/-- a value that the law may draw -/
def Okv (K : PySem.W.Frag) (C : Addr) (v : D) : Prop := AskV K C v ∧ Shw C v
section
variable {K : PySem.W.Frag} {C : Addr}
theorem kn_n : KnI C .non := ⟨.inl .non, fun l h => by rcases h with h | h <;> cases h⟩
theorem kn_s (s : Str) : KnI C (.str s) := ⟨.inl (.str s), fun l h => by rcases h with h | h <;> cases h⟩
theorem kn_e : KnI C (.dcK []) := ⟨.inr rfl, fun l h => by rcases h with h | h <;> cases h⟩
theorem kn_t {l : List D} (h : ∀ x ∈ l, Kn C x) (hl : l.length ≤ 50000) : KnI C (.tup l) := ⟨.inl (.tup l), fun m e => by rcases e with e | e <;> cases e; exact ⟨h, hl⟩⟩
theorem kn_l {l : List D} (h : ∀ x ∈ l, Kn C x) (hl : l.length ≤ 50000) : KnI C (.lst l) := ⟨.inl (.lst l), fun m e => by rcases e with e | e <;> cases e; exact ⟨h, hl⟩⟩
theorem kn_tI {k : List Int} (h : Sm8 k) : KnI C (tI k) := kn_t (fun x hx => by obtain ⟨i, _, rfl⟩ := List.mem_map.mp hx; exact .int i) (by rw [List.length_map]; exact Nat.le_trans h.1 (by decide))
theorem so_s {s : Str} (h : s.length ≤ 20) : StrOr K (.str s) := .inl ⟨s, rfl, Nat.le_trans h (by decide)⟩
theorem av_tup {l : List D} (h : ∀ a b c, l = [a, b, c] → KnI C a ∧ KnI C b ∧ StrOr K c) (hl : l.length ≤ 50000) : AskV K C (.tup l) := ⟨⟨_, .tup l, same (by decide +kernel)⟩, fun m e => by cases e; exact hl, fun a b c e => by cases e; exact h a b c rfl⟩
theorem ok_three {a b c : D} (ha : KnI C a) (hb : KnI C b) (hc : StrOr K c) (sh : Shw C (.tup [a, b, c])) : Okv K C (.tup [a, b, c]) := ⟨av_tup (fun _ _ _ e => by cases e; exact ⟨ha, hb, hc⟩) (by simp), sh⟩
theorem sh_three {a b c : D} (ha : TxP 1 20000 a) (hb : TxP 1 20000 b) (hc : TxP 1 20000 c) : Shw C (.tup [a, b, c]) := .py (TxP.up (k := 8) (txp_tup (k := 1) (n := 20000) (m := 3) (fun x hx => by
  simp only [List.mem_cons, List.not_mem_nil, or_false] at hx
  rcases hx with rfl | rfl | rfl <;> assumption) (by simp)) (by decide) (by decide))
theorem ok_3 {a b c : D} (ha : KnI C a) (hb : KnI C b) (hc : StrOr K c) (xa : TxP 1 20000 a) (xb : TxP 1 20000 b) (xc : TxP 1 20000 c) : Okv K C (.tup [a, b, c]) := ok_three ha hb hc (sh_three xa xb xc)
theorem ok_oth {l : List D} (hl : l.length ≠ 3) (l5 : l.length ≤ 20) (h : ∀ x ∈ l, TxP 1 20000 x) : Okv K C (.tup l) := ⟨av_tup (fun _ _ _ e => by rw [e] at hl; exact absurd rfl hl) (by omega), .py (TxP.up (k := 8) (txp_tup (k := 1) (n := 20000) (m := 20) h l5) (by decide) (by decide))⟩
theorem ok_no {v : D} {t : Value} (ht : TyD K v t) (h : PySem.W.kitOne K t (.type "tuple") = some false) (hv : isT v = false) (sh : Shw C v) : Okv K C v := ⟨⟨⟨t, ht, by rw [hv]; exact h⟩, (fun l e => by rw [e] at hv; cases hv), (fun a b c e => by rw [e] at hv; cases hv)⟩, sh⟩
end
end K25

set_option Elab.async false
set_option linter.all false
set_option maxRecDepth 100000
set_option maxHeartbeats 8000000
/-! k25: _law_pick of a text, _law_bent -/
namespace K25
open PySem L2 DL
/-! the values that are bent out of one -/
def bt1 (a b s : D) : List D := [.tup [b, a, s], .tup [a, a, s], .tup [a, b], .tup [a, b, s, s], .lst [a, b, s], .tup [a, b, .non]]
def bt2 (a b s ss : D) : List D := [.tup [a, b, ss], .tup [a, b, .str (Str.ofString "")], .tup [a, b, .str (Str.ofString "q")], .tup [a, b, .int 0], .tup [a, b, .lst [s]], .tup [.non, b, s]]
def bt3 (a b s a0 b1 ap : D) : List D := [.tup [a0, b, s], .tup [a, b1, s], .tup [ap, b, s], .tup [a, .dcK [], s]]
def bt4 (a b s s2 c : D) : List D := [.tup [a, b, s2], .tup [a, c, s], .tup [s, a, b]]
def bt5 (b s ar ab : D) : List D := [.tup [ar, b, s], .tup [ab, b, s]]
def one1 (i : Int) : D := if i = 1 then .bl true else .int i
section
variable {P : Program} {w : World} {K : PySem.W.Frag} {mg : Str → Option Value} {base : Heap} {C CB : Addr}
abbrev spPickS : SpD := fun as Q => ∃ z : List Nat, as = [.pot, .val (.str (SX.S z))] ∧ 0 < z.length ∧ z.length < 1000 ∧ ∀ c ∈ z, Q (.str (sg c))
theorem ok_pickS {f : Addr} {fd : FuncData} (F : FunS K "_law_pick" "_law_pick" (top 52) f fd) (T : Txt K mg C) (G : Df P w K mg base "_law_draw" 1 2 spDraw) : GnOk P w K mg base 2 f fd ["_law_pot_here", "_law_some"] (lift K spPickS) := by
  refine gn_dl F sc_pick (fun as Q h => by obtain ⟨n, rfl, _⟩ := h; rfl) (fun cdv A outer s H hr hG W as Q h => ?_)
  obtain ⟨z, rfl, h0, h1, q⟩ := h
  refine sds_cons (sd_ret (ed_ixS (nm 1 (ed_call G hr hG (ad_pot 0 rfl rfl (ad_cons (ed_callB T.len (ad_cons (nm 1 (ad_nil (cd_lenS (z := SX.S z) (by rw [SX.S_len]; omega) ?_)))))))))))
  refine ad_nil ⟨(z.length : Int), by rw [SX.S_len], by omega, by omega, fun d d1 => ?_⟩
  have hd : d < z.length := by omega
  exact ⟨SX.S z, d, z[d], rfl, rfl, by omega, by rw [show (SX.S z).cps[d]? = z[d]? by simp [SX.S]]; exact List.getElem?_eq_getElem hd, q _ (List.getElem_mem _)⟩
/-! each of them may be drawn -/
variable {a b k : List Int} {c c2 : Nat}
theorem tx_sg {j : Nat} (hc : c < 128) : TxP j 20000 (.str (sg c)) := (txp_str (k := j) (fun x hx => by rw [List.mem_singleton.mp (show x ∈ [c] from hx)]; exact hc) (by show 1 ≤ 20; decide)).up (Nat.le_refl _) (by decide)
theorem sm_snoc (h : Sm8 k) (h8 : k.length ≤ 8) : Sm8 (k ++ [0]) := ⟨by rw [List.length_append]; simp; omega, fun i hi => by
  rcases List.mem_append.mp hi with h' | h'
  · exact h.2 i h'
  · rw [List.mem_singleton.mp h']; decide⟩
theorem sm_drop (h : Sm8 k) : Sm8 (k.drop 1) := ⟨by rw [List.length_drop]; have := h.1; omega, fun i hi => h.2 i (List.mem_of_mem_drop hi)⟩
theorem sm_up (h : Sm8 k) (h9 : ∀ i ∈ k, i.natAbs ≤ 900) : Sm8 (k.map (· + 1)) := ⟨by rw [List.length_map]; exact h.1, fun i hi => by
  obtain ⟨j, hj, rfl⟩ := List.mem_map.mp hi
  have := h9 j hj
  omega⟩
theorem so_sg : StrOr K (.str (sg c)) := so_s (by show 1 ≤ 20; decide)
theorem so_non (T : Kt K) : StrOr K .non := .inr ⟨_, .non, T.s1, rfl⟩
theorem so_int (T : Kt K) (i : Int) : StrOr K (.int i) := .inr ⟨_, .int i, T.s2, rfl⟩
theorem so_lst (T : Kt K) (l : List D) : StrOr K (.lst l) := .inr ⟨_, .lst l, T.s3, rfl⟩
theorem so_tup (T : Kt K) (l : List D) : StrOr K (.tup l) := .inr ⟨_, .tup l, T.s4, rfl⟩
theorem ok_bt1 (T : Kt K) (ha : Sm8 a) (hb : Sm8 b) (hc : c < 128) : ∀ v ∈ bt1 (tI a) (tI b) (.str (sg c)), Okv K C v := by
  intro v hv
  have xa := txI ha
  have xb := txI hb
  have xs : TxP 1 20000 (.str (sg c)) := tx_sg hc
  unfold bt1 at hv
  simp only [List.mem_cons, List.not_mem_nil, or_false] at hv
  rcases hv with rfl | rfl | rfl | rfl | rfl | rfl
  · exact ok_3 (kn_tI hb) (kn_tI ha) so_sg xb xa xs
  · exact ok_3 (kn_tI ha) (kn_tI ha) so_sg xa xa xs
  · exact ok_oth (by simp) (by simp) (by simp [xa, xb])
  · exact ok_oth (by simp) (by simp) (by simp [xa, xb, xs])
  · exact ok_no (.lst _) T.t5 rfl (.py (TxP.up (k := 8) (txp_lst (k := 1) (n := 20000) (m := 3) (by simp [xa, xb, xs]) (by simp)) (by decide) (by decide)))
  · exact ok_3 (kn_tI ha) (kn_tI hb) (so_non T) xa xb (txp_non (by decide))
theorem ok_bt2 (T : Kt K) (ha : Sm8 a) (hb : Sm8 b) (hc : c < 128) : ∀ v ∈ bt2 (tI a) (tI b) (.str (sg c)) (.str (sg c ++ sg c)), Okv K C v := by
  intro v hv
  have xa := txI ha
  have xb := txI hb
  have xs : ∀ j, TxP j 20000 (.str (sg c)) := fun j => tx_sg hc
  have xss : TxP 1 20000 (.str (sg c ++ sg c)) := (txp_str (k := 1) (s := sg c ++ sg c) (fun x hx => by
    have : x ∈ [c, c] := by
      have e : (sg c ++ sg c).cps.toList = [c, c] := rfl
      rw [← e]; exact hx
    simp only [List.mem_cons, List.not_mem_nil, or_false, or_self] at this
    rw [this]; exact hc) (by rw [Str.length_append]; show 1 + 1 ≤ 20; decide)).up (Nat.le_refl _) (by decide)
  unfold bt2 at hv
  simp only [List.mem_cons, List.not_mem_nil, or_false] at hv
  rcases hv with rfl | rfl | rfl | rfl | rfl | rfl
  · exact ok_3 (kn_tI ha) (kn_tI hb) (so_s (by rw [Str.length_append]; show 1 + 1 ≤ 20; decide)) xa xb xss
  · exact ok_3 (kn_tI ha) (kn_tI hb) (so_s (by decide +kernel)) xa xb ((txp_str (k := 1) (by decide +kernel) (by decide +kernel)).up (Nat.le_refl _) (by decide))
  · exact ok_3 (kn_tI ha) (kn_tI hb) (so_s (by decide +kernel)) xa xb ((txp_str (k := 1) (by decide +kernel) (by decide +kernel)).up (Nat.le_refl _) (by decide))
  · exact ok_3 (kn_tI ha) (kn_tI hb) (so_int T 0) xa xb (txp_int (by decide) (by decide))
  · exact ok_3 (kn_tI ha) (kn_tI hb) (so_lst T _) xa xb ((txp_lst (k := 0) (n := 2000) (m := 1) (l := [.str (sg c)]) (fun x hx => by rw [List.mem_singleton.mp hx]; exact txp_str (fun x hx => by rw [List.mem_singleton.mp (show x ∈ [c] from hx)]; exact hc) (by show 1 ≤ 20; decide)) (by simp)).up (Nat.le_refl _) (by decide))
  · exact ok_3 kn_n (kn_tI hb) so_sg (txp_non (by decide)) xb (xs 1)
theorem ok_bt3 (ha : Sm8 a) (a8 : a.length ≤ 8) (a9 : ∀ i ∈ a, i.natAbs ≤ 900) (hb : Sm8 b) (hc : c < 128) : ∀ v ∈ bt3 (tI a) (tI b) (.str (sg c)) (tI (a ++ [0])) (tI (b.drop 1)) (.lst ((a.map (· + 1)).map D.int)), Okv K C v := by
  intro v hv
  have xa := txI ha
  have xb := txI hb
  have xs : TxP 1 20000 (.str (sg c)) := tx_sg hc
  unfold bt3 at hv
  simp only [List.mem_cons, List.not_mem_nil, or_false] at hv
  rcases hv with rfl | rfl | rfl | rfl
  · exact ok_3 (kn_tI (sm_snoc ha a8)) (kn_tI hb) so_sg (txI (sm_snoc ha a8)) xb xs
  · exact ok_3 (kn_tI ha) (kn_tI (sm_drop hb)) so_sg xa (txI (sm_drop hb)) xs
  · have h := sm_up ha a9
    exact ok_3 (kn_l (fun x hx => by obtain ⟨i, _, rfl⟩ := List.mem_map.mp hx; exact .int i) (by rw [List.length_map]; exact Nat.le_trans h.1 (by decide))) (kn_tI hb) so_sg (txL h) xb xs
  · exact ok_three (kn_tI ha) kn_e so_sg (.tE ha xs)
theorem ok_bt4 (T : Kt K) (ha : Sm8 a) (hb : Sm8 b) (hk : Sm8 k) (hc : c < 128) (hc2 : c2 < 128) : ∀ v ∈ bt4 (tI a) (tI b) (.str (sg c)) (.str (sg c2)) (tI k), Okv K C v := by
  intro v hv
  have xa := txI ha
  have xb := txI hb
  have xs : TxP 1 20000 (.str (sg c)) := tx_sg hc
  unfold bt4 at hv
  simp only [List.mem_cons, List.not_mem_nil, or_false] at hv
  rcases hv with rfl | rfl | rfl
  · exact ok_3 (kn_tI ha) (kn_tI hb) so_sg xa xb (tx_sg hc2)
  · exact ok_3 (kn_tI ha) (kn_tI hk) so_sg xa (txI hk) xs
  · exact ok_3 (kn_s _) (kn_tI ha) (so_tup T _) xs xa xb
theorem ok_bt5 (ha : Sm8 a) (hb : Sm8 b) (hc : c < 128) : ∀ v ∈ bt5 (tI b) (.str (sg c)) (.lst (a.map fun (i : Int) => Ra C (fr (i : Rat)))) (.lst (a.map one1)), Okv K C v := by
  intro v hv
  have xb := txI hb
  have xs : TxP 1 20000 (.str (sg c)) := tx_sg hc
  have one : ∀ i ∈ a, Kn C (one1 i) ∧ TxP 0 1921 (one1 i) := fun i hi => by
    unfold one1
    split
    · exact ⟨.bl _, txp_bl (by decide)⟩
    · exact ⟨.int _, txp_int (ha.int i hi) (Nat.le_refl _)⟩
  unfold bt5 at hv
  simp only [List.mem_cons, List.not_mem_nil, or_false] at hv
  rcases hv with rfl | rfl
  · exact ok_three (kn_l (fun x hx => by obtain ⟨i, _, rfl⟩ := List.mem_map.mp hx; exact .rat _) (by rw [List.length_map]; exact Nat.le_trans ha.1 (by decide))) (kn_tI hb) so_sg (.tR ha xb xs)
  · exact ok_3 (kn_l (fun x hx => by obtain ⟨i, hi, rfl⟩ := List.mem_map.mp hx; exact (one i hi).1) (by rw [List.length_map]; exact Nat.le_trans ha.1 (by decide))) (kn_tI hb) so_sg (TxP.up (k := 1) (txp_lst (k := 0) (n := 1921) (m := 9) (fun x hx => by obtain ⟨i, hi, rfl⟩ := List.mem_map.mp hx; exact (one i hi).2) (by rw [List.length_map]; exact ha.1)) (by decide) (by decide)) xb xs
end
end K25

set_option Elab.async false
set_option linter.all false
set_option maxRecDepth 100000
set_option maxHeartbeats 8000000
/-! k25: _law_bent -/
namespace K25
open PySem L2 DL
section
variable {P : Program} {w : World} {K : PySem.W.Frag} {mg : Str → Option Value} {base : Heap} {C CB : Addr}
abbrev spBe (K : PySem.W.Frag) (C : Addr) : SpD := fun as Q => ∃ z, ∃ ps : List (List Int), ∃ a b c, as = [.pot, .val (.str (SX.S z)), .val (.lst (ps.map tI)), .val (.tup [tI a, tI b, .str (sg c)])] ∧ LetZ z ∧ 0 < ps.length ∧ ps.length < 1000 ∧ (∀ k ∈ ps, Sm8 k) ∧ Sm8 a ∧ a.length ≤ 8 ∧ (∀ i ∈ a, i.natAbs ≤ 900) ∧ Sm8 b ∧ c < 128 ∧ ∀ v, Okv K C v → Q v
abbrev NBe : List Str := ["_law_pot_here", "_law_letters_here", "_law_products_here", "_law_value", "_law_one", "_law_two", "_law_letter", "_law_some", "_law_count"]
theorem sc_be : FnScope NBe ["_law_pot_here", "_law_letters_here", "_law_products_here", "_law_value"] (defScope (top 68)) := ⟨rfl, rfl, rfl, by decide +kernel, rfl, by decide +kernel, by decide +kernel⟩
theorem ok_be {f : Addr} {fd : FuncData} (F : FunS K "_law_bent" "_law_bent" (top 68) f fd) (V : Rt P w K mg base C) (KT : Kt K) (PI : Df P w K mg base "_law_pick" 2 2 spPick) (PS : Df P w K mg base "_law_pick" 2 2 spPickS) : GnOk P w K mg base 4 f fd ["_law_pot_here", "_law_letters_here", "_law_products_here", "_law_value"] (lift K (spBe K C)) := by
  refine gn_dl F sc_be (fun as Q h => by obtain ⟨_, _, _, _, _, rfl, _⟩ := h; rfl) (fun cdv A outer s H hr hG W as Q h => ?_)
  obtain ⟨z, ps, a, b, c, rfl, hz, p0, p1, pk, ha, a8, a9, hb, hc, q⟩ := h
  have nd := sc_be.nd
  have T := V.T
  have r2 := hr.mono (j := 2) (by decide)
  refine sds_cons (sd_asg (nm 3 (gd_tup rfl (gds_cons (gd_name 4 nd rfl (gds_cons (gd_name 5 nd rfl (gds_cons (gd_name 6 nd rfl (gds_nil ?_))))))) rfl)))
  refine sds_cons (sd_set 7 nd rfl (ed_lst ?_))
  refine ad_cons (ed_tup (ad_cons (nm 5 (ad_cons (nm 4 (ad_cons (nm 6 (ad_nil ⟨[_, _, _], rfl, by simp, ?_⟩))))))))
  refine ad_cons (ed_tup (ad_cons (nm 4 (ad_cons (nm 4 (ad_cons (nm 6 (ad_nil ⟨[_, _, _], rfl, by simp, ?_⟩))))))))
  refine ad_cons (ed_tup (ad_cons (nm 4 (ad_cons (nm 5 (ad_nil ⟨[_, _], rfl, by simp, ?_⟩))))))
  refine ad_cons (ed_tup (ad_cons (nm 4 (ad_cons (nm 5 (ad_cons (nm 6 (ad_cons (nm 6 (ad_nil ⟨[_, _, _, _], rfl, by simp, ?_⟩))))))))))
  refine ad_cons (ed_lst (ad_cons (nm 4 (ad_cons (nm 5 (ad_cons (nm 6 (ad_nil ⟨[_, _, _], rfl, by simp, ?_⟩))))))))
  refine ad_cons (ed_tup (ad_cons (nm 4 (ad_cons (nm 5 (ad_cons (ed_non (ad_nil ⟨[_, _, _], rfl, by simp, ?_⟩))))))))
  refine ad_nil ⟨bt1 (tI a) (tI b) (.str (sg c)), rfl, by simp [bt1], ?_⟩
  refine sds_cons (sd_set 7 nd rfl (ed_bin (nm 7 (ed_lst ?_))))
  refine ad_cons (ed_tup (ad_cons (nm 4 (ad_cons (nm 5 ?_)))))
  refine ad_cons (ed_bin (nm 6 (nm 6 (od_adds (s := sg c) (t := sg c) (by show 1 + 1 ≤ sizeLine; decide) ?_))))
  refine ad_nil ⟨[_, _, _], rfl, by simp, ?_⟩
  refine ad_cons (ed_tup (ad_cons (nm 4 (ad_cons (nm 5 (ad_cons (ed_str (ad_nil ⟨[_, _, _], rfl, by simp, ?_⟩))))))))
  refine ad_cons (ed_tup (ad_cons (nm 4 (ad_cons (nm 5 (ad_cons (ed_str (ad_nil ⟨[_, _, _], rfl, by simp, ?_⟩))))))))
  refine ad_cons (ed_tup (ad_cons (nm 4 (ad_cons (nm 5 (ad_cons (ed_int (ad_nil ⟨[_, _, _], rfl, by simp, ?_⟩))))))))
  refine ad_cons (ed_tup (ad_cons (nm 4 (ad_cons (nm 5 (ad_cons (ed_lst (ad_cons (nm 6 (ad_nil ⟨[_], rfl, by simp, ad_nil ⟨[_, _, _], rfl, by simp, ?_⟩⟩))))))))))
  refine ad_cons (ed_tup (ad_cons (ed_non (ad_cons (nm 5 (ad_cons (nm 6 (ad_nil ⟨[_, _, _], rfl, by simp, ?_⟩))))))))
  refine ad_nil ⟨bt2 (tI a) (tI b) (.str (sg c)) (.str (sg c ++ sg c)), rfl, by simp [bt2], ?_⟩
  refine od_catL (by simp [bt1, bt2]) ?_
  refine sds_cons (sd_set 7 nd rfl (ed_bin (nm 7 (ed_lst ?_))))
  refine ad_cons (ed_tup ?_)
  refine ad_cons (ed_bin (nm 4 (ed_tup (ad_cons (ed_int (ad_nil ⟨[_], rfl, by simp, ?_⟩))))))
  refine od_catT (by rw [List.length_map]; simp; omega) ?_
  refine ad_cons (nm 5 (ad_cons (nm 6 (ad_nil ⟨[_, _, _], rfl, by simp, ?_⟩))))
  refine ad_cons (ed_tup ?_)
  refine ad_cons (nm 4 ?_)
  refine ad_cons (ed_slFrA (nm 5 (ed_int ⟨_, 1, rfl, rfl, ?_⟩)))
  refine ad_cons (nm 6 (ad_nil ⟨[_, _, _], rfl, by simp, ?_⟩))
  refine ad_cons (ed_tup ?_)
  refine ad_cons (ed_fd (fd_mp (d0 := tI a) (f := D.int) (u := fun i : Int => D.int (i + 1)) (l := a) 8 (own := [("_law_count", 8)]) rfl nd (blkOk_by (by show blkC NBe (defScope (top 68)) _ _ = true; decide +kernel)) (fun _ _ _ _ _ => pg_name (i := 8) nd rfl (Or.inl rfl)) (by simp) (by omega) (.inr rfl) (nm 4 rfl) ?_ ?_))
  · intro i hi s2 H0 C2 cl fp
    exact ed_bin (nm 8 (ed_int (od_add rfl)))
  refine ad_cons (nm 5 (ad_cons (nm 6 (ad_nil ⟨[_, _, _], rfl, by simp, ?_⟩))))
  refine ad_cons (ed_tup ?_)
  refine ad_cons (nm 4 (ad_cons (ed_dct0 (ad_cons (nm 6 (ad_nil ⟨[_, _, _], rfl, by simp, ?_⟩))))))
  refine ad_nil ⟨bt3 (tI a) (tI b) (.str (sg c)) (tI (a ++ [0])) (tI (b.drop 1)) (.lst ((a.map (· + 1)).map D.int)), ?_, by simp [bt3], ?_⟩
  · simp [bt3, tI]
  refine od_catL (by simp [bt1, bt2, bt3]) ?_
  refine sds_cons (sd_set 7 nd rfl (ed_bin (nm 7 (ed_lst ?_))))
  refine ad_cons (ed_tup (ad_cons (nm 4 (ad_cons (nm 5 ?_)))))
  refine ad_cons (ed_call PS r2 hG (ad_pot 0 rfl rfl (ad_cons (nm 1 (ad_nil ⟨z, rfl, hz.l1, Nat.lt_of_le_of_lt hz.l8 (by decide), fun c2 hc2 => ad_nil ⟨[_, _, _], rfl, by simp, ?_⟩⟩)))))
  refine ad_cons (ed_tup (ad_cons (nm 4 ?_)))
  refine ad_cons (ed_call PI r2 hG (ad_pot 0 rfl rfl (ad_cons (nm 2 (ad_nil ⟨ps.map tI, rfl, by rw [List.length_map]; exact p0, by rw [List.length_map]; exact p1, fun d hd => ?_⟩)))))
  obtain ⟨k, hk, rfl⟩ := List.mem_map.mp hd
  refine ad_cons (nm 6 (ad_nil ⟨[_, _, _], rfl, by simp, ?_⟩))
  refine ad_cons (ed_tup (ad_cons (nm 6 (ad_cons (nm 4 (ad_cons (nm 5 (ad_nil ⟨[_, _, _], rfl, by simp, ?_⟩))))))))
  refine ad_nil ⟨bt4 (tI a) (tI b) (.str (sg c)) (.str (sg c2)) (tI k), rfl, by simp [bt4], ?_⟩
  refine od_catL (by simp [bt1, bt2, bt3, bt4]) ?_
  refine sds_cons (sd_ret (ed_call PI r2 hG (ad_pot 0 rfl rfl (ad_cons (ed_bin (nm 7 (ed_lst ?_)))))))
  refine ad_cons (ed_tup ?_)
  refine ad_cons (ed_fd (fd_mp (d0 := tI a) (f := D.int) (u := fun i : Int => Ra C (fr (i : Rat))) (l := a) 8 (own := [("_law_count", 8)]) rfl nd (blkOk_by (by show blkC NBe (defScope (top 68)) _ _ = true; decide +kernel)) (fun _ _ _ _ _ => pg_name (i := 8) nd rfl (Or.inl rfl)) (by simp) (by omega) (.inr rfl) (nm 4 rfl) ?_ ?_))
  · intro i hi s2 H0 C2 cl fp
    have bi := ha.int i hi
    refine ed_make V.mk1 (hr.mono (j := 3) (by decide)) hG (ad_cons (nm 8 (ad_nil ⟨i, 1, rfl, by decide, bd_mono bi (by decide), bd_mono (m := 1) (by decide) (by decide), ?_⟩)))
    rw [low_one]
    rfl
  refine ad_cons (nm 5 (ad_cons (nm 6 (ad_nil ⟨[_, _, _], rfl, by simp, ?_⟩))))
  refine ad_cons (ed_tup ?_)
  refine ad_cons (ed_fd (fd_mp (d0 := tI a) (f := D.int) (u := one1) (l := a) 8 (own := [("_law_count", 8)]) rfl nd (blkOk_by (by show blkC NBe (defScope (top 68)) _ _ = true; decide +kernel)) (fun _ _ _ _ _ => pg_name (i := 8) nd rfl (Or.inl rfl)) (by simp) (by omega) (.inr rfl) (nm 4 rfl) ?_ ?_))
  · intro i hi s2 H0 C2 cl fp
    refine ed_ifx (td_cmp (nm 8 (ed_int (od_eqi (kB ?_)))))
    by_cases h1 : i = 1
    · rw [if_pos (decide_eq_true h1)]
      exact ed_bl (if_pos h1).symm
    · rw [if_neg (by simpa using h1)]
      exact nm 8 (if_neg h1).symm
  refine ad_cons (nm 5 (ad_cons (nm 6 (ad_nil ⟨[_, _, _], rfl, by simp, ?_⟩))))
  refine ad_nil ⟨bt5 (tI b) (.str (sg c)) (.lst (a.map fun (i : Int) => Ra C (fr (i : Rat)))) (.lst (a.map one1)), rfl, by simp [bt5], ?_⟩
  refine od_catL (by simp [bt1, bt2, bt3, bt4, bt5]) ?_
  refine ad_nil ⟨_, rfl, by simp [bt1], by simp [bt1, bt2, bt3, bt4, bt5], fun v hv => q v ?_⟩
  rcases List.mem_append.mp hv with hv | hv
  · rcases List.mem_append.mp hv with hv | hv
    · rcases List.mem_append.mp hv with hv | hv
      · rcases List.mem_append.mp hv with hv | hv
        · exact ok_bt1 KT ha hb hc v hv
        · exact ok_bt2 KT ha hb hc v hv
      · exact ok_bt3 ha a8 a9 hb hc v hv
    · exact ok_bt4 KT ha hb (pk k hk) hc (Nat.lt_of_le_of_lt (hz.lo c2 hc2).2 (by decide)) v hv
  · exact ok_bt5 ha hb hc v hv
end
end K25

set_option Elab.async false
set_option linter.all false
set_option maxRecDepth 100000
set_option maxHeartbeats 8000000
/-! k25: _law_values -/
namespace K25
open PySem L2 DL
theorem od_neNilT {X : Cx} {Q : D → Prop} {ls : List (List Int)} (hu : X.A.units + 64 < cLine) (q : Q (.bl (!ls.isEmpty))) : OD X (compareOp .NotEq) (.lst (ls.map tI)) (.lst []) Q := by
  refine od_ned hu (.lst (pyd_tIs ls)) (.lst .nil) (shaped_pIs ls) rfl ?_
  cases ls with
  | nil => exact q
  | cons a l => exact q
/-- the first values -/
def vl0 (z : List Nat) : List D := [.non, .int 0, .bl true, .str (Str.ofString "ab"), .lst [], .tup [], .dcK [], .tup [.tup [], .tup [], .str (Str.ofString "")], .tup [.tup [.int 0], .tup [.int 0], .str (Str.ofString "a")], .tup [.non, .non, .non], .int 7, .str (SX.S z)]
section
variable {P : Program} {w : World} {K : PySem.W.Frag} {mg : Str → Option Value} {base : Heap} {C CB : Addr}
theorem tx_z {z : List Nat} {j : Nat} (hz : LetZ z) : TxP j 20000 (.str (SX.S z)) := (txp_str (k := j) (fun c hc => by
  have : c ∈ z := by simpa [SX.S] using hc
  have := (hz.lo c this).2
  omega) (by rw [SX.S_len]; have := hz.l8; omega)).up (Nat.le_refl _) (by decide)
theorem sm_nil : Sm8 [] := ⟨by decide, nofun⟩
theorem sm_zero : Sm8 [0] := ⟨by decide, by decide⟩
theorem tx_lit {s : Str} {j : Nat} (h : (s.cps.toList.all fun c => decide (c < 128)) = true) (h2 : s.length ≤ 20) : TxP j 20000 (.str s) := (txp_str (k := j) (fun c hc => of_decide_eq_true (List.all_eq_true.mp h c hc)) h2).up (Nat.le_refl _) (by decide)
theorem ok_vl0 (T : Kt K) {z : List Nat} (hz : LetZ z) : ∀ v ∈ vl0 z, Okv K C v := by
  intro v hv
  have up : ∀ {d : D}, TxP 1 20000 d → Shw C d := fun h => .py (h.up (by decide) (by decide))
  have t0 : TxP 1 20000 (.tup []) := txI sm_nil
  have k0 : KnI C (.tup []) := kn_tI sm_nil
  have t1 : TxP 1 20000 (.tup [.int 0]) := txI sm_zero
  have k1 : KnI C (.tup [.int 0]) := kn_tI sm_zero
  unfold vl0 at hv
  simp only [List.mem_cons, List.not_mem_nil, or_false] at hv
  rcases hv with rfl | rfl | rfl | rfl | rfl | rfl | rfl | rfl | rfl | rfl | rfl | rfl
  · exact ok_no .non T.t1 rfl (up (txp_non (by decide)))
  · exact ok_no (.int _) T.t2 rfl (up (txp_int (by decide) (by decide)))
  · exact ok_no (.bl _) T.t3 rfl (up (txp_bl (by decide)))
  · exact ok_no (.str _) T.t4 rfl (up (tx_lit (by decide +kernel) (by decide +kernel)))
  · exact ok_no (.lst _) T.t5 rfl (up (txL sm_nil))
  · exact ok_oth (by decide) (by decide) nofun
  · exact ok_no (.dcK _) T.t6 rfl .emp
  · exact ok_3 k0 k0 (so_s (by decide +kernel)) t0 t0 (tx_lit (by decide +kernel) (by decide +kernel))
  · exact ok_3 k1 k1 (so_s (by decide +kernel)) t1 t1 (tx_lit (by decide +kernel) (by decide +kernel))
  · exact ok_3 kn_n kn_n (so_non T) (txp_non (by decide)) (txp_non (by decide)) (txp_non (by decide))
  · exact ok_no (.int _) T.t2 rfl (up (txp_int (by decide) (by decide)))
  · exact ok_no (.str _) T.t4 rfl (up (tx_z hz))
abbrev spVa (K : PySem.W.Frag) (C : Addr) : SpD := fun as Q => ∃ z, ∃ ps : List (List Int), as = [.pot, .val (.str (SX.S z)), .val (.lst (ps.map tI))] ∧ LetZ z ∧ ps.length < 1000 ∧ (∀ k ∈ ps, Sm8 k ∧ k.length ≤ 8 ∧ ∀ i ∈ k, i.natAbs ≤ 900) ∧ ∀ l, l.length ≤ 40 → (∀ v ∈ l, Okv K C v) → Q (.lst l)
abbrev NVa : List Str := ["_law_pot_here", "_law_letters_here", "_law_products_here", "_law_found", "_law_turn", "_law_value"]
theorem sc_va : FnScope NVa ["_law_pot_here", "_law_letters_here", "_law_products_here"] (defScope (top 69)) := ⟨rfl, rfl, rfl, by decide +kernel, rfl, by decide +kernel, by decide +kernel⟩
theorem ok_va {f : Addr} {fd : FuncData} (F : FunS K "_law_values" "_law_values" (top 69) f fd) (T : Txt K mg C) (KT : Kt K) (G : Df P w K mg base "_law_draw" 1 2 spDraw) (PI : Df P w K mg base "_law_pick" 2 2 spPick) (PS : Df P w K mg base "_law_pick" 2 2 spPickS) (BE : Df P w K mg base "_law_bent" 4 4 (spBe K C)) : GnOk P w K mg base 5 f fd ["_law_pot_here", "_law_letters_here", "_law_products_here"] (lift K (spVa K C)) := by
  refine gn_dl F sc_va (fun as Q h => by obtain ⟨_, _, rfl, _⟩ := h; rfl) (fun cdv A outer s H hr hG W as Q h => ?_)
  obtain ⟨z, ps, rfl, hz, p1, pk, q⟩ := h
  have nd := sc_va.nd
  have r2 := hr.mono (j := 2) (by decide)
  have pk1 : ∀ k ∈ ps, Sm8 k := fun k hk => (pk k hk).1
  refine sds_cons ?_
  refine @sd_own _ _ _ _ _ _ _ _ _ 3 nd rfl (@fd_lst _ _ _ _ _ _ ?_) (Or.inl rfl) rfl (.inr rfl)
  refine @ad_cons _ _ _ _ _ _ (@ed_non _ _ _ _ _ _ ?_) rfl
  refine @ad_cons _ _ _ _ _ _ (@ed_int _ _ _ _ _ _ _ ?_) rfl
  refine @ad_cons _ _ _ _ _ _ (@ed_bl _ _ _ _ _ _ _ ?_) rfl
  refine @ad_cons _ _ _ _ _ _ (@ed_str _ _ _ _ _ _ _ ?_) rfl
  refine @ad_cons _ _ _ _ _ _ (@ed_lst _ _ _ _ _ _ ?_) rfl
  refine @ad_nil _ _ _ _ ⟨[], rfl, by simp, ?_⟩
  refine @ad_cons _ _ _ _ _ _ (@ed_tup _ _ _ _ _ _ _ ?_) rfl
  refine @ad_nil _ _ _ _ ⟨[], rfl, by simp, ?_⟩
  refine @ad_cons _ _ _ _ _ _ (@ed_dct0 _ _ _ _ _ ?_) rfl
  refine @ad_cons _ _ _ _ _ _ (@ed_tup _ _ _ _ _ _ _ ?_) rfl
  refine @ad_cons _ _ _ _ _ _ (@ed_tup _ _ _ _ _ _ _ ?_) rfl
  refine @ad_nil _ _ _ _ ⟨[], rfl, by simp, ?_⟩
  refine @ad_cons _ _ _ _ _ _ (@ed_tup _ _ _ _ _ _ _ ?_) rfl
  refine @ad_nil _ _ _ _ ⟨[], rfl, by simp, ?_⟩
  refine @ad_cons _ _ _ _ _ _ (@ed_str _ _ _ _ _ _ _ ?_) rfl
  refine @ad_nil _ _ _ _ ⟨[_, _, _], rfl, by simp, ?_⟩
  refine @ad_cons _ _ _ _ _ _ (@ed_tup _ _ _ _ _ _ _ ?_) rfl
  refine @ad_cons _ _ _ _ _ _ (@ed_tup _ _ _ _ _ _ _ ?_) rfl
  refine @ad_cons _ _ _ _ _ _ (@ed_int _ _ _ _ _ _ _ ?_) rfl
  refine @ad_nil _ _ _ _ ⟨[_], rfl, by simp, ?_⟩
  refine @ad_cons _ _ _ _ _ _ (@ed_tup _ _ _ _ _ _ _ ?_) rfl
  refine @ad_cons _ _ _ _ _ _ (@ed_int _ _ _ _ _ _ _ ?_) rfl
  refine @ad_nil _ _ _ _ ⟨[_], rfl, by simp, ?_⟩
  refine @ad_cons _ _ _ _ _ _ (@ed_str _ _ _ _ _ _ _ ?_) rfl
  refine @ad_nil _ _ _ _ ⟨[_, _, _], rfl, by simp, ?_⟩
  refine @ad_cons _ _ _ _ _ _ (@ed_tup _ _ _ _ _ _ _ ?_) rfl
  refine @ad_cons _ _ _ _ _ _ (@ed_non _ _ _ _ _ _ ?_) rfl
  refine @ad_cons _ _ _ _ _ _ (@ed_non _ _ _ _ _ _ ?_) rfl
  refine @ad_cons _ _ _ _ _ _ (@ed_non _ _ _ _ _ _ ?_) rfl
  refine @ad_nil _ _ _ _ ⟨[_, _, _], rfl, by simp, ?_⟩
  refine @ad_cons _ _ _ _ _ _ (@ed_int _ _ _ _ _ _ _ ?_) rfl
  refine @ad_cons _ _ _ _ _ _ (nm 1 ?_) rfl
  refine ad_nil ⟨vl0 z, rfl, by simp [vl0], ?_⟩
  obtain ⟨N, hN, h14⟩ : ∃ N : Nat, (if (!ps.isEmpty) = true then (14 : Int) else 0) = (N : Int) ∧ N ≤ 14 ∧ (0 < N → 0 < ps.length) := by
    cases ps with
    | nil => exact ⟨0, rfl, by decide, by decide⟩
    | cons a l => exact ⟨14, rfl, by decide, fun _ => by simp⟩
  refine sds_cons (sd_forR0 (N := N) PassesOwn.never rfl T.range (fun i S' => ∃ l o4 o5, S' = [some .pot, some (.val (.str (SX.S z))), some (.val (.lst (ps.map tI))), some (.own l), o4, o5] ∧ l.length ≤ 12 + 2 * i ∧ ∀ v ∈ l, Okv K C v) ?_ ?_ ?_)
  · refine ad_cons (ed_ifx (td_cmp (nm 2 (ed_lst (ad_nil ⟨[], rfl, by simp, od_neNilT (un64 hr) (kB ?_)⟩)))))
    have h0 : ∃ l o4 o5, [some Sl.pot, some (.val (.str (SX.S z))), some (.val (.lst (ps.map tI))), some (.own (vl0 z)), none, none] = [some Sl.pot, some (.val (.str (SX.S z))), some (.val (.lst (ps.map tI))), some (.own l), o4, o5] ∧ l.length ≤ 12 + 2 * 0 ∧ ∀ v ∈ l, Okv K C v := ⟨vl0 z, none, none, rfl, by simp [vl0], ok_vl0 KT hz⟩
    split
    · rename_i h
      rw [if_pos h] at hN
      exact ed_int (ad_nil ⟨N, by rw [hN], Nat.le_refl _, by omega, h0⟩)
    · rename_i h
      rw [if_neg h] at hN
      exact ed_int (ad_nil ⟨N, by rw [hN], Nat.le_refl _, by omega, h0⟩)
  · rintro i S' hi ⟨l, o4, o5, rfl, ll, lv⟩
    have pp := h14.2 (by omega)
    refine gd_name 4 nd rfl ?_
    refine sds_cons (sd_set 5 nd rfl (ed_tup ?_))
    refine ad_cons (ed_call PI r2 hG (ad_pot 0 rfl rfl (ad_cons (nm 2 (ad_nil ⟨ps.map tI, rfl, by rw [List.length_map]; exact pp, by rw [List.length_map]; exact p1, fun d hd => ?_⟩)))))
    obtain ⟨a, ha, rfl⟩ := List.mem_map.mp hd
    refine ad_cons (ed_call PI r2 hG (ad_pot 0 rfl rfl (ad_cons (nm 2 (ad_nil ⟨ps.map tI, rfl, by rw [List.length_map]; exact pp, by rw [List.length_map]; exact p1, fun d hd => ?_⟩)))))
    obtain ⟨b, hb, rfl⟩ := List.mem_map.mp hd
    refine ad_cons (ed_call PS r2 hG (ad_pot 0 rfl rfl (ad_cons (nm 1 (ad_nil ⟨z, rfl, hz.l1, Nat.lt_of_le_of_lt hz.l8 (by decide), fun c hc => ad_nil ⟨[_, _, _], rfl, by simp, ?_⟩⟩)))))
    have c1 : c < 128 := Nat.lt_of_le_of_lt (hz.lo c hc).2 (by decide)
    obtain ⟨sa, a8, a9⟩ := pk a ha
    obtain ⟨sb, b8, b9⟩ := pk b hb
    have o1 : Okv K C (.tup [.lst (a.map D.int), tI b, .str (sg c)]) := ok_3 (kn_l (fun x hx => by obtain ⟨i, _, rfl⟩ := List.mem_map.mp hx; exact .int i) (by rw [List.length_map]; omega)) (kn_tI sb) so_sg (txL sa) (txI sb) (tx_sg c1)
    have o2 : Okv K C (.tup [tI a, tI b, .str (sg c)]) := ok_3 (kn_tI sa) (kn_tI sb) so_sg (txI sa) (txI sb) (tx_sg c1)
    refine sds_cons (sd_append 3 l rfl rfl (by omega) (ed_imp (Q := fun v => Okv K C v) ?_ fun v hv => ?_))
    · refine ed_ifx (td_cmp (ed_call G (hr.mono (j := 1) (by decide)) hG (ad_pot 0 rfl rfl (ad_cons (ed_int (ad_nil ⟨2, rfl, by decide, by decide, fun d2 hd2 => ed_int (od_eqi (kB ?_))⟩))))))
      split
      · refine ed_tup ?_
        refine ad_cons (ed_fd (fd_list T.list (ed_ix (nm 5 (ed_int ⟨[tI a, tI b, .str (sg c)], 0, tI a, .inr rfl, rfl, rfl, a.map D.int, .inr rfl, ?_⟩)))))
        refine ad_cons (ed_ix (nm 5 (ed_int ⟨[tI a, tI b, .str (sg c)], 1, tI b, .inr rfl, rfl, rfl, ?_⟩)))
        refine ad_cons (ed_ix (nm 5 (ed_int ⟨[tI a, tI b, .str (sg c)], 2, .str (sg c), .inr rfl, rfl, rfl, ?_⟩)))
        exact ad_nil ⟨[_, _, _], rfl, by simp, o1⟩
      · exact nm 5 o2
    · obtain ⟨l1, e1⟩ : ∃ l1, l1 = l ++ [v] := ⟨_, rfl⟩
      have ll1 : l1.length ≤ 12 + 2 * i + 1 := by rw [e1, List.length_append]; simp; omega
      have lv1 : ∀ v ∈ l1, Okv K C v := fun x hx => by
        rw [e1] at hx
        rcases List.mem_append.mp hx with hx | hx
        · exact lv x hx
        · rw [List.mem_singleton.mp hx]; exact hv
      rw [← e1]
      refine sds_cons (sd_append 3 l1 rfl rfl (by omega) (ed_call BE (hr.mono (j := 4) (by decide)) hG (ad_pot 0 rfl rfl (ad_cons (nm 1 (ad_cons (nm 2 (ad_cons (nm 5 (ad_nil ⟨z, ps, a, b, c, rfl, hz, pp, p1, pk1, sa, a8, a9, sb, c1, fun v2 hv2 => ?_⟩))))))))))
      refine sds_nil ⟨l1 ++ [v2], _, _, rfl, by rw [List.length_append]; simp; omega, fun x hx => ?_⟩
      rcases List.mem_append.mp hx with hx | hx
      · exact lv1 x hx
      · rw [List.mem_singleton.mp hx]; exact hv2
  · rintro n S' hn ⟨l, o4, o5, rfl, ll, lv⟩
    refine sds_frz 3 l rfl ?_
    exact sds_cons (sd_ret (nm 3 (q l (by omega) lv)))
end
end K25

set_option Elab.async false
set_option linter.all false
set_option maxRecDepth 100000
set_option maxHeartbeats 8000000
/-! k25: _law_right, law -/
namespace K25
open PySem L2 DL
theorem cd_reprBools {X : Cx} {Q : D → Prop} {a b : Bool} {k : Nat} (hG : X.A.guards = some (gOf X)) (hr : Room k X.A) (q : Q (.str (PyData.list [.bool a, .bool b]).shown)) : CD X (.builtin "repr") [.val (.lst [.bl a, .bl b])] Q := by
  refine cd_repr hG (by have e : (PyData.list [.bool a, .bool b]).depth = 1 := rfl; rw [e]; have := hr.un; omega) (.lst (.cons (.bl a) (.cons (.bl b) .nil))) (by rfl) ?_ q
  cases a <;> cases b <;> decide +kernel
theorem od_isM {X : Cx} {Q : D → Prop} {z : List Nat} {o : Option (List Int × List Int × Nat)} (q : Q (.bl o.isNone)) : OD X (compareOp .Is) (msfD z o) .non Q := od_isN (by cases o with
  | none => exact q
  | some t => exact q)
theorem od_notM {X : Cx} {Q : D → Prop} {z : List Nat} {o : Option (List Int × List Int × Nat)} (q : Q (.bl (!o.isNone))) : OD X (compareOp .IsNot) (msfD z o) .non Q := od_notN (by cases o with
  | none => exact q
  | some t => exact q)
section
variable {P : Program} {w : World} {K : PySem.W.Frag} {mg : Str → Option Value} {base : Heap} {C CB : Addr}
structure ORi (P : Program) (w : World) (K : PySem.W.Frag) (mg : Str → Option Value) (base : Heap) (C CB : Addr) : Prop where
  V : Bt P w K mg base C CB
  kt : Kt K
  rp : Sm P w K mg base C "__repr__" 1 (sp1b C 1900 fun p => .str (reprF p))
  br : Sm P w K mg base CB "__repr__" 5 (spBRepr C CB)
  dw : Df P w K mg base "_law_drawn" 10 1 (spDr C CB)
  mf : Df P w K mg base "misfit" 4 1 (spMf C CB)
  ex : Df P w K mg base "exchanges" 5 1 (spEx C CB)
  lx : Df P w K mg base "_law_exchanges" 3 1 spLx
  lm : Df P w K mg base "_law_is_misfit" 3 3 (spLm K C)
  va : Df P w K mg base "_law_values" 5 3 (spVa K C)
  be : Df P w K mg base "_law_bent" 4 4 (spBe K C)
  im : Df P w K mg base "is_misfit" 7 2 (spIm K C CB)
  imK : DfK P w K mg base "is_misfit" 7 ["value", "blend"] List.reverse (spIm K C CB)
abbrev spRight : SpD := fun as Q => as = [.pot] ∧ Q (.bl true)
abbrev NRi : List Str := ["_law_pot_here", "_law_letters_here", "_law_products_here", "_law_blend_here", "_law_shown", "_law_told", "_law_values_here", "_law_value", "_law_kept", "_law_due", "_law_turn"]
theorem sc_ri : FnScope NRi ["_law_pot_here"] (defScope (top 70)) := ⟨rfl, rfl, rfl, by decide +kernel, rfl, by decide +kernel, by decide +kernel⟩
theorem ok_ri {f : Addr} {fd : FuncData} (F : FunS K "_law_right" "_law_right" (top 70) f fd) (R : ORi P w K mg base C CB) : GnOk P w K mg base 11 f fd ["_law_pot_here"] (lift K spRight) := by
  refine gn_dl F sc_ri (fun as Q h => by obtain ⟨rfl, _⟩ := h; rfl) (fun cdv A outer s H hr hG W as Q h => ?_)
  obtain ⟨rfl, q⟩ := h
  have nd := sc_ri.nd
  have V := R.V
  have T := V.L.V.T
  refine sds_cons (sd_asg (ed_call R.dw hr hG (ad_pot 0 rfl rfl (ad_nil ⟨rfl, fun z m n es hd hz hm ge pk l12 so => gd_tup rfl (gds_cons (gd_name 1 nd rfl (gds_cons (gd_name 2 nd rfl (gds_cons (gd_name 3 nd rfl (gds_nil ?_))))))) rfl⟩))))
  obtain ⟨m1, m4, n8⟩ := dom_le hd
  obtain ⟨ps, eps⟩ : ∃ ps, ps = es.map (·.1) := ⟨_, rfl⟩
  rw [← eps] at pk ⊢
  have hps : ps.length ≤ 12 := by rw [eps, List.length_map]; exact l12
  have kps : ∀ k ∈ ps, k.length = z.length := fun k hk => by rw [hm]; exact pk.len k hk
  have small : ∀ k ∈ ps, Sm8 k ∧ k.length ≤ 8 ∧ ∀ i ∈ k, i.natAbs ≤ 900 := fun k hk => by
    have l1 := pk.len k hk
    have b1 : ∀ i ∈ k, i.natAbs ≤ 9 := fun i hi => by
      have := pk.bd n8 k hk i hi
      omega
    exact ⟨⟨by omega, fun i hi => Nat.le_trans (b1 i hi) (by decide)⟩, by omega, fun i hi => Nat.le_trans (b1 i hi) (by decide)⟩
  have rest : ∀ l : List D, l.length ≤ 60 → (∀ v ∈ l, Okv K C v) → SDs (Bx P w K mg base NRi "_law_right" (top 70) f cdv A outer s H) H W [some .pot, some (.val (.str (SX.S z))), some (.val (.lst (ps.map tI))), some (.val (Bo C CB z n es)), some (.val (.str (blT z es))), some (.val (msfD z (msf z ps))), some (.val (.lst l)), none, none, none, none] ((defBody (top 70)).drop 5) { nx := fun _ => Q .non, rt := Q } := by
    intro l hl hv
    refine sds_cons (sd_forL (l := l) PassesOwn.never rfl (fun i S' => ∃ o7 o8 o9, S' = [some .pot, some (.val (.str (SX.S z))), some (.val (.lst (ps.map tI))), some (.val (Bo C CB z n es)), some (.val (.str (blT z es))), some (.val (msfD z (msf z ps))), some (.val (.lst l)), o7, o8, o9, none]) (nm 6 ⟨rfl, none, none, none, rfl⟩) ?_ ?_)
    · rintro i v S' hi ⟨o7, o8, o9, rfl⟩
      obtain ⟨av, sh⟩ := hv v (List.mem_of_getElem? hi)
      refine gd_name 7 nd rfl ?_
      obtain ⟨t, ht⟩ := cd_reprShw (X := Bx P w K mg base NRi "_law_right" (top 70) f cdv A outer s H) R.rp (hr.mono (j := 6) (by decide)) hG sh
      refine sds_cons (sd_par 8 9 rfl nd rfl rfl (by decide) rfl rfl (ad_cons (ed_callB T.repr (ad_cons (nm 7 (ad_nil (ht _ ?_)))))))
      refine ad_cons (ed_call R.lm (hr.mono (j := 3) (by decide)) hG (ad_cons (nm 1 (ad_cons (nm 2 (ad_cons (nm 7 (ad_nil ⟨z, ps, v, rfl, hz, kps, pk.nn, av, ad_nil ⟨_, _, rfl, ?_⟩⟩))))))))
      obtain ⟨due, edue⟩ : ∃ b, b = msB z ps v := ⟨_, rfl⟩
      rw [← edue]
      refine sds_cons (sd_if (td_of (tw_or (td_cmp (ed_callB T.repr (ad_cons (ed_lst ?_)))))))
      refine ad_cons (ed_call R.im (hr.mono (j := 7) (by decide)) hG (ad_cons (nm 3 (ad_cons (nm 7 (ad_nil ⟨z, n, 10, es, v, rfl, hz, by rw [hm]; exact ge, by omega, av, ?_⟩))))))
      refine ad_cons (ed_callK0 R.imK (hr.mono (j := 7) (by decide)) hG (kd_cons (nm 7 (kd_cons (nm 3 (kd_nil ⟨rfl, z, n, 10, es, v, rfl, hz, by rw [hm]; exact ge, by omega, av, ?_⟩))))))
      rw [← eps, ← edue]
      refine ad_nil ⟨[.bl due, .bl due], rfl, by simp, ad_nil (cd_reprBools hG hr ?_)⟩
      refine ed_callB T.repr (ad_cons (ed_lst (ad_cons (nm 9 (ad_cons (nm 9 (ad_nil ⟨[_, _], rfl, by simp, ad_nil (cd_reprBools hG hr (od_nes (kB ?_)))⟩)))))))
      rw [decide_eq_true rfl]
      show TW _ _ _ _ _
      refine tw_or1 (td_cmp (ed_callB T.repr (ad_cons (nm 7 (ad_nil (ht _ (nm 8 (od_nes (kB ?_)))))))))
      rw [decide_eq_true rfl]
      exact sds_nil (sds_nil ⟨_, _, _, rfl⟩)
    · rintro S' ⟨o7, o8, o9, rfl⟩
      refine sds_cons (sd_ret (ed_cmp (ed_callB T.repr (ad_cons (nm 3 (ad_nil (cd_reprO R.br (hr.mono (j := 6) (by decide)) hG ⟨z, m, n, 10, es, rfl, hz, hm, n8, by decide, ge, by omega, _, rfl, nm 4 (od_eqs ?_)⟩)))))))
      rw [decide_eq_true rfl]
      exact q
  have exn : ((askL ps).all fun t => !(mts ps t.1 t.2.1 t.2.2).isEmpty) = (msf z ps).isNone := (msf_ex kps).symm
  refine sds_cons (sd_asg (ed_tup (ad_cons (ed_callB T.repr (ad_cons (nm 3 (ad_nil (cd_reprO R.br (hr.mono (j := 6) (by decide)) hG ⟨z, m, n, 10, es, rfl, hz, hm, n8, by decide, ge, by omega, _, rfl, ?_⟩))))))))
  refine ad_cons (ed_call R.mf (hr.mono (j := 4) (by decide)) hG (ad_cons (nm 3 (ad_nil ⟨z, m, n, 10, es, rfl, hz, hm, ge, by omega, ?_⟩))))
  refine ad_nil ⟨[_, _], rfl, by simp, ?_⟩
  refine gd_tup rfl (gds_cons (gd_name 4 nd rfl (gds_cons (gd_name 5 nd rfl (gds_nil ?_))))) rfl
  rw [← eps]
  refine sds_cons (sd_if (td_of (tw_or (td_cmp (ed_cmp (nm 5 (ed_non (od_isM ?_))))))))
  refine ed_call R.lx (hr.mono (j := 3) (by decide)) hG (ad_cons (nm 2 (ad_nil ⟨ps, m, rfl, pk.len, by omega, by omega, od_neb (un64 hr) (kB ?_)⟩)))
  rw [exn, decide_eq_true rfl]
  show TW _ _ _ _ _
  refine tw_or1 (td_cmp (ed_call R.ex (hr.mono (j := 5) (by decide)) hG (ad_cons (nm 3 (ad_nil ⟨z, m, n, 10, es, rfl, hz, hm, ge, by omega, ed_cmp (nm 5 (ed_non (od_isM (od_neb (un64 hr) (kB ?_))))) ⟩)))))
  rw [← eps, decide_eq_true rfl]
  show SDs _ _ _ _ _ _
  refine sds_nil (sds_cons (sd_set 6 nd rfl (ed_call R.va (hr.mono (j := 5) (by decide)) hG (ad_pot 0 rfl rfl (ad_cons (nm 1 (ad_cons (nm 2 (ad_nil ⟨z, ps, rfl, hz, by omega, small, fun l ll lv => ?_⟩)))))))))
  obtain hms | ⟨t, hms⟩ : msf z ps = none ∨ ∃ t, msf z ps = some t := by
    cases msf z ps with
    | none => exact .inl rfl
    | some t => exact .inr ⟨t, rfl⟩
  · skip
    refine sds_cons (sd_if (td_cmp (nm 5 (ed_non (od_notM (kB ?_))))))
    rw [show (!(msf z ps).isNone) = false by rw [hms]; rfl]
    exact sds_nil (rest l (by omega) lv)
  · have e1 : msfD z (msf z ps) = .tup [tI t.1, tI t.2.1, .str (sg (z.getD t.2.2 0))] := by rw [hms]; rfl
    obtain ⟨ma, mt⟩ := msf_some hms
    obtain ⟨i1, i2, i3, i4⟩ := mem_ask ma
    obtain ⟨s1, a8, a9⟩ := small _ i1
    obtain ⟨s2, b8, b9⟩ := small _ i2
    have cz : z.getD t.2.2 0 ∈ z := by
      rw [List.getD_eq_getElem?_getD, List.getElem?_eq_getElem i3]
      exact List.getElem_mem _
    obtain ⟨c, ec⟩ : ∃ c, c = z.getD t.2.2 0 := ⟨_, rfl⟩
    rw [← ec] at e1 cz
    have c1 : c < 128 := Nat.lt_of_le_of_lt (hz.lo c cz).2 (by decide)
    have o2 : Okv K C (.tup [tI t.1, tI t.2.1, .str (sg c)]) := ok_3 (kn_tI s1) (kn_tI s2) so_sg (txI s1) (txI s2) (tx_sg c1)
    have o1 : Okv K C (.tup [.lst (t.1.map D.int), .lst (t.2.1.map D.int), .str (sg c)]) := ok_3 (kn_l (fun x hx => by obtain ⟨i, _, rfl⟩ := List.mem_map.mp hx; exact .int i) (by rw [List.length_map]; omega)) (kn_l (fun x hx => by obtain ⟨i, _, rfl⟩ := List.mem_map.mp hx; exact .int i) (by rw [List.length_map]; omega)) so_sg (txL s1) (txL s2) (tx_sg c1)
    have isT : msB z ps (msfD z (msf z ps)) = true := by
      rw [e1, msB_eq hz]
      have c1' : ∀ k : List Int, cnts (tI k) = k := fun k => by
        show (k.map D.int).map toI = k
        rw [List.map_map]
        exact List.map_id' k
      have pb : ∀ k ∈ ps, prB z.length ps (tI k) = true := fun k hk => by
        unfold prB
        rw [c1', decide_eq_true hk, Bool.and_true]
        show (decide ((k.map D.int).length = z.length) && ((k.map D.int).map isC).all id) = true
        rw [List.length_map, decide_eq_true (kps k hk), isC_of (pk.nn k hk)]
        rfl
      have ix : z.idxOf c = t.2.2 := by
        rw [ec, List.getD_eq_getElem?_getD, List.getElem?_eq_getElem i3]
        exact List.Nodup.idxOf_getElem (show z.Nodup from hz.up.imp fun h => Nat.ne_of_lt h) t.2.2 i3
      rw [pb _ i1, pb _ i2, c1', c1', ix, decide_eq_true cz, decide_eq_true i4, mt]
      rfl
    refine sds_cons (sd_if (td_cmp (nm 5 (ed_non (od_notM (kB ?_))))))
    rw [show (!(msf z ps).isNone) = true by rw [hms]; rfl]
    show SDs _ _ _ _ _ _
    refine sds_cons (sd_if (td_not (td_val (ed_call R.lm (hr.mono (j := 3) (by decide)) hG (ad_cons (nm 1 (ad_cons (nm 2 (ad_cons (nm 5 (ad_nil ⟨z, ps, msfD z (msf z ps), rfl, hz, kps, pk.nn, by rw [e1]; exact o2.1, kB ?_⟩)))))))))))
    rw [isT]
    show SDs _ _ _ _ _ _
    refine sds_nil (sds_cons (sd_set 6 nd rfl (ed_bin (ed_bin (nm 6 (ed_lst ?_))))))
    refine ad_cons (nm 5 (ad_cons (ed_tup ?_)))
    refine ad_cons (ed_fd (fd_list T.list (ed_ix (nm 5 (ed_int ⟨[tI t.1, tI t.2.1, .str (sg c)], 0, tI t.1, .inr e1, rfl, rfl, t.1.map D.int, .inr rfl, ?_⟩)))))
    refine ad_cons (ed_fd (fd_list T.list (ed_ix (nm 5 (ed_int ⟨[tI t.1, tI t.2.1, .str (sg c)], 1, tI t.2.1, .inr e1, rfl, rfl, t.2.1.map D.int, .inr rfl, ?_⟩)))))
    refine ad_cons (ed_ix (nm 5 (ed_int ⟨[tI t.1, tI t.2.1, .str (sg c)], 2, .str (sg c), .inr e1, rfl, rfl, ?_⟩)))
    refine ad_nil ⟨[_, _, _], rfl, by simp, ?_⟩
    refine ad_nil ⟨[_, _], rfl, by simp, ?_⟩
    refine od_catL (by simp; omega) ?_
    refine ed_fd (fd_relR (n := 8) (fun _ y => Okv K C y) 10 (own := [("_law_turn", 10)]) rfl nd T.range (blkOk_by (by show blkC NRi (defScope (top 70)) _ _ = true; decide +kernel)) (fun _ _ _ _ _ => pg_name (i := 10) nd rfl (Or.inl rfl)) (by omega) (ad_cons (ed_int (ad_nil rfl))) (by simp) ?_ ?_)
    · intro i hi sh H0 C2 cl fp
      refine ed_call R.be (hr.mono (j := 4) (by decide)) hG (ad_pot 0 rfl rfl (ad_cons (nm 1 (ad_cons (nm 2 (ad_cons (nm 5 (ad_nil ⟨z, ps, t.1, t.2.1, c, by rw [← e1], hz, List.length_pos_of_mem i1, by omega, fun k hk => (small k hk).1, s1, a8, a9, s2, c1, fun v hv => hv⟩))))))))
    · intro out ho
      refine od_catL (by have := ho.1; simp; omega) ?_
      refine sds_nil (rest _ (by have := ho.1; simp; omega) fun v hv => ?_)
      rcases List.mem_append.mp hv with hv | hv
      · rcases List.mem_append.mp hv with hv | hv
        · exact lv v hv
        · simp only [List.mem_cons, List.not_mem_nil, or_false] at hv
          rcases hv with rfl | rfl
          · rw [e1]; exact o2
          · exact o1
      · obtain ⟨i, hi, e⟩ := List.getElem_of_mem hv
        obtain ⟨y', e1, p⟩ := ho.2 i (by rw [← ho.1]; exact hi)
        rw [List.getElem?_eq_getElem hi] at e1
        cases e1
        rw [← e]
        exact p
abbrev spLaw : SpD := fun as Q => ∃ ns : List Int, as = [.val (.frl ns)] ∧ Q (.bl true)
theorem sc_law : FnScope ["_law_script", "_law_k"] ["_law_script"] (defScope (top 71)) := ⟨rfl, rfl, rfl, by decide +kernel, rfl, by decide +kernel, by decide +kernel⟩
theorem ok_law {f : Addr} {fd : FuncData} (F : FunS K "law" "law" (top 71) f fd) (T : Txt K mg C) (hmin : mg "min" = none) (Pt : Nf P w K mg base "_law_pot" 1 spPot) (R : Df P w K mg base "_law_right" 11 1 spRight) : GnOk P w K mg base 13 f fd ["_law_script"] (lift K spLaw) := by
  refine gn_dl F sc_law (fun as Q h => by obtain ⟨_, rfl, _⟩ := h; rfl) (fun cdv A outer s H hr hG W as Q h => ?_)
  obtain ⟨ns, rfl, q⟩ := h
  have nd := sc_law.nd
  obtain ⟨n, hn, n2⟩ : ∃ n : Nat, (if (if (2 : Int) < (ns.length : Int) then 2 else (ns.length : Int)) > 1 then (if (2 : Int) < (ns.length : Int) then 2 else (ns.length : Int)) else 1) = (n : Int) ∧ n ≤ 2 := by
    refine ⟨(if (if (2 : Int) < (ns.length : Int) then 2 else (ns.length : Int)) > 1 then (if (2 : Int) < (ns.length : Int) then 2 else (ns.length : Int)) else 1).toNat, ?_, ?_⟩
    · split <;> split at * <;> omega
    · split <;> split at * <;> omega
  refine sds_cons (sd_ret (ed_callB T.all (ad_cons (ed_fd (fd_relR (n := n) (fun _ y => y = .bl true) 1 (own := [("_law_k", 1)]) rfl nd T.range (blkOk_by (by show blkC ["_law_script", "_law_k"] (defScope (top 71)) _ _ = true; decide +kernel)) (fun _ _ _ _ _ => pg_name (i := 1) nd rfl (Or.inl rfl)) (by omega) ?_ (by simp) ?_ ?_)))))
  · refine ad_cons (ed_callB T.max (ad_cons (ed_int (ad_cons (ed_callB hmin (ad_cons (ed_callB T.len (ad_cons (nm 0 (ad_nil (cd_lenF (ad_cons (ed_int (ad_nil (cd_min2 rfl (ad_nil (cd_max rfl (ad_nil ?_))))))))))))))))))
    rw [hn]
  · intro i hi s2 H0 C2 cl fp
    exact ed_call R (hr.mono (by decide)) hG (ad_newpot (fd_callN Pt (hr.mono (j := 1) (by decide)) hG (ad_cons (nm 0 (ad_cons (nm 1 (ad_nil ⟨ns, i, rfl, by omega, fun a b h => ⟨a, b, rfl, h, ad_nil ⟨rfl, rfl⟩⟩⟩)))))))
  · intro out ho
    refine ad_nil (cd_allT rfl (fun y hy => ?_) q)
    obtain ⟨i, hi, e⟩ := List.getElem_of_mem hy
    obtain ⟨y', e1, p⟩ := ho.2 i (by rw [← ho.1]; exact hi)
    rw [List.getElem?_eq_getElem hi] at e1
    cases e1
    rw [← e]
    exact p
end
end K25

set_option Elab.async false
set_option linter.all false
set_option maxRecDepth 100000
set_option maxHeartbeats 8000000
/-! k25: what the top has written, put together -/
namespace K25
open PySem L2 DL PySem.Spec PyProof.Rows
theorem kit_ref {K : PySem.W.Frag} {t : Value} {C : Addr} {b : Bool} (hd : PySem.W.hasDictIn K C = true) (ty : PySem.W.typeIn K (.ref C) = some (.type "type")) (n : ¬ t = .ref C) (s : PySem.W.subIn K t (.ref C) = some b) : PySem.W.kitOne K t (.ref C) = some b := by
  obtain ⟨cd, hc, _⟩ := PySem.W.any_some hd
  unfold PySem.W.kitOne
  rw [if_neg (by simpa using n)]
  show (if ((PySem.W.clsIn K C).isSome && PySem.W.typeIn K (.ref C) == some (.type "type")) = true then PySem.W.subIn K t (.ref C) else none) = some b
  rw [hc, ty, if_pos (by simp)]
  exact s
theorem kit_tyc {K : PySem.W.Frag} {C : Addr} {T : String} {b : Bool} (m : PySem.W.kitMeta T = true) (s : PySem.W.subIn K (.ref C) (.type T) = some b) : PySem.W.kitOne K (.ref C) (.type T) = some b := by
  unfold PySem.W.kitOne
  rw [if_neg (by simp)]
  show (if PySem.W.kitMeta T = true then PySem.W.subIn K (.ref C) (.type T) else none) = some b
  rw [if_pos m]
  exact s
theorem paired_rev {α β : Type} {R : α → β → Prop} : ∀ {l : List α} {m : List β}, Paired R l m → Paired R l.reverse m.reverse
  | _, _, .nil => .nil
  | _, _, .cons h t => by
    rw [List.reverse_cons, List.reverse_cons]
    exact Paired.snoc h (paired_rev t)
theorem fund1 {K : PySem.W.Frag} {x qual : Str} {st : Stmt} {f T : Addr} {oc : Value} {od an : Option Addr} {osl : Array (Option Value)} {kV doc pm cdv ct : Value} {tk : PySem.Tok} {oT : Value} {dT : Option Addr} {n : Nat} {sT : Array (Option Value)}
    (l : K.lookup f = some ⟨oc, od, .func (PySem.W.fnOf x qual (defArgs st) (defBody st) (defScope st) (.ref T) kV doc pm an cdv ct), osl⟩) (c : PySem.W.codeIn K cdv qual = true) (k : PySem.W.keepIn K (.ref f) = true) (t : K.lookup T = some ⟨oT, dT, .seq [Value.int 1 tk].toArray n, sT⟩) :
    FunD K x qual (defArgs st) (defBody st) (defScope st) [.int 1] [] f (PySem.W.fnOf x qual (defArgs st) (defBody st) (defScope st) (.ref T) kV doc pm an cdv ct) :=
  ⟨⟨oc, od, .ref T, kV, doc, pm, an, cdv, ct, osl, rfl, l, c, .inr ⟨by simp, T, _, [.int 1 tk], n, rfl, t, rfl, .cons ⟨tk, rfl⟩ .nil⟩, .inl rfl⟩, k⟩
theorem law_gives {K : PySem.W.Frag} (H : Hp) (a : Addr) (ns : List Int) (h : SqL K H a (ns.map V.int)) : lift K spLaw [] [.ref a] H fun v _ => v = .bl true :=
  ⟨[.val (.frl ns)], ⟨H, fun _ => False⟩, fun d => d = .bl true, ⟨fun b ⟨_, _, _, z⟩ => absurd z List.not_mem_nil, Ex.refl H, fun _ z => z.elim⟩, .cons (.frl h) .nil, ⟨ns, rfl, rfl⟩, fun d v W' H' _ _ n q => by
    cases n <;> first | rfl | (cases q; done) | (cases q; rfl)⟩
theorem fun_kbnG {K : PySem.W.Frag} {x qual : Str} {st : Stmt} {f : Addr} {fd : FuncData} {ps : List Str} {n : Nat} {ks : List Str} (g : ∀ {α : Type}, List α → List α) (hg : ∀ {α β : Type} {R : α → β → Prop} {l : List α} {m : List β}, Paired R l m → Paired R (g l) (g m)) (F : Fun K x qual st f fd)
    (h : ∀ (kV doc pm : Value) (an : Option Addr) (cdv ct : Value) (us ws : List Value), us.length = n → ws.length = ks.length → bindArgs (PySem.W.fnOf x qual (defArgs st) (defBody st) (defScope st) .none kV doc pm an cdv ct) ⟨us, ks.zip ws⟩ = pure (ps.zip (us ++ g ws))) :
    KBn K fd ps n ks (fun us ws => us ++ g ws) (fun vs zs => vs ++ g zs) := by
  obtain ⟨oc, od, kV, doc, pm, an, cdv, ct, osl, rfl, lk, hcd⟩ := F.ex
  exact ⟨fun s us ws _ l1 l2 => .of_eq (h kV doc pm an cdv ct us ws l1 l2), fun r1 r2 => r1.append (hg r2)⟩
theorem fundT {K : PySem.W.Frag} {x qual : Str} {st : Stmt} {f T T2 : Addr} {oc : Value} {od an : Option Addr} {osl : Array (Option Value)} {kV doc pm cdv ct : Value} {oT : Value} {dT : Option Addr} {n : Nat} {sT : Array (Option Value)}
    (l : K.lookup f = some ⟨oc, od, .func (PySem.W.fnOf x qual (defArgs st) (defBody st) (defScope st) (.ref T) kV doc pm an cdv ct), osl⟩) (c : PySem.W.codeIn K cdv qual = true) (k : PySem.W.keepIn K (.ref f) = true) (t : K.lookup T = some ⟨oT, dT, .seq [Value.ref T2].toArray n, sT⟩) :
    FunD K x qual (defArgs st) (defBody st) (defScope st) [.ref T2] [] f (PySem.W.fnOf x qual (defArgs st) (defBody st) (defScope st) (.ref T) kV doc pm an cdv ct) :=
  ⟨⟨oc, od, .ref T, kV, doc, pm, an, cdv, ct, osl, rfl, l, c, .inr ⟨by simp, T, _, [.ref T2], n, rfl, t, rfl, .cons rfl .nil⟩, .inl rfl⟩, k⟩
theorem lw_mk {P : Program} {w : World} {K : PySem.W.Frag} {h : Heap} {mg : Str → Option Value} {fa : Addr} (X : K.In h) (G : h.Ns mainGlobals mg) (hfa : mg "law" = some (.ref fa))
    {C CB f_init f_binit T2 f_isint f_iscount f_islist f_counts f_small f_rising f_isnum f_above f_ratof f_let f_gath f_entry f_ck f_lo f_po f_ex f_mf f_im f_pds f_as f_ak f_ot f_fm f_bs f_td f_pot f_draw f_pick f_mix f_lt f_ac f_fo f_pd f_sz f_amt f_bld f_dw f_mv f_mt f_ls f_lx f_lp f_lm f_be f_va f_right f_law f_add f_radd f_mul f_rmul f_eq f_repr f_bents f_bam f_beq f_brep f_ptop f_pbot f_psign f_blet f_bdeg f_bno p_ptop p_pbot p_psign p_blet p_bdeg p_bno : Addr} {r_ptop r_pbot r_psign r_blet r_bdeg r_bno : List Value} {rlm rla : Option Value} {tk1 tk2 tk3 : PySem.Tok} {dd2 : Option Addr} {n2 : Nat} {s2 : Array (Option Value)}
    (aC : PySem.W.nsIn K mainGlobals "Ratio" = some (some (.ref C)))
    (aCB : PySem.W.nsIn K mainGlobals "Blend" = some (some (.ref CB)))
    (a_isint : PySem.W.nsIn K mainGlobals "is_integer" = some (some (.ref f_isint)))
    (F_isint : ∃ fd, Fun K "is_integer" "is_integer" (top 3) f_isint fd)
    (a_iscount : PySem.W.nsIn K mainGlobals "is_count" = some (some (.ref f_iscount)))
    (F_iscount : ∃ fd, Fun K "is_count" "is_count" (top 4) f_iscount fd)
    (a_islist : PySem.W.nsIn K mainGlobals "is_list" = some (some (.ref f_islist)))
    (F_islist : ∃ fd, Fun K "is_list" "is_list" (top 5) f_islist fd)
    (a_counts : PySem.W.nsIn K mainGlobals "is_counts" = some (some (.ref f_counts)))
    (F_counts : ∃ fd, Fun K "is_counts" "is_counts" (top 6) f_counts fd)
    (a_small : PySem.W.nsIn K mainGlobals "is_small_letter" = some (some (.ref f_small)))
    (F_small : ∃ fd, Fun K "is_small_letter" "is_small_letter" (top 7) f_small fd)
    (a_rising : PySem.W.nsIn K mainGlobals "is_rising" = some (some (.ref f_rising)))
    (F_rising : ∃ fd, Fun K "is_rising" "is_rising" (top 8) f_rising fd)
    (a_isnum : PySem.W.nsIn K mainGlobals "is_number" = some (some (.ref f_isnum)))
    (F_isnum : ∃ fd, Fun K "is_number" "is_number" (top 22) f_isnum fd)
    (a_above : PySem.W.nsIn K mainGlobals "is_above" = some (some (.ref f_above)))
    (F_above : ∃ fd, Fun K "is_above" "is_above" (top 23) f_above fd)
    (a_ratof : PySem.W.nsIn K mainGlobals "ratio_of" = some (some (.ref f_ratof)))
    (F_ratof : ∃ fd, Fun K "ratio_of" "ratio_of" (top 24) f_ratof fd)
    (a_let : PySem.W.nsIn K mainGlobals "is_letters" = some (some (.ref f_let)))
    (F_let : ∃ fd, Fun K "is_letters" "is_letters" (top 30) f_let fd)
    (a_gath : PySem.W.nsIn K mainGlobals "gathered" = some (some (.ref f_gath)))
    (F_gath : ∃ fd, Fun K "gathered" "gathered" (top 31) f_gath fd)
    (a_entry : PySem.W.nsIn K mainGlobals "_is_entry" = some (some (.ref f_entry)))
    (F_entry : ∃ fd, Fun K "_is_entry" "_is_entry" (top 32) f_entry fd)
    (a_ck : PySem.W.nsIn K mainGlobals "check_blend" = some (some (.ref f_ck)))
    (F_ck : ∃ fd, Fun K "check_blend" "check_blend" (top 35) f_ck fd)
    (a_lo : PySem.W.nsIn K mainGlobals "is_letter_of" = some (some (.ref f_lo)))
    (F_lo : ∃ fd, Fun K "is_letter_of" "is_letter_of" (top 36) f_lo fd)
    (a_po : PySem.W.nsIn K mainGlobals "is_product_of" = some (some (.ref f_po)))
    (F_po : ∃ fd, Fun K "is_product_of" "is_product_of" (top 37) f_po fd)
    (a_ex : PySem.W.nsIn K mainGlobals "exchanges" = some (some (.ref f_ex)))
    (F_ex : ∃ fd, Fun K "exchanges" "exchanges" (top 39) f_ex fd)
    (a_mf : PySem.W.nsIn K mainGlobals "misfit" = some (some (.ref f_mf)))
    (F_mf : ∃ fd, Fun K "misfit" "misfit" (top 40) f_mf fd)
    (a_im : PySem.W.nsIn K mainGlobals "is_misfit" = some (some (.ref f_im)))
    (F_im : ∃ fd, Fun K "is_misfit" "is_misfit" (top 41) f_im fd)
    (a_pds : PySem.W.nsIn K mainGlobals "_products" = some (some (.ref f_pds)))
    (F_pds : ∃ fd, Fun K "_products" "_products" (top 42) f_pds fd)
    (a_as : PySem.W.nsIn K mainGlobals "_all_asked" = some (some (.ref f_as)))
    (F_as : ∃ fd, Fun K "_all_asked" "_all_asked" (top 43) f_as fd)
    (a_ak : PySem.W.nsIn K mainGlobals "_is_asked" = some (some (.ref f_ak)))
    (F_ak : ∃ fd, Fun K "_is_asked" "_is_asked" (top 44) f_ak fd)
    (a_ot : PySem.W.nsIn K mainGlobals "_is_oftener" = some (some (.ref f_ot)))
    (F_ot : ∃ fd, Fun K "_is_oftener" "_is_oftener" (top 45) f_ot fd)
    (a_fm : PySem.W.nsIn K mainGlobals "_first_mate" = some (some (.ref f_fm)))
    (F_fm : ∃ fd, Fun K "_first_mate" "_first_mate" (top 46) f_fm fd)
    (a_bs : PySem.W.nsIn K mainGlobals "_both_stay" = some (some (.ref f_bs)))
    (F_bs : ∃ fd, Fun K "_both_stay" "_both_stay" (top 47) f_bs fd)
    (a_td : PySem.W.nsIn K mainGlobals "_traded" = some (some (.ref f_td)))
    (F_td : ∃ fd, Fun K "_traded" "_traded" (top 48) f_td fd)
    (a_pot : PySem.W.nsIn K mainGlobals "_law_pot" = some (some (.ref f_pot)))
    (F_pot : ∃ fd, Fun K "_law_pot" "_law_pot" (top 50) f_pot fd)
    (a_draw : PySem.W.nsIn K mainGlobals "_law_draw" = some (some (.ref f_draw)))
    (F_draw : ∃ fd, Fun K "_law_draw" "_law_draw" (top 51) f_draw fd)
    (a_pick : PySem.W.nsIn K mainGlobals "_law_pick" = some (some (.ref f_pick)))
    (F_pick : ∃ fd, Fun K "_law_pick" "_law_pick" (top 52) f_pick fd)
    (a_mix : PySem.W.nsIn K mainGlobals "_law_mixed" = some (some (.ref f_mix)))
    (F_mix : ∃ fd, Fun K "_law_mixed" "_law_mixed" (top 53) f_mix fd)
    (a_lt : PySem.W.nsIn K mainGlobals "_law_letters" = some (some (.ref f_lt)))
    (F_lt : ∃ fd, Fun K "_law_letters" "_law_letters" (top 54) f_lt fd)
    (a_ac : PySem.W.nsIn K mainGlobals "_law_counts" = some (some (.ref f_ac)))
    (F_ac : ∃ fd, Fun K "_law_counts" "_law_counts" (top 55) f_ac fd)
    (a_fo : PySem.W.nsIn K mainGlobals "_law_forms" = some (some (.ref f_fo)))
    (F_fo : ∃ fd, Fun K "_law_forms" "_law_forms" (top 56) f_fo fd)
    (a_pd : PySem.W.nsIn K mainGlobals "_law_products" = some (some (.ref f_pd)))
    (F_pd : ∃ fd, Fun K "_law_products" "_law_products" (top 57) f_pd fd)
    (a_sz : PySem.W.nsIn K mainGlobals "_law_size" = some (some (.ref f_sz)))
    (F_sz : ∃ fd, Fun K "_law_size" "_law_size" (top 58) f_sz fd)
    (a_amt : PySem.W.nsIn K mainGlobals "_law_amount" = some (some (.ref f_amt)))
    (F_amt : ∃ fd, Fun K "_law_amount" "_law_amount" (top 59) f_amt fd)
    (a_bld : PySem.W.nsIn K mainGlobals "_law_blend" = some (some (.ref f_bld)))
    (F_bld : ∃ fd, Fun K "_law_blend" "_law_blend" (top 60) f_bld fd)
    (a_dw : PySem.W.nsIn K mainGlobals "_law_drawn" = some (some (.ref f_dw)))
    (F_dw : ∃ fd, Fun K "_law_drawn" "_law_drawn" (top 61) f_dw fd)
    (a_mv : PySem.W.nsIn K mainGlobals "_law_moved" = some (some (.ref f_mv)))
    (F_mv : ∃ fd, Fun K "_law_moved" "_law_moved" (top 62) f_mv fd)
    (a_mt : PySem.W.nsIn K mainGlobals "_law_mates" = some (some (.ref f_mt)))
    (F_mt : ∃ fd, Fun K "_law_mates" "_law_mates" (top 63) f_mt fd)
    (a_ls : PySem.W.nsIn K mainGlobals "_law_asked" = some (some (.ref f_ls)))
    (F_ls : ∃ fd, Fun K "_law_asked" "_law_asked" (top 64) f_ls fd)
    (a_lx : PySem.W.nsIn K mainGlobals "_law_exchanges" = some (some (.ref f_lx)))
    (F_lx : ∃ fd, Fun K "_law_exchanges" "_law_exchanges" (top 65) f_lx fd)
    (a_lp : PySem.W.nsIn K mainGlobals "_law_product" = some (some (.ref f_lp)))
    (F_lp : ∃ fd, Fun K "_law_product" "_law_product" (top 66) f_lp fd)
    (a_lm : PySem.W.nsIn K mainGlobals "_law_is_misfit" = some (some (.ref f_lm)))
    (F_lm : ∃ fd, Fun K "_law_is_misfit" "_law_is_misfit" (top 67) f_lm fd)
    (a_be : PySem.W.nsIn K mainGlobals "_law_bent" = some (some (.ref f_be)))
    (F_be : ∃ fd, Fun K "_law_bent" "_law_bent" (top 68) f_be fd)
    (a_va : PySem.W.nsIn K mainGlobals "_law_values" = some (some (.ref f_va)))
    (F_va : ∃ fd, Fun K "_law_values" "_law_values" (top 69) f_va fd)
    (a_right : PySem.W.nsIn K mainGlobals "_law_right" = some (some (.ref f_right)))
    (F_right : ∃ fd, Fun K "_law_right" "_law_right" (top 70) f_right fd)
    (a_law : PySem.W.nsIn K mainGlobals "law" = some (some (.ref f_law)))
    (F_law : ∃ fd, Fun K "law" "law" (top 71) f_law fd)
    (a_init : PySem.W.findIn K (.ref C) "__init__" = some (some (.ref f_init)))
    (i_init : PySem.W.isFn K (.ref f_init) = true)
    (F_init : ∃ fd, FunD K "__init__" "Ratio.__init__" (defArgs sInit) (defBody sInit) (defScope sInit) [.int 1] [] f_init fd)
    (a_binit : PySem.W.findIn K (.ref CB) "__init__" = some (some (.ref f_binit)))
    (i_binit : PySem.W.isFn K (.ref f_binit) = true)
    (F_binit : ∃ fd, FunD K "__init__" "Blend.__init__" (defArgs (ble 0)) (defBody (ble 0)) (defScope (ble 0)) [.ref T2] [] f_binit fd)
    (t2 : K.lookup T2 = some ⟨.type "tuple", dd2, .seq #[] n2, s2⟩)
    (a_add : PySem.W.findIn K (.ref C) "__add__" = some (some (.ref f_add)))
    (i_add : PySem.W.isFn K (.ref f_add) = true)
    (F_add : ∃ fd, Fun K "__add__" "Ratio.__add__" (rat 5) f_add fd)
    (a_radd : PySem.W.findIn K (.ref C) "__radd__" = some (some (.ref f_radd)))
    (i_radd : PySem.W.isFn K (.ref f_radd) = true)
    (F_radd : ∃ fd, Fun K "__radd__" "Ratio.__radd__" (rat 6) f_radd fd)
    (a_mul : PySem.W.findIn K (.ref C) "__mul__" = some (some (.ref f_mul)))
    (i_mul : PySem.W.isFn K (.ref f_mul) = true)
    (F_mul : ∃ fd, Fun K "__mul__" "Ratio.__mul__" (rat 9) f_mul fd)
    (a_rmul : PySem.W.findIn K (.ref C) "__rmul__" = some (some (.ref f_rmul)))
    (i_rmul : PySem.W.isFn K (.ref f_rmul) = true)
    (F_rmul : ∃ fd, Fun K "__rmul__" "Ratio.__rmul__" (rat 10) f_rmul fd)
    (a_eq : PySem.W.findIn K (.ref C) "__eq__" = some (some (.ref f_eq)))
    (i_eq : PySem.W.isFn K (.ref f_eq) = true)
    (F_eq : ∃ fd, Fun K "__eq__" "Ratio.__eq__" (rat 17) f_eq fd)
    (a_repr : PySem.W.findIn K (.ref C) "__repr__" = some (some (.ref f_repr)))
    (i_repr : PySem.W.isFn K (.ref f_repr) = true)
    (F_repr : ∃ fd, Fun K "__repr__" "Ratio.__repr__" (rat 19) f_repr fd)
    (a_ptop : PySem.W.findIn K (.ref C) "top" = some (some (.ref p_ptop)))
    (g_ptop : PySem.W.specialIn K (.ref p_ptop) "__get__" = some (some (.builtin "property.__get__")))
    (t_ptop : PySem.W.takesIn K (.ref p_ptop) = some true)
    (c_ptop : PySem.W.recIn K p_ptop "property" = some (.ref f_ptop :: r_ptop))
    (F_ptop : ∃ fd, Fun K "top" "Ratio.top" (rat 1) f_ptop fd)
    (a_pbot : PySem.W.findIn K (.ref C) "bottom" = some (some (.ref p_pbot)))
    (g_pbot : PySem.W.specialIn K (.ref p_pbot) "__get__" = some (some (.builtin "property.__get__")))
    (t_pbot : PySem.W.takesIn K (.ref p_pbot) = some true)
    (c_pbot : PySem.W.recIn K p_pbot "property" = some (.ref f_pbot :: r_pbot))
    (F_pbot : ∃ fd, Fun K "bottom" "Ratio.bottom" (rat 2) f_pbot fd)
    (a_psign : PySem.W.findIn K (.ref C) "sign" = some (some (.ref p_psign)))
    (g_psign : PySem.W.specialIn K (.ref p_psign) "__get__" = some (some (.builtin "property.__get__")))
    (t_psign : PySem.W.takesIn K (.ref p_psign) = some true)
    (c_psign : PySem.W.recIn K p_psign "property" = some (.ref f_psign :: r_psign))
    (F_psign : ∃ fd, Fun K "sign" "Ratio.sign" (rat 3) f_psign fd)
    (a_bents : PySem.W.findIn K (.ref CB) "entries" = some (some (.ref f_bents)))
    (i_bents : PySem.W.isFn K (.ref f_bents) = true)
    (F_bents : ∃ fd, Fun K "entries" "Blend.entries" (ble 5) f_bents fd)
    (a_bam : PySem.W.findIn K (.ref CB) "amount" = some (some (.ref f_bam)))
    (i_bam : PySem.W.isFn K (.ref f_bam) = true)
    (F_bam : ∃ fd, Fun K "amount" "Blend.amount" (ble 6) f_bam fd)
    (a_beq : PySem.W.findIn K (.ref CB) "__eq__" = some (some (.ref f_beq)))
    (i_beq : PySem.W.isFn K (.ref f_beq) = true)
    (F_beq : ∃ fd, Fun K "__eq__" "Blend.__eq__" (ble 10) f_beq fd)
    (a_brep : PySem.W.findIn K (.ref CB) "__repr__" = some (some (.ref f_brep)))
    (i_brep : PySem.W.isFn K (.ref f_brep) = true)
    (F_brep : ∃ fd, Fun K "__repr__" "Blend.__repr__" (ble 11) f_brep fd)
    (a_blet : PySem.W.findIn K (.ref CB) "letters" = some (some (.ref p_blet)))
    (g_blet : PySem.W.specialIn K (.ref p_blet) "__get__" = some (some (.builtin "property.__get__")))
    (t_blet : PySem.W.takesIn K (.ref p_blet) = some true)
    (c_blet : PySem.W.recIn K p_blet "property" = some (.ref f_blet :: r_blet))
    (F_blet : ∃ fd, Fun K "letters" "Blend.letters" (ble 1) f_blet fd)
    (a_bdeg : PySem.W.findIn K (.ref CB) "degree" = some (some (.ref p_bdeg)))
    (g_bdeg : PySem.W.specialIn K (.ref p_bdeg) "__get__" = some (some (.builtin "property.__get__")))
    (t_bdeg : PySem.W.takesIn K (.ref p_bdeg) = some true)
    (c_bdeg : PySem.W.recIn K p_bdeg "property" = some (.ref f_bdeg :: r_bdeg))
    (F_bdeg : ∃ fd, Fun K "degree" "Blend.degree" (ble 2) f_bdeg fd)
    (a_bno : PySem.W.findIn K (.ref CB) "is_nought" = some (some (.ref p_bno)))
    (g_bno : PySem.W.specialIn K (.ref p_bno) "__get__" = some (some (.builtin "property.__get__")))
    (t_bno : PySem.W.takesIn K (.ref p_bno) = some true)
    (c_bno : PySem.W.recIn K p_bno "property" = some (.ref f_bno :: r_bno))
    (F_bno : ∃ fd, Fun K "is_nought" "Blend.is_nought" (ble 3) f_bno fd)
    (pg : PySem.W.plainGet K C Str.empty = true)
    (hd : PySem.W.hasDictIn K C = true)
    (po : PySem.W.plainOver K C = true)
    (sa : PySem.W.findIn K (.ref C) "__setattr__" = some (some (.builtin "object.__setattr__")))
    (mk : PySem.W.makesIn K C = true)
    (kc : PySem.W.keepIn K (.ref C) = true)
    (nT : PySem.W.findIn K (.ref C) "_top" = some none)
    (nB : PySem.W.findIn K (.ref C) "_bottom" = some none)
    (ne : PySem.W.findIn K (.ref C) "__ne__" = some (some (.builtin "object.__ne__")))
    (sf : PySem.W.selfFirst K C = true)
    (nf : PySem.W.notFirst K C (.ref C) = true)
    (ni : PySem.W.notFirst K C (.type "int") = true)
    (sub_is : PySem.W.subIn K (.ref C) (.type "int") = some false)
    (sub_ob : PySem.W.subIn K (.ref C) (.type "object") = some true)
    (sub_li : PySem.W.subIn K (.ref C) (.type "list") = some false)
    (sub_tu : PySem.W.subIn K (.ref C) (.type "tuple") = some false)
    (ca : PySem.W.findIn K (.ref C) "__class__" = some (some (.builtin "object.__class__")))
    (cm : PySem.W.mroIn K C (.type "object") = some true)
    (pgB : PySem.W.plainGet K CB Str.empty = true)
    (hdB : PySem.W.hasDictIn K CB = true)
    (poB : PySem.W.plainOver K CB = true)
    (saB : PySem.W.findIn K (.ref CB) "__setattr__" = some (some (.builtin "object.__setattr__")))
    (mkB : PySem.W.makesIn K CB = true)
    (kcB : PySem.W.keepIn K (.ref CB) = true)
    (nL : PySem.W.findIn K (.ref CB) "_letters" = some none)
    (nD : PySem.W.findIn K (.ref CB) "_degree" = some none)
    (nA : PySem.W.findIn K (.ref CB) "_amounts" = some none)
    (neB : PySem.W.findIn K (.ref CB) "__ne__" = some (some (.builtin "object.__ne__")))
    (sfB : PySem.W.selfFirst K CB = true)
    (nfB : PySem.W.notFirst K CB (.ref CB) = true)
    (niB : PySem.W.notFirst K CB (.type "int") = true)
    (sub_isB : PySem.W.subIn K (.ref CB) (.type "int") = some false)
    (sub_obB : PySem.W.subIn K (.ref CB) (.type "object") = some true)
    (caB : PySem.W.findIn K (.ref CB) "__class__" = some (some (.builtin "object.__class__")))
    (cmB : PySem.W.mroIn K CB (.type "object") = some true)
    (cn : PySem.W.specialIn K (.builtin "object.__class__") "__get__" = some (some (.builtin "getset_descriptor.__get__")))
    (ct : PySem.W.takesIn K (.builtin "object.__class__") = some true)
    (tyCB : PySem.W.typeIn K (.ref CB) = some (.type "type"))
    (tyC : PySem.W.typeIn K (.ref C) = some (.type "type"))
    (s_NoneType : PySem.W.subIn K (.type "NoneType") (.ref C) = some false)
    (s_bool : PySem.W.subIn K (.type "bool") (.ref C) = some false)
    (s_str : PySem.W.subIn K (.type "str") (.ref C) = some false)
    (s_tuple : PySem.W.subIn K (.type "tuple") (.ref C) = some false)
    (s_list : PySem.W.subIn K (.type "list") (.ref C) = some false)
    (s_int : PySem.W.subIn K (.type "int") (.ref C) = some false)
    (s_dict : PySem.W.subIn K (.type "dict") (.ref C) = some false)
    (s_listB : PySem.W.subIn K (.type "list") (.ref CB) = some false)
    (s_strB : PySem.W.subIn K (.type "str") (.ref CB) = some false)
    (nlB : PySem.W.notFirst K CB (.type "list") = true)
    (nsB : PySem.W.notFirst K CB (.type "str") = true)
    (s_intB : PySem.W.subIn K (.type "int") (.ref CB) = some false)
    (lm : PySem.W.findIn K (.type "int") "__rmul__" = some rlm)
    (la : PySem.W.findIn K (.type "int") "__radd__" = some rla)
    (z_gcd : PySem.W.nsIn K mainGlobals "gcd" = some (some (.builtin "math.gcd")))
    (z_ml : PySem.W.nsIn K mainGlobals "MOST_LETTERS" = some (some (.int 8 tk1)))
    (z_md : PySem.W.nsIn K mainGlobals "MOST_DEGREE" = some (some (.int 8 tk2)))
    (z_me : PySem.W.nsIn K mainGlobals "MOST_ENTRIES" = some (some (.int 300 tk3)))
    (z_isinstance : PySem.W.nsIn K mainGlobals "isinstance" = some none)
    (z_int : PySem.W.nsIn K mainGlobals "int" = some none)
    (z_bool : PySem.W.nsIn K mainGlobals "bool" = some none)
    (z_list : PySem.W.nsIn K mainGlobals "list" = some none)
    (z_tuple : PySem.W.nsIn K mainGlobals "tuple" = some none)
    (z_abs : PySem.W.nsIn K mainGlobals "abs" = some none)
    (z_len : PySem.W.nsIn K mainGlobals "len" = some none)
    (z_max : PySem.W.nsIn K mainGlobals "max" = some none)
    (z_divmod : PySem.W.nsIn K mainGlobals "divmod" = some none)
    (z_str : PySem.W.nsIn K mainGlobals "str" = some none)
    (z_repr : PySem.W.nsIn K mainGlobals "repr" = some none)
    (z_range : PySem.W.nsIn K mainGlobals "range" = some none)
    (z_all : PySem.W.nsIn K mainGlobals "all" = some none)
    (z_zip : PySem.W.nsIn K mainGlobals "zip" = some none)
    (z_enumerate : PySem.W.nsIn K mainGlobals "enumerate" = some none)
    (z_sorted : PySem.W.nsIn K mainGlobals "sorted" = some none)
    (z_sum : PySem.W.nsIn K mainGlobals "sum" = some none)
    (z_min : PySem.W.nsIn K mainGlobals "min" = some none)
    (z_dict : PySem.W.nsIn K mainGlobals "dict" = some none)
    (z_any : PySem.W.nsIn K mainGlobals "any" = some none)
    (z_set : PySem.W.nsIn K mainGlobals "set" = some none)
    : ∃ fd : FuncData, (∀ (s : Shared) (v : Value), BindsTo s fd ⟨[v], []⟩ [("_law_script", v)]) ∧ ∀ base : Heap, K.In base → base.Ns mainGlobals mg → GnOk P w K mg base 13 fa fd ["_law_script"] (lift K spLaw) := by
  have e := hfa.symm.trans (PySem.W.mg_of X G a_law)
  cases e
  obtain ⟨d_isint, F_isint⟩ := F_isint
  obtain ⟨d_iscount, F_iscount⟩ := F_iscount
  obtain ⟨d_islist, F_islist⟩ := F_islist
  obtain ⟨d_counts, F_counts⟩ := F_counts
  obtain ⟨d_small, F_small⟩ := F_small
  obtain ⟨d_rising, F_rising⟩ := F_rising
  obtain ⟨d_isnum, F_isnum⟩ := F_isnum
  obtain ⟨d_above, F_above⟩ := F_above
  obtain ⟨d_ratof, F_ratof⟩ := F_ratof
  obtain ⟨d_let, F_let⟩ := F_let
  obtain ⟨d_gath, F_gath⟩ := F_gath
  obtain ⟨d_entry, F_entry⟩ := F_entry
  obtain ⟨d_ck, F_ck⟩ := F_ck
  obtain ⟨d_lo, F_lo⟩ := F_lo
  obtain ⟨d_po, F_po⟩ := F_po
  obtain ⟨d_ex, F_ex⟩ := F_ex
  obtain ⟨d_mf, F_mf⟩ := F_mf
  obtain ⟨d_im, F_im⟩ := F_im
  obtain ⟨d_pds, F_pds⟩ := F_pds
  obtain ⟨d_as, F_as⟩ := F_as
  obtain ⟨d_ak, F_ak⟩ := F_ak
  obtain ⟨d_ot, F_ot⟩ := F_ot
  obtain ⟨d_fm, F_fm⟩ := F_fm
  obtain ⟨d_bs, F_bs⟩ := F_bs
  obtain ⟨d_td, F_td⟩ := F_td
  obtain ⟨d_pot, F_pot⟩ := F_pot
  obtain ⟨d_draw, F_draw⟩ := F_draw
  obtain ⟨d_pick, F_pick⟩ := F_pick
  obtain ⟨d_mix, F_mix⟩ := F_mix
  obtain ⟨d_lt, F_lt⟩ := F_lt
  obtain ⟨d_ac, F_ac⟩ := F_ac
  obtain ⟨d_fo, F_fo⟩ := F_fo
  obtain ⟨d_pd, F_pd⟩ := F_pd
  obtain ⟨d_sz, F_sz⟩ := F_sz
  obtain ⟨d_amt, F_amt⟩ := F_amt
  obtain ⟨d_bld, F_bld⟩ := F_bld
  obtain ⟨d_dw, F_dw⟩ := F_dw
  obtain ⟨d_mv, F_mv⟩ := F_mv
  obtain ⟨d_mt, F_mt⟩ := F_mt
  obtain ⟨d_ls, F_ls⟩ := F_ls
  obtain ⟨d_lx, F_lx⟩ := F_lx
  obtain ⟨d_lp, F_lp⟩ := F_lp
  obtain ⟨d_lm, F_lm⟩ := F_lm
  obtain ⟨d_be, F_be⟩ := F_be
  obtain ⟨d_va, F_va⟩ := F_va
  obtain ⟨d_right, F_right⟩ := F_right
  obtain ⟨d_law, F_law⟩ := F_law
  obtain ⟨d_init, F_init⟩ := F_init
  obtain ⟨d_binit, F_binit⟩ := F_binit
  obtain ⟨d_add, F_add⟩ := F_add
  obtain ⟨d_radd, F_radd⟩ := F_radd
  obtain ⟨d_mul, F_mul⟩ := F_mul
  obtain ⟨d_rmul, F_rmul⟩ := F_rmul
  obtain ⟨d_eq, F_eq⟩ := F_eq
  obtain ⟨d_repr, F_repr⟩ := F_repr
  obtain ⟨d_bents, F_bents⟩ := F_bents
  obtain ⟨d_bam, F_bam⟩ := F_bam
  obtain ⟨d_beq, F_beq⟩ := F_beq
  obtain ⟨d_brep, F_brep⟩ := F_brep
  obtain ⟨d_ptop, F_ptop⟩ := F_ptop
  obtain ⟨d_pbot, F_pbot⟩ := F_pbot
  obtain ⟨d_psign, F_psign⟩ := F_psign
  obtain ⟨d_blet, F_blet⟩ := F_blet
  obtain ⟨d_bdeg, F_bdeg⟩ := F_bdeg
  obtain ⟨d_bno, F_bno⟩ := F_bno
  have b_isint := F_isint.binds (ps := ["value"]) fun _ _ _ _ _ _ us hl => match us, hl with | [_], _ => rfl
  have b_iscount := F_iscount.binds (ps := ["value"]) fun _ _ _ _ _ _ us hl => match us, hl with | [_], _ => rfl
  have b_islist := F_islist.binds (ps := ["value"]) fun _ _ _ _ _ _ us hl => match us, hl with | [_], _ => rfl
  have b_counts := F_counts.binds (ps := ["value", "many"]) fun _ _ _ _ _ _ us hl => match us, hl with | [_, _], _ => rfl
  have b_small := F_small.binds (ps := ["value"]) fun _ _ _ _ _ _ us hl => match us, hl with | [_], _ => rfl
  have b_rising := F_rising.binds (ps := ["parts"]) fun _ _ _ _ _ _ us hl => match us, hl with | [_], _ => rfl
  have b_isnum := F_isnum.binds (ps := ["value"]) fun _ _ _ _ _ _ us hl => match us, hl with | [_], _ => rfl
  have b_above := F_above.binds (ps := ["value"]) fun _ _ _ _ _ _ us hl => match us, hl with | [_], _ => rfl
  have b_ratof := F_ratof.binds (ps := ["value"]) fun _ _ _ _ _ _ us hl => match us, hl with | [_], _ => rfl
  have b_let := F_let.binds (ps := ["value"]) fun _ _ _ _ _ _ us hl => match us, hl with | [_], _ => rfl
  have b_gath := F_gath.binds (ps := ["pairs"]) fun _ _ _ _ _ _ us hl => match us, hl with | [_], _ => rfl
  have b_entry := F_entry.binds (ps := ["entry", "many", "degree"]) fun _ _ _ _ _ _ us hl => match us, hl with | [_, _, _], _ => rfl
  have b_ck := F_ck.binds (ps := ["blend"]) fun _ _ _ _ _ _ us hl => match us, hl with | [_], _ => rfl
  have b_lo := F_lo.binds (ps := ["blend", "value"]) fun _ _ _ _ _ _ us hl => match us, hl with | [_, _], _ => rfl
  have b_po := F_po.binds (ps := ["blend", "value"]) fun _ _ _ _ _ _ us hl => match us, hl with | [_, _], _ => rfl
  have b_ex := F_ex.binds (ps := ["blend"]) fun _ _ _ _ _ _ us hl => match us, hl with | [_], _ => rfl
  have b_mf := F_mf.binds (ps := ["blend"]) fun _ _ _ _ _ _ us hl => match us, hl with | [_], _ => rfl
  have b_im := F_im.binds (ps := ["blend", "value"]) fun _ _ _ _ _ _ us hl => match us, hl with | [_, _], _ => rfl
  have b_pds := F_pds.binds (ps := ["blend"]) fun _ _ _ _ _ _ us hl => match us, hl with | [_], _ => rfl
  have b_as := F_as.binds (ps := ["blend"]) fun _ _ _ _ _ _ us hl => match us, hl with | [_], _ => rfl
  have b_ak := F_ak.binds (ps := ["blend", "value"]) fun _ _ _ _ _ _ us hl => match us, hl with | [_, _], _ => rfl
  have b_ot := F_ot.binds (ps := ["blend", "counts", "other", "letter"]) fun _ _ _ _ _ _ us hl => match us, hl with | [_, _, _, _], _ => rfl
  have b_fm := F_fm.binds (ps := ["letters", "products", "asked"]) fun _ _ _ _ _ _ us hl => match us, hl with | [_, _, _], _ => rfl
  have b_bs := F_bs.binds (ps := ["products", "counts", "other", "place", "at"]) fun _ _ _ _ _ _ us hl => match us, hl with | [_, _, _, _, _], _ => rfl
  have b_td := F_td.binds (ps := ["counts", "less", "more"]) fun _ _ _ _ _ _ us hl => match us, hl with | [_, _, _], _ => rfl
  have b_pot := F_pot.binds (ps := ["_law_script", "_law_k"]) fun _ _ _ _ _ _ us hl => match us, hl with | [_, _], _ => rfl
  have b_draw := F_draw.binds (ps := ["_law_pot_here", "_law_many"]) fun _ _ _ _ _ _ us hl => match us, hl with | [_, _], _ => rfl
  have b_pick := F_pick.binds (ps := ["_law_pot_here", "_law_some"]) fun _ _ _ _ _ _ us hl => match us, hl with | [_, _], _ => rfl
  have b_mix := F_mix.binds (ps := ["_law_pot_here", "_law_some"]) fun _ _ _ _ _ _ us hl => match us, hl with | [_, _], _ => rfl
  have b_lt := F_lt.binds (ps := ["_law_pot_here", "_law_many"]) fun _ _ _ _ _ _ us hl => match us, hl with | [_, _], _ => rfl
  have b_ac := F_ac.binds (ps := ["_law_many", "_law_degree"]) fun _ _ _ _ _ _ us hl => match us, hl with | [_, _], _ => rfl
  have b_fo := F_fo.binds (ps := ["_law_pot_here", "_law_many", "_law_degree"]) fun _ _ _ _ _ _ us hl => match us, hl with | [_, _, _], _ => rfl
  have b_pd := F_pd.binds (ps := ["_law_pot_here", "_law_many", "_law_degree"]) fun _ _ _ _ _ _ us hl => match us, hl with | [_, _, _], _ => rfl
  have b_sz := F_sz.binds (ps := ["_law_pot_here"]) fun _ _ _ _ _ _ us hl => match us, hl with | [_], _ => rfl
  have b_amt := F_amt.binds (ps := ["_law_pot_here"]) fun _ _ _ _ _ _ us hl => match us, hl with | [_], _ => rfl
  have b_bld := F_bld.binds (ps := ["_law_pot_here", "_law_letters_here", "_law_products_here"]) fun _ _ _ _ _ _ us hl => match us, hl with | [_, _, _], _ => rfl
  have b_dw := F_dw.binds (ps := ["_law_pot_here"]) fun _ _ _ _ _ _ us hl => match us, hl with | [_], _ => rfl
  have b_mv := F_mv.binds (ps := ["_law_counts_here", "_law_less", "_law_more"]) fun _ _ _ _ _ _ us hl => match us, hl with | [_, _, _], _ => rfl
  have b_mt := F_mt.binds (ps := ["_law_products_here", "_law_counts_here", "_law_other", "_law_at"]) fun _ _ _ _ _ _ us hl => match us, hl with | [_, _, _, _], _ => rfl
  have b_ls := F_ls.binds (ps := ["_law_products_here"]) fun _ _ _ _ _ _ us hl => match us, hl with | [_], _ => rfl
  have b_lx := F_lx.binds (ps := ["_law_products_here"]) fun _ _ _ _ _ _ us hl => match us, hl with | [_], _ => rfl
  have b_lp := F_lp.binds (ps := ["_law_products_here", "_law_value"]) fun _ _ _ _ _ _ us hl => match us, hl with | [_, _], _ => rfl
  have b_lm := F_lm.binds (ps := ["_law_letters_here", "_law_products_here", "_law_value"]) fun _ _ _ _ _ _ us hl => match us, hl with | [_, _, _], _ => rfl
  have b_be := F_be.binds (ps := ["_law_pot_here", "_law_letters_here", "_law_products_here", "_law_value"]) fun _ _ _ _ _ _ us hl => match us, hl with | [_, _, _, _], _ => rfl
  have b_va := F_va.binds (ps := ["_law_pot_here", "_law_letters_here", "_law_products_here"]) fun _ _ _ _ _ _ us hl => match us, hl with | [_, _, _], _ => rfl
  have b_right := F_right.binds (ps := ["_law_pot_here"]) fun _ _ _ _ _ _ us hl => match us, hl with | [_], _ => rfl
  have b_law := F_law.binds (ps := ["_law_script"]) fun _ _ _ _ _ _ us hl => match us, hl with | [_], _ => rfl
  have b_add := F_add.binds (ps := ["self", "other"]) fun _ _ _ _ _ _ us hl => match us, hl with | [_, _], _ => rfl
  have b_radd := F_radd.binds (ps := ["self", "other"]) fun _ _ _ _ _ _ us hl => match us, hl with | [_, _], _ => rfl
  have b_mul := F_mul.binds (ps := ["self", "other"]) fun _ _ _ _ _ _ us hl => match us, hl with | [_, _], _ => rfl
  have b_rmul := F_rmul.binds (ps := ["self", "other"]) fun _ _ _ _ _ _ us hl => match us, hl with | [_, _], _ => rfl
  have b_eq := F_eq.binds (ps := ["self", "other"]) fun _ _ _ _ _ _ us hl => match us, hl with | [_, _], _ => rfl
  have b_repr := F_repr.binds (ps := ["self"]) fun _ _ _ _ _ _ us hl => match us, hl with | [_], _ => rfl
  have b_bents := F_bents.binds (ps := ["self"]) fun _ _ _ _ _ _ us hl => match us, hl with | [_], _ => rfl
  have b_bam := F_bam.binds (ps := ["self", "counts"]) fun _ _ _ _ _ _ us hl => match us, hl with | [_, _], _ => rfl
  have b_beq := F_beq.binds (ps := ["self", "other"]) fun _ _ _ _ _ _ us hl => match us, hl with | [_, _], _ => rfl
  have b_brep := F_brep.binds (ps := ["self"]) fun _ _ _ _ _ _ us hl => match us, hl with | [_], _ => rfl
  have b_ptop := F_ptop.binds (ps := ["self"]) fun _ _ _ _ _ _ us hl => match us, hl with | [_], _ => rfl
  have b_pbot := F_pbot.binds (ps := ["self"]) fun _ _ _ _ _ _ us hl => match us, hl with | [_], _ => rfl
  have b_psign := F_psign.binds (ps := ["self"]) fun _ _ _ _ _ _ us hl => match us, hl with | [_], _ => rfl
  have b_blet := F_blet.binds (ps := ["self"]) fun _ _ _ _ _ _ us hl => match us, hl with | [_], _ => rfl
  have b_bdeg := F_bdeg.binds (ps := ["self"]) fun _ _ _ _ _ _ us hl => match us, hl with | [_], _ => rfl
  have b_bno := F_bno.binds (ps := ["self"]) fun _ _ _ _ _ _ us hl => match us, hl with | [_], _ => rfl
  obtain ⟨ds2, v2, b2⟩ := F_init.binds1 (ps := ["self", "top", "bottom"]) 3 1 (by simp) rfl fun T kV doc pm an cdv ct us its l1 l2 => match us, its, l1, l2 with | [_, _, _], [_], _, _ => ⟨_, rfl, rfl⟩
  obtain ⟨ds1, v1, b1⟩ := F_init.binds1 (ps := ["self", "top", "bottom"]) 2 0 (by simp) rfl fun T kV doc pm an cdv ct us its l1 l2 => match us, its, l1, l2 with | [_, _], [_], _, _ => ⟨_, rfl, rfl⟩
  obtain ⟨bds2, bv2, bb2⟩ := F_binit.binds1 (ps := ["self", "letters", "entries"]) 3 1 (by simp) rfl fun T kV doc pm an cdv ct us its l1 l2 => match us, its, l1, l2 with | [_, _, _], [_], _, _ => ⟨_, rfl, rfl⟩
  obtain ⟨bds1, bv1, bb1⟩ := F_binit.binds1 (ps := ["self", "letters", "entries"]) 2 0 (by simp) rfl fun T kV doc pm an cdv ct us its l1 l2 => match us, its, l1, l2 with | [_, _], [_], _, _ => ⟨_, rfl, rfl⟩
  have bK_im := fun_kbnG (ps := ["blend", "value"]) (n := 0) (ks := ["value", "blend"]) List.reverse (fun h => paired_rev h) F_im fun _ _ _ _ _ _ us ws l1 l2 => match us, ws, l1, l2 with | [], [_, _], _, _ => rfl
  obtain ⟨itB, bK_B⟩ := F_binit.kbindsD (ps := ["self", "letters", "entries"]) 1 ["entries", "letters"] (fun us _ ws => us ++ ws.reverse) (by simp) (fun r1 _ r3 => r1.append (paired_rev r3)) fun T kV doc pm an cdv ct us its ws l1 l2 l3 => match us, its, ws, l1, l2, l3 with | [_], [_], [_, _], _, _, _ => ⟨_, rfl, rfl⟩
  have cl : Cls K C := ⟨pg, hd, po, sa⟩
  have clB : Cls K CB := ⟨pgB, hdB, poB, saB⟩
  have T : Txt K mg C := {
    nu := ⟨cl, sf, nf, ni, s_int, sub_is, sub_ob⟩
    is := ⟨cl, ca, cn, ct, cm⟩
    nT := nT
    nB := nB
    ne := ne
    mC := PySem.W.mg_of X G aC
    gcd := PySem.W.mg_of X G z_gcd
    isi := PySem.W.mg_none_of X G z_isinstance
    int := PySem.W.mg_none_of X G z_int
    bool := PySem.W.mg_none_of X G z_bool
    list := PySem.W.mg_none_of X G z_list
    tuple := PySem.W.mg_none_of X G z_tuple
    abs := PySem.W.mg_none_of X G z_abs
    len := PySem.W.mg_none_of X G z_len
    max := PySem.W.mg_none_of X G z_max
    divmod := PySem.W.mg_none_of X G z_divmod
    str := PySem.W.mg_none_of X G z_str
    repr := PySem.W.mg_none_of X G z_repr
    range := PySem.W.mg_none_of X G z_range
    all := PySem.W.mg_none_of X G z_all
    zip := PySem.W.mg_none_of X G z_zip
    k1 := kit_ty (by decide +kernel)
    k2 := kit_ty (by decide +kernel)
    k3 := kit_ty (by decide +kernel)
    k4 := kit_ty (by decide +kernel)
    k5 := kit_ty (by decide +kernel)
    k7 := kit_ty (by decide +kernel)
    k8 := kit_ty (by decide +kernel)
    k6 := kit_tyc (by decide +kernel) sub_is
    r1 := kit_ref hd tyC (fun z => by cases z) s_NoneType
    r2 := kit_ref hd tyC (fun z => by cases z) s_bool
    r3 := kit_ref hd tyC (fun z => by cases z) s_str
    r4 := kit_ref hd tyC (fun z => by cases z) s_tuple
    r5 := kit_ref hd tyC (fun z => by cases z) s_list
    r7 := kit_ref hd tyC (fun z => by cases z) s_int
    r8 := kit_ref hd tyC (fun z => by cases z) s_dict
    l0 := fun T h => by rcases h with rfl | rfl | rfl | rfl | rfl <;> exact kitAny_cons (b := false) (kit_ty (by decide +kernel)) (fun _ => kitAny_cons (b := false) (kit_ty (by decide +kernel)) (fun _ => rfl) (fun z => Bool.noConfusion z)) (fun z => Bool.noConfusion z)
    l3 := kitAny_cons (b := false) (kit_tyc (by decide +kernel) sub_li) (fun _ => kitAny_cons (b := false) (kit_tyc (by decide +kernel) sub_tu) (fun _ => rfl) (fun z => Bool.noConfusion z)) (fun z => Bool.noConfusion z)
    l1 := kitAny_cons (b := true) (same (beq_self_eq_true _)) (fun z => Bool.noConfusion z) (fun _ => rfl)
    l2 := kitAny_cons (b := false) (kit_ty (by decide +kernel)) (fun _ => kitAny_cons (b := true) (same (beq_self_eq_true _)) (fun z => Bool.noConfusion z) (fun _ => rfl)) (fun z => Bool.noConfusion z) }
  have T2' : Tb K mg C CB := {
    T := T, nu := ⟨clB, sfB, nfB, niB, s_intB, sub_isB, sub_obB⟩, is := ⟨clB, caB, cn, ct, cmB⟩, nL := nL, nD := nD, nA := nA, ne := neB, mB := PySem.W.mg_of X G aCB
    enum := PySem.W.mg_none_of X G z_enumerate, sorted := PySem.W.mg_none_of X G z_sorted, sum := PySem.W.mg_none_of X G z_sum, min := PySem.W.mg_none_of X G z_min, dict := PySem.W.mg_none_of X G z_dict
    ml := ⟨_, PySem.W.mg_of X G z_ml⟩, md := ⟨_, PySem.W.mg_of X G z_md⟩, me := ⟨_, PySem.W.mg_of X G z_me⟩ }
  have M : Mk K C f_init := ⟨mk, a_init, i_init, kc⟩
  have MB : Mk K CB f_binit := ⟨mkB, a_binit, i_binit, kcB⟩
  have em : EmpT K T2 := ⟨_, _, t2, rfl, rfl⟩
  have bL : ∀ (s : Shared) (v : Value), BindsTo s d_law ⟨[v], []⟩ [("_law_script", v)] := by
    obtain ⟨oc, od, kV, doc, pm, an, cdv, ct, osl, rfl, _⟩ := F_law.ex
    exact fun s v => .of_eq rfl
  refine ⟨d_law, bL, fun base _ _ => ?_⟩
  have D_isint : Df P w K mg base "is_integer" 1 1 (spB C isI) := df_of (fun_s F_isint) (ok_isint (fun_s F_isint) T) (PySem.W.mg_of X G a_isint) b_isint rfl
  have D_iscount : Df P w K mg base "is_count" 2 1 (spB C isC) := df_of (fun_s F_iscount) (ok_iscount (fun_s F_iscount) T D_isint) (PySem.W.mg_of X G a_iscount) b_iscount rfl
  have D_islist : Df P w K mg base "is_list" 1 1 spL := df_of (fun_s F_islist) (ok_islist (fun_s F_islist) T) (PySem.W.mg_of X G a_islist) b_islist rfl
  have D_islistK : Df P w K mg base "is_list" 1 1 (spLK K) := df_of (fun_s F_islist) (ok_islistK (fun_s F_islist) T) (PySem.W.mg_of X G a_islist) b_islist rfl
  have D_counts : Df P w K mg base "is_counts" 3 2 spCounts := df_of (fun_s F_counts) (ok_counts (fun_s F_counts) T D_islist D_iscount) (PySem.W.mg_of X G a_counts) b_counts rfl
  have D_small : Df P w K mg base "is_small_letter" 1 1 spSmall := df_of (fun_s F_small) (ok_small (fun_s F_small) T) (PySem.W.mg_of X G a_small) b_small rfl
  have D_rising : Df P w K mg base "is_rising" 1 1 spRising := df_of (fun_s F_rising) (ok_rising (fun_s F_rising) T) (PySem.W.mg_of X G a_rising) b_rising rfl
  have D_let : Df P w K mg base "is_letters" 2 1 spLet := df_of (fun_s F_let) (ok_let (fun_s F_let) T (PySem.W.mg_of X G z_ml) D_rising D_small) (PySem.W.mg_of X G a_let) b_let rfl
  have D_isnum : Df P w K mg base "is_number" 2 1 (spB C isN) := df_of (fun_s F_isnum) (ok_isnumber (fun_s F_isnum) T D_isint) (PySem.W.mg_of X G a_isnum) b_isnum rfl
  have GI := ok_init (P := P) (w := w) (base := base) (fund_s F_init) T D_isint
  have mk2 : Kl P w K mg base "Ratio" C 2 [] spInit := ⟨f_init, d_init, _, [], ds2, GI, M, T.mC, b2, v2, fun _ => .nil⟩
  have mk1 : Kl P w K mg base "Ratio" C 2 [.int 1] spInit := ⟨f_init, d_init, _, [.int 1], ds1, GI, M, T.mC, b1, v1, fun _ => .cons (.int 1) .nil⟩
  have D_ptop : Pr P w K mg base C "top" 1 (sp1 C fun p => .int p.1) := ⟨p_ptop, f_ptop, d_ptop, _, ok_top (fun_s F_ptop) T, ⟨a_ptop, g_ptop, t_ptop, _, c_ptop⟩, b_ptop⟩
  have D_pbot : Pr P w K mg base C "bottom" 1 (sp1 C fun p => .int p.2) := ⟨p_pbot, f_pbot, d_pbot, _, ok_bot (fun_s F_pbot) T, ⟨a_pbot, g_pbot, t_pbot, _, c_pbot⟩, b_pbot⟩
  have D_psign : Pr P w K mg base C "sign" 1 (sp1 C fun p => .int (sgF p)) := ⟨p_psign, f_psign, d_psign, _, ok_sign (fun_s F_psign) T, ⟨a_psign, g_psign, t_psign, _, c_psign⟩, b_psign⟩
  have V : Rt P w K mg base C := ⟨T, mk2, mk1, D_ptop, D_pbot⟩
  have D_ratof : Df P w K mg base "ratio_of" 4 1 (spRat C) := df_of (fun_s F_ratof) (ok_ratof (fun_s F_ratof) V) (PySem.W.mg_of X G a_ratof) b_ratof rfl
  have D_mul : Sm P w K mg base C "__mul__" 5 (spOp C fun p q => Ra C (mulF p q)) := ⟨f_mul, d_mul, _, ok_mul (fun_s F_mul) V D_ratof, a_mul, i_mul, b_mul⟩
  have D_rmul : Sm P w K mg base C "__rmul__" 6 (spOp C fun p q => Ra C (mulF q p)) := ⟨f_rmul, d_rmul, _, ok_rmul (fun_s F_rmul) V D_ratof D_mul, a_rmul, i_rmul, b_rmul⟩
  have D_eq : Sm P w K mg base C "__eq__" 1 (spEq C) := ⟨f_eq, d_eq, _, ok_eq (fun_s F_eq) T, a_eq, i_eq, b_eq⟩
  have D_add : Sm P w K mg base C "__add__" 5 (spOp C fun p q => Ra C (addF p q)) := ⟨f_add, d_add, _, ok_add (fun_s F_add) V D_ratof, a_add, i_add, b_add⟩
  have D_radd : Sm P w K mg base C "__radd__" 6 (spOp C fun p q => Ra C (addF q p)) := ⟨f_radd, d_radd, _, ok_radd (fun_s F_radd) V D_ratof D_add, a_radd, i_radd, b_radd⟩
  have LL : Lv P w K mg base C := { V := V, ratof := D_ratof, mul := D_mul, rmul := D_rmul, eq := D_eq, add := D_add, radd := D_radd, sign := D_psign, lm := ⟨_, lm⟩, la := ⟨_, la⟩ }
  have D_above : Df P w K mg base "is_above" 5 1 (spAbove C) := df_of (fun_s F_above) (ok_above (fun_s F_above) T D_isnum D_ratof D_psign) (PySem.W.mg_of X G a_above) b_above rfl
  have D_entry : Df P w K mg base "_is_entry" 6 3 (spEntry C) := df_of (fun_s F_entry) (ok_entry (fun_s F_entry) T (PySem.W.mg_none_of X G z_sum) (PySem.W.mg_of X G z_md) D_counts D_above) (PySem.W.mg_of X G a_entry) b_entry rfl
  have GB := ok_binit (P := P) (w := w) (base := base) (fund_s F_binit) T2' D_ratof D_let D_islistK D_entry
  have mkA : Kl P w K mg base "Blend" CB 7 [] (spBl K C) := ⟨f_binit, d_binit, _, [], bds2, GB, MB, T2'.mB, bb2, bv2, fun _ => .nil⟩
  have mk0 : Kl P w K mg base "Blend" CB 7 [.cls T2] (spBl K C) := ⟨f_binit, d_binit, _, [.ref T2], bds1, GB, MB, T2'.mB, bb1, bv1, fun _ => .cons (.cls T2) .nil⟩
  have D_blet : Pr P w K mg base CB "letters" 1 (spB1 C CB fun z _ _ => .str (SX.S z)) := ⟨p_blet, f_blet, d_blet, _, ok_letters (fun_s F_blet) T2', ⟨a_blet, g_blet, t_blet, _, c_blet⟩, b_blet⟩
  have D_bdeg : Pr P w K mg base CB "degree" 1 (spB1 C CB fun _ n es => dgD n es) := ⟨p_bdeg, f_bdeg, d_bdeg, _, ok_degree (fun_s F_bdeg) T2', ⟨a_bdeg, g_bdeg, t_bdeg, _, c_bdeg⟩, b_bdeg⟩
  have D_bno : Pr P w K mg base CB "is_nought" 1 (spB1 C CB fun _ _ es => .bl es.isEmpty) := ⟨p_bno, f_bno, d_bno, _, ok_nought (fun_s F_bno) T2', ⟨a_bno, g_bno, t_bno, _, c_bno⟩, b_bno⟩
  have D_bents : Mt P w K mg base CB "entries" 1 (spEnts C CB) := ⟨f_bents, d_bents, _, ok_entries (fun_s F_bents) T2', ⟨a_bents, i_bents, F_bents.kp⟩, b_bents⟩
  have D_beq : Sm P w K mg base CB "__eq__" 4 (spBEq C CB) := ⟨f_beq, d_beq, _, ok_beq (fun_s F_beq) T2' LL, a_beq, i_beq, b_beq⟩
  have D_ck : Df P w K mg base "check_blend" 1 1 (spCk C CB) := df_of (fun_s F_ck) (ok_ck (fun_s F_ck) T2') (PySem.W.mg_of X G a_ck) b_ck rfl
  have VB : Bt P w K mg base C CB := { T := T2', L := LL, mkA := mkA, mk0 := ⟨T2, em, mk0⟩, letters := D_blet, degree := D_bdeg, nought := D_bno, entries := D_bents, beq := D_beq, ck := D_ck }
  have D_draw : Df P w K mg base "_law_draw" 1 2 spDraw := df_of (fun_s F_draw) (ok_draw (fun_s F_draw) T) (PySem.W.mg_of X G a_draw) b_draw rfl
  have D_pick : Df P w K mg base "_law_pick" 2 2 spPick := df_of (fun_s F_pick) (ok_pick (fun_s F_pick) T D_draw) (PySem.W.mg_of X G a_pick) b_pick rfl
  have D_gath : Df P w K mg base "gathered" 7 1 (spGathG C) := df_of (fun_s F_gath) (ok_gathG (fun_s F_gath) LL) (PySem.W.mg_of X G a_gath) b_gath rfl
  have D_repr : Sm P w K mg base C "__repr__" 1 (sp1b C 1900 fun p => .str (reprF p)) := ⟨f_repr, d_repr, _, ok_repr (fun_s F_repr) T, a_repr, i_repr, b_repr⟩
  have D_bam : Mt P w K mg base CB "amount" 4 (spAmount C CB) := ⟨f_bam, d_bam, _, ok_amount (fun_s F_bam) VB D_counts, ⟨a_bam, i_bam, F_bam.kp⟩, b_bam⟩
  have D_brep : Sm P w K mg base CB "__repr__" 5 (spBRepr C CB) := ⟨f_brep, d_brep, _, ok_brepr (fun_s F_brep) VB D_repr, a_brep, i_brep, b_brep⟩
  have MK : KlK P w K mg base "Blend" CB 7 ["entries", "letters"] List.reverse (spBl K C) := ⟨f_binit, d_binit, _, _, List.reverse, GB, MB, T2'.mB, bK_B, fun _ _ _ h => paired_rev h⟩
  have D_islA : Df P w K mg base "is_list" 1 1 (spLA C) := df_of (fun_s F_islist) (ok_islA (fun_s F_islist) T) (PySem.W.mg_of X G a_islist) b_islist rfl
  have D_ctA : Df P w K mg base "is_counts" 3 2 (spCtA C) := df_of (fun_s F_counts) (ok_ctA (fun_s F_counts) T D_islA D_iscount) (PySem.W.mg_of X G a_counts) b_counts rfl
  have D_smA : Df P w K mg base "is_small_letter" 1 1 (spSmA K) := df_of (fun_s F_small) (ok_smA (fun_s F_small) T) (PySem.W.mg_of X G a_small) b_small rfl
  have D_td : Df P w K mg base "_traded" 1 3 spTd := df_of (fun_s F_td) (ok_td (fun_s F_td) T) (PySem.W.mg_of X G a_td) b_td rfl
  have D_bs : Df P w K mg base "_both_stay" 2 5 spBs := df_of (fun_s F_bs) (ok_bs (fun_s F_bs) D_td) (PySem.W.mg_of X G a_bs) b_bs rfl
  have D_pds : Df P w K mg base "_products" 2 1 (spPds C CB) := df_of (fun_s F_pds) (ok_pds (fun_s F_pds) VB) (PySem.W.mg_of X G a_pds) b_pds rfl
  have D_fm : Df P w K mg base "_first_mate" 3 3 spFm := df_of (fun_s F_fm) (ok_fm (fun_s F_fm) (PySem.W.mg_none_of X G z_enumerate) D_bs) (PySem.W.mg_of X G a_fm) b_fm rfl
  have D_as : Df P w K mg base "_all_asked" 3 1 (spAs C CB) := df_of (fun_s F_as) (ok_as (fun_s F_as) VB (PySem.W.mg_none_of X G z_zip)) (PySem.W.mg_of X G a_as) b_as rfl
  have D_mf : Df P w K mg base "misfit" 4 1 (spMf C CB) := df_of (fun_s F_mf) (ok_mf (fun_s F_mf) VB D_pds D_as D_fm) (PySem.W.mg_of X G a_mf) b_mf rfl
  have D_ex : Df P w K mg base "exchanges" 5 1 (spEx C CB) := df_of (fun_s F_ex) (ok_ex (fun_s F_ex) D_mf) (PySem.W.mg_of X G a_ex) b_ex rfl
  have D_lo : Df P w K mg base "is_letter_of" 3 2 (spLO K C CB) := df_of (fun_s F_lo) (ok_lo (fun_s F_lo) VB D_smA) (PySem.W.mg_of X G a_lo) b_lo rfl
  have D_ot : Df P w K mg base "_is_oftener" 4 4 (spOt K C CB) := df_of (fun_s F_ot) (ok_ot (fun_s F_ot) VB D_lo) (PySem.W.mg_of X G a_ot) b_ot rfl
  have D_po : Df P w K mg base "is_product_of" 5 2 (spPO C CB) := df_of (fun_s F_po) (ok_po (fun_s F_po) VB D_ctA D_bam D_psign) (PySem.W.mg_of X G a_po) b_po rfl
  have D_ak : Df P w K mg base "_is_asked" 6 2 (spAk K C CB) := df_of (fun_s F_ak) (ok_ak (fun_s F_ak) VB D_po D_ot) (PySem.W.mg_of X G a_ak) b_ak rfl
  have D_im : Df P w K mg base "is_misfit" 7 2 (spIm K C CB) := df_of (fun_s F_im) (ok_im (fun_s F_im) VB D_ak D_pds D_fm) (PySem.W.mg_of X G a_im) b_im rfl
  have DK_im : DfK P w K mg base "is_misfit" 7 ["value", "blend"] List.reverse (spIm K C CB) := ⟨f_im, d_im, _, _, List.reverse, ok_im (fun_s F_im) VB D_ak D_pds D_fm, PySem.W.mg_of X G a_im, F_im.kp, bK_im, fun _ _ _ h => paired_rev h⟩
  have D_pickS : Df P w K mg base "_law_pick" 2 2 spPickS := df_of (fun_s F_pick) (ok_pickS (fun_s F_pick) T D_draw) (PySem.W.mg_of X G a_pick) b_pick rfl
  have KT : Kt K := ⟨kit_ty (by decide +kernel), kit_ty (by decide +kernel), kit_ty (by decide +kernel), kit_ty (by decide +kernel), kit_ty (by decide +kernel), kit_ty (by decide +kernel), kit_ty (by decide +kernel), kit_ty (by decide +kernel), kit_ty (by decide +kernel), kit_ty (by decide +kernel)⟩
  have D_mix : Df P w K mg base "_law_mixed" 2 2 spMix := df_of (fun_s F_mix) (ok_mix (fun_s F_mix) T D_draw) (PySem.W.mg_of X G a_mix) b_mix rfl
  have D_lt : Df P w K mg base "_law_letters" 3 2 spLtr := df_of (fun_s F_lt) (ok_lt (fun_s F_lt) T (PySem.W.mg_none_of X G z_sorted) D_mix) (PySem.W.mg_of X G a_lt) b_lt rfl
  have D_ac : ∀ m, Df P w K mg base "_law_counts" (m + 1) 2 (spAc m) := by
    intro m
    induction m with
    | zero => exact df_of (fun_s F_ac) (ok_ac 0 (fun_s F_ac) T nofun) (PySem.W.mg_of X G a_ac) b_ac rfl
    | succ m ih => exact df_of (fun_s F_ac) (ok_ac (m + 1) (fun_s F_ac) T fun j e => by cases e; exact ih) (PySem.W.mg_of X G a_ac) b_ac rfl
  have D_fo : Df P w K mg base "_law_forms" 2 3 spFo := df_of (fun_s F_fo) (ok_fo (fun_s F_fo) T (PySem.W.mg_none_of X G z_sorted) (PySem.W.mg_none_of X G z_set) D_draw) (PySem.W.mg_of X G a_fo) b_fo rfl
  have D_pd : Df P w K mg base "_law_products" 7 3 spPr := df_of (fun_s F_pd) (ok_pd (fun_s F_pd) T (PySem.W.mg_none_of X G z_all) (PySem.W.mg_none_of X G z_zip) (PySem.W.mg_none_of X G z_sum) D_draw D_fo fun m _ => D_ac m) (PySem.W.mg_of X G a_pd) b_pd rfl
  have D_sz : Df P w K mg base "_law_size" 3 1 spSz := df_of (fun_s F_sz) (ok_sz (fun_s F_sz) T D_draw D_pick) (PySem.W.mg_of X G a_sz) b_sz rfl
  have D_amt : Df P w K mg base "_law_amount" 4 1 (spAmD C) := df_of (fun_s F_amt) (ok_amt (fun_s F_amt) V D_draw) (PySem.W.mg_of X G a_amt) b_amt rfl
  have D_bld : Df P w K mg base "_law_blend" 9 3 (spBlD C CB) := df_of (fun_s F_bld) (ok_bld (fun_s F_bld) VB MK D_draw D_mix D_amt) (PySem.W.mg_of X G a_bld) b_bld rfl
  have D_dw : Df P w K mg base "_law_drawn" 10 1 (spDr C CB) := df_of (fun_s F_dw) (ok_dw (fun_s F_dw) D_sz D_lt D_pd D_bld) (PySem.W.mg_of X G a_dw) b_dw rfl
  have D_mv : Df P w K mg base "_law_moved" 1 3 spTd := df_of (fun_s F_mv) (ok_mv (fun_s F_mv) T) (PySem.W.mg_of X G a_mv) b_mv rfl
  have D_mt : Df P w K mg base "_law_mates" 2 4 spMt := df_of (fun_s F_mt) (ok_mt (fun_s F_mt) T D_mv) (PySem.W.mg_of X G a_mt) b_mt rfl
  have D_ls : Df P w K mg base "_law_asked" 1 1 spLs := df_of (fun_s F_ls) (ok_ls (fun_s F_ls) T) (PySem.W.mg_of X G a_ls) b_ls rfl
  have D_lx : Df P w K mg base "_law_exchanges" 3 1 spLx := df_of (fun_s F_lx) (ok_lx (fun_s F_lx) T D_ls D_mt) (PySem.W.mg_of X G a_lx) b_lx rfl
  have D_lp : Df P w K mg base "_law_product" 1 2 (spLp C) := df_of (fun_s F_lp) (ok_lp (fun_s F_lp) T) (PySem.W.mg_of X G a_lp) b_lp rfl
  have D_lm : Df P w K mg base "_law_is_misfit" 3 3 (spLm K C) := df_of (fun_s F_lm) (ok_lm (fun_s F_lm) T D_lp D_mt) (PySem.W.mg_of X G a_lm) b_lm rfl
  have D_be : Df P w K mg base "_law_bent" 4 4 (spBe K C) := df_of (fun_s F_be) (ok_be (fun_s F_be) V KT D_pick D_pickS) (PySem.W.mg_of X G a_be) b_be rfl
  have D_va : Df P w K mg base "_law_values" 5 3 (spVa K C) := df_of (fun_s F_va) (ok_va (fun_s F_va) T KT D_draw D_pick D_pickS D_be) (PySem.W.mg_of X G a_va) b_va rfl
  have OR : ORi P w K mg base C CB := { V := VB, kt := KT, rp := D_repr, br := D_brep, dw := D_dw, mf := D_mf, ex := D_ex, lx := D_lx, lm := D_lm, va := D_va, be := D_be, im := D_im, imK := DK_im }
  have D_right : Df P w K mg base "_law_right" 11 1 spRight := df_of (fun_s F_right) (ok_ri (fun_s F_right) OR) (PySem.W.mg_of X G a_right) b_right rfl
  have D_pot : Nf P w K mg base "_law_pot" 1 spPot := ⟨f_pot, d_pot, _, ok_pot (fun_s F_pot) T, PySem.W.mg_of X G a_pot, F_pot.kp, b_pot⟩
  exact ok_law (fun_s F_law) T (PySem.W.mg_none_of X G z_min) D_pot D_right
end K25

set_option Elab.async false
open PySem PySem.W PyProof.Rows
theorem PySem.W.Fast.tw1752210984235309120 : True := trivial
theorem PySem.W.Fast.tw10446888085413240992 : True := trivial
theorem PySem.W.Fast.tw2153808444604005536 : True := trivial
theorem PySem.W.Fast.tw15599578360275638528 : True := trivial
theorem PySem.W.Fast.tw10119906908466850080 : True := trivial
theorem PySem.W.Fast.tw13894107823191852416 : True := trivial
theorem PySem.W.Fast.tw8294250482416075232 : True := trivial
theorem PySem.W.Fast.tw2983564189825684960 : True := trivial
theorem PySem.W.Fast.tw6932199314123963936 : True := trivial
theorem PySem.W.Fast.tw6383287193076907648 : True := trivial
theorem PySem.W.Fast.tw12574856480730140288 : True := trivial
theorem PySem.W.Fast.tw6758043240131091104 : True := trivial
theorem PySem.W.Fast.tw18012119593150791392 : True := trivial
theorem PySem.W.Fast.tw17075907697322648288 : True := trivial
theorem PySem.W.Fast.tw18232202753177500448 : True := trivial
theorem PySem.W.Fast.tw12159775945163530016 : True := trivial
theorem PySem.W.Fast.tw11450669153954881312 : True := trivial
theorem PySem.W.Fast.tw3960849483595766592 : True := trivial
theorem PySem.W.Fast.tw4973528221950842720 : True := trivial
theorem PySem.W.Fast.tw11010829506360317824 : True := trivial
theorem PySem.W.Fast.tw5642794669112748992 : True := trivial
theorem PySem.W.Fast.tw11703548795590242305 : True := trivial
theorem PySem.W.Fast.tw10747883659162114145 : True := trivial
theorem PySem.W.Fast.tw16592757458621692001 : True := trivial
theorem PySem.W.Fast.tw15501583075092979873 : True := trivial
theorem PySem.W.Fast.tw15521575945445042369 : True := trivial
theorem PySem.W.Fast.tw4786163889298056385 : True := trivial
theorem PySem.W.Fast.tw5120755796658686177 : True := trivial
theorem PySem.W.Fast.tw9043181297316721889 : True := trivial
theorem PySem.W.Fast.tw17418402607714387265 : True := trivial
theorem PySem.W.Fast.tw6589483649909006689 : True := trivial
theorem PySem.W.Fast.tw8727915789089723745 : True := trivial
theorem PySem.W.Fast.tw1484814191156982145 : True := trivial
theorem PySem.W.Fast.tw18065071766205375937 : True := trivial
theorem PySem.W.Fast.tw9910530611953222081 : True := trivial
theorem PySem.W.Fast.tw9406877528616654273 : True := trivial
theorem PySem.W.Fast.tw16613546279801373153 : True := trivial
theorem PySem.W.Fast.tw8982798248003410465 : True := trivial
theorem PySem.W.Fast.tw9729365405643054689 : True := trivial
theorem PySem.W.Fast.tw1325421113093273185 : True := trivial
theorem PySem.W.Fast.tw1914847063365201569 : True := trivial
theorem PySem.W.Fast.tw16906999024851832513 : True := trivial
theorem PySem.W.Fast.tw14952811933458100961 : True := trivial
theorem PySem.W.Fast.tw14868006918062604001 : True := trivial
theorem PySem.W.Fast.tw5083310692205618945 : True := trivial
theorem PySem.W.Fast.tw15170699172127571713 : True := trivial
theorem PySem.W.Fast.tw11976628654781832001 : True := trivial
theorem PySem.W.Fast.tw7097950944955529025 : True := trivial
theorem PySem.W.Fast.tw14516796487312094081 : True := trivial
theorem PySem.W.Fast.tw3858228820440454113 : True := trivial
theorem PySem.W.Fast.tw2199027070659485665 : True := trivial
theorem PySem.W.Fast.tw14396840780998031394 : True := trivial
theorem PySem.W.Fast.tw17607632284528300066 : True := trivial
theorem PySem.W.Fast.tw463755361849573442 : True := trivial
theorem PySem.W.Fast.tw14750169116862556226 : True := trivial
theorem PySem.W.Fast.tw1025577017488320578 : True := trivial
theorem PySem.W.Fast.tw11523426136994658402 : True := trivial
theorem PySem.W.Fast.tw7282621360414535778 : True := trivial
theorem PySem.W.Fast.tw9096504695305492610 : True := trivial
theorem PySem.W.Fast.tw4975487176475915458 : True := trivial
theorem PySem.W.Fast.tw6411649812654807330 : True := trivial
theorem PySem.W.Fast.tw12805610071379634466 : True := trivial
theorem PySem.W.Fast.tw11192712827528102210 : True := trivial
theorem PySem.W.Fast.tw9803731013783960962 : True := trivial
theorem PySem.W.Fast.tw10884164728950607298 : True := trivial
theorem PySem.W.Fast.tw17359094469883840002 : True := trivial
theorem PySem.W.Fast.tw10204621166451884546 : True := trivial
theorem PySem.W.Fast.tw4590630495018427938 : True := trivial
theorem PySem.W.Fast.tw7457152370238402082 : True := trivial
theorem PySem.W.Fast.tw14705394365407270466 : True := trivial
theorem PySem.W.Fast.tw487535199067170370 : True := trivial
theorem PySem.W.Fast.tw619405666404573794 : True := trivial
theorem PySem.W.Fast.tw2559308148971252322 : True := trivial
theorem PySem.W.Fast.tw2819966818787279458 : True := trivial
theorem PySem.W.Fast.tw6228246260081876578 : True := trivial
theorem PySem.W.Fast.tw13287538491274756738 : True := trivial
theorem PySem.W.Fast.tw16818850488010078882 : True := trivial
theorem PySem.W.Fast.tw15039310320122238722 : True := trivial
theorem PySem.W.Fast.tw12763288824795552610 : True := trivial
theorem PySem.W.Fast.tw11426368108402307938 : True := trivial
theorem PySem.W.Fast.tw14293853578115220354 : True := trivial
theorem PySem.W.Fast.tw18144189341777617794 : True := trivial
theorem PySem.W.Fast.tw830498121572022146 : True := trivial
theorem PySem.W.Fast.tw7325521925812520898 : True := trivial
theorem PySem.W.Fast.tw2970692140278238146 : True := trivial
theorem PySem.W.Fast.tw7337110127572245474 : True := trivial
theorem PySem.W.Fast.tw1671150582812796995 : True := trivial
theorem PySem.W.Fast.tw3115527872086573155 : True := trivial
theorem PySem.W.Fast.tw6688650938128114787 : True := trivial
theorem PySem.W.Fast.tw13824380046748077155 : True := trivial
theorem PySem.W.Fast.tw14628326685135635587 : True := trivial
theorem PySem.W.Fast.tw5045716145919628451 : True := trivial
theorem PySem.W.Fast.tw5047344643855261859 : True := trivial
theorem PySem.W.Fast.tw15926410968068198595 : True := trivial
theorem PySem.W.Fast.tw17320980952615405891 : True := trivial
theorem PySem.W.Fast.tw967690179419556163 : True := trivial
theorem PySem.W.Fast.tw5313312657406044579 : True := trivial
theorem PySem.W.Fast.tw10169486572213030339 : True := trivial
theorem PySem.W.Fast.tw11570993226330124771 : True := trivial
theorem PySem.W.Fast.tw4643694848527578723 : True := trivial
theorem PySem.W.Fast.tw5533953026790472291 : True := trivial
theorem PySem.W.Fast.tw16940707589677706851 : True := trivial
theorem PySem.W.Fast.tw12486810525841437315 : True := trivial
theorem PySem.W.Fast.tw5080295659474821827 : True := trivial
theorem PySem.W.Fast.tw17325267019482264259 : True := trivial
theorem PySem.W.Fast.tw6036934558099629859 : True := trivial
theorem PySem.W.Fast.tw302688343179221827 : True := trivial
theorem PySem.W.Fast.tw1898447318562963267 : True := trivial
theorem PySem.W.Fast.tw15794623469600996195 : True := trivial
theorem PySem.W.Fast.tw10469839714727567203 : True := trivial
theorem PySem.W.Fast.tw5188893224488109955 : True := trivial
theorem PySem.W.Fast.tw10409551497612103555 : True := trivial
theorem PySem.W.Fast.tw2041319098117617539 : True := trivial
theorem PySem.W.Fast.tw13896821188511041443 : True := trivial
theorem PySem.W.Fast.tw13053726550115937187 : True := trivial
theorem PySem.W.Fast.tw10646151399127367651 : True := trivial
theorem PySem.W.Fast.tw2828760366315401252 : True := trivial
theorem PySem.W.Fast.tw4867186183404260420 : True := trivial
theorem PySem.W.Fast.tw8216101390101154884 : True := trivial
theorem PySem.W.Fast.tw9007913402681040964 : True := trivial
theorem PySem.W.Fast.tw5724254786586230852 : True := trivial
theorem PySem.W.Fast.tw11084035396607087716 : True := trivial
theorem PySem.W.Fast.tw17362591548593114212 : True := trivial
theorem PySem.W.Fast.tw4400615808016953508 : True := trivial
theorem PySem.W.Fast.tw9990362395011329220 : True := trivial
theorem PySem.W.Fast.tw15185826443781814468 : True := trivial
theorem PySem.W.Fast.tw12050295214513929412 : True := trivial
theorem PySem.W.Fast.tw7210756898206773444 : True := trivial
theorem PySem.W.Fast.tw12269581433152532676 : True := trivial
theorem PySem.W.Fast.tw1901677369875539236 : True := trivial
theorem PySem.W.Fast.tw6657159635646274884 : True := trivial
theorem PySem.W.Fast.tw9084022659181211972 : True := trivial
theorem PySem.W.Fast.tw2228700823730522468 : True := trivial
theorem PySem.W.Fast.tw11716976110666503524 : True := trivial
theorem PySem.W.Fast.tw12563179705281284516 : True := trivial
theorem PySem.W.Fast.tw1513107539128143300 : True := trivial
theorem PySem.W.Fast.tw5778957310934761924 : True := trivial
theorem PySem.W.Fast.tw7648839916417465828 : True := trivial
theorem PySem.W.Fast.tw3091192812110523876 : True := trivial
theorem PySem.W.Fast.tw7002639565062867460 : True := trivial
theorem PySem.W.Fast.tw2272094499072776708 : True := trivial
theorem PySem.W.Fast.tw11928325679735837220 : True := trivial
theorem PySem.W.Fast.tw12736405079224594980 : True := trivial
theorem PySem.W.Fast.tw2514775644675998276 : True := trivial
theorem PySem.W.Fast.tw13174693899944852036 : True := trivial
theorem PySem.W.Fast.tw6490064194532836964 : True := trivial
theorem PySem.W.Fast.tw14258061320889172612 : True := trivial
theorem PySem.W.Fast.tw13825535808083634820 : True := trivial
theorem PySem.W.Fast.tw12082841579265576580 : True := trivial
theorem PySem.W.Fast.tw12298131565389147780 : True := trivial
theorem PySem.W.Fast.tw4819929962017785540 : True := trivial
theorem PySem.W.Fast.tw17194587622583943908 : True := trivial
theorem PySem.W.Fast.tw17174098323219905252 : True := trivial
theorem PySem.W.Fast.tw6556994899640823556 : True := trivial
theorem PySem.W.Fast.tw17900120520514119460 : True := trivial
theorem PySem.W.Fast.tw15104415676830005028 : True := trivial
theorem PySem.W.Fast.tw7343081489909014308 : True := trivial
theorem PySem.W.Fast.tw4427435631561369412 : True := trivial
theorem PySem.W.Fast.tw16687482504111987556 : True := trivial
theorem PySem.W.Fast.tw11585399679226878820 : True := trivial
theorem PySem.W.Fast.tw3306084034821762916 : True := trivial
theorem PySem.W.Fast.tw12881235208419885924 : True := trivial
theorem PySem.W.Fast.tw9584885718994356100 : True := trivial
theorem PySem.W.Fast.tw8726211243257464740 : True := trivial
theorem PySem.W.Fast.tw8477655016355963812 : True := trivial
theorem PySem.W.Fast.tw18297834329054774212 : True := trivial
theorem PySem.W.Fast.tw10512136971787794372 : True := trivial
theorem PySem.W.Fast.tw9912875146251534276 : True := trivial
theorem PySem.W.Fast.tw1578349649186493445 : True := trivial
theorem PySem.W.Fast.tw893427773473001477 : True := trivial
theorem PySem.W.Fast.tw8697612905053392933 : True := trivial
theorem PySem.W.Fast.tw4283437808388257829 : True := trivial
theorem PySem.W.Fast.tw14261653918040597573 : True := trivial
theorem PySem.W.Fast.tw12192124632849091717 : True := trivial
theorem PySem.W.Fast.tw13950525116690641029 : True := trivial
theorem PySem.W.Fast.tw6416632077151626373 : True := trivial
theorem PySem.W.Fast.tw12846821028156497093 : True := trivial
theorem PySem.W.Fast.tw17755342642064948421 : True := trivial
theorem PySem.W.Fast.tw12947246776635231461 : True := trivial
theorem PySem.W.Fast.tw15542266739555107045 : True := trivial
theorem PySem.W.Fast.tw1751823595111594277 : True := trivial
theorem PySem.W.Fast.tw2905685862213153093 : True := trivial
theorem PySem.W.Fast.tw15190986511532394853 : True := trivial
theorem PySem.W.Fast.tw10952984816397804933 : True := trivial
theorem PySem.W.Fast.tw2989133082964489605 : True := trivial
theorem PySem.W.Fast.tw9773876391495028133 : True := trivial
theorem PySem.W.Fast.tw1193855010452633093 : True := trivial
theorem PySem.W.Fast.tw5826872405883912741 : True := trivial
theorem PySem.W.Fast.tw15382438167703884325 : True := trivial
theorem PySem.W.Fast.tw2631367427462896165 : True := trivial
theorem PySem.W.Fast.tw15830408626289981989 : True := trivial
theorem PySem.W.Fast.tw14968378778642865701 : True := trivial
theorem PySem.W.Fast.tw8902157993597724197 : True := trivial
theorem PySem.W.Fast.tw5454030731867501125 : True := trivial
theorem PySem.W.Fast.tw6308165761859096197 : True := trivial
theorem PySem.W.Fast.tw15432835500415038117 : True := trivial
theorem PySem.W.Fast.tw4232696709647593157 : True := trivial
theorem PySem.W.Fast.tw7591059088695812837 : True := trivial
theorem PySem.W.Fast.tw6413481145590701829 : True := trivial
theorem PySem.W.Fast.tw13357201483915202341 : True := trivial
theorem PySem.W.Fast.tw12002657996252167973 : True := trivial
theorem PySem.W.Fast.tw7507950892993752965 : True := trivial
theorem PySem.W.Fast.tw7769273797425253253 : True := trivial
theorem PySem.W.Fast.tw15627059017109246885 : True := trivial
theorem PySem.W.Fast.tw16892451360432522181 : True := trivial
theorem PySem.W.Fast.tw12727202405797917637 : True := trivial
theorem PySem.W.Fast.tw16907976929874080741 : True := trivial
theorem PySem.W.Fast.tw7620142972138427398 : True := trivial
theorem PySem.W.Fast.tw14485931073042823174 : True := trivial
theorem PySem.W.Fast.tw16982434130206005286 : True := trivial
theorem PySem.W.Fast.tw476167618678965286 : True := trivial
theorem PySem.W.Fast.tw8030378111233160262 : True := trivial
theorem PySem.W.Fast.tw1789292199836887110 : True := trivial
theorem PySem.W.Fast.tw851484682393285734 : True := trivial
theorem PySem.W.Fast.tw17608586486786915430 : True := trivial
theorem PySem.W.Fast.tw5218369016180066438 : True := trivial
theorem PySem.W.Fast.tw15594318724698458246 : True := trivial
theorem PySem.W.Fast.tw2335220415256654982 : True := trivial
theorem PySem.W.Fast.tw9691044131270834342 : True := trivial
theorem PySem.W.Fast.tw18151093150937814214 : True := trivial
theorem PySem.W.Fast.tw7403339887629481190 : True := trivial
theorem PySem.W.Fast.tw18111667135959310598 : True := trivial
theorem PySem.W.Fast.tw17906641953512105286 : True := trivial
theorem PySem.W.Fast.tw800268723249286502 : True := trivial
theorem PySem.W.Fast.tw15725995041154613670 : True := trivial
theorem PySem.W.Fast.tw593649110137165254 : True := trivial
theorem PySem.W.Fast.tw14538249710742537702 : True := trivial
theorem PySem.W.Fast.tw12347037761828344326 : True := trivial
theorem PySem.W.Fast.tw17271957773577033286 : True := trivial
theorem PySem.W.Fast.tw17932596394804860518 : True := trivial
theorem PySem.W.Fast.tw11733194013976553062 : True := trivial
theorem PySem.W.Fast.tw18417163833706904166 : True := trivial
theorem PySem.W.Fast.tw2014756594019588742 : True := trivial
theorem PySem.W.Fast.tw490122573708934822 : True := trivial
theorem PySem.W.Fast.tw9752681361270203078 : True := trivial
theorem PySem.W.Fast.tw5546673927610270438 : True := trivial
theorem PySem.W.Fast.tw16759652103394967270 : True := trivial
theorem PySem.W.Fast.tw10282102169153640198 : True := trivial
theorem PySem.W.Fast.tw2167709544534357766 : True := trivial
theorem PySem.W.Fast.tw17786332765974662950 : True := trivial
theorem PySem.W.Fast.tw15426365830793278246 : True := trivial
theorem PySem.W.Fast.tw16844641498613536614 : True := trivial
theorem PySem.W.Fast.tw11469403126505415558 : True := trivial
theorem PySem.W.Fast.tw4597399841063932806 : True := trivial
theorem PySem.W.Fast.tw17547533698467284934 : True := trivial
theorem PySem.W.Fast.tw13250378488469317606 : True := trivial
theorem PySem.W.Fast.tw5820687585433492454 : True := trivial
theorem PySem.W.Fast.tw10986516577415956487 : True := trivial
theorem PySem.W.Fast.tw6079572964210794503 : True := trivial
theorem PySem.W.Fast.tw7360094094904308839 : True := trivial
theorem PySem.W.Fast.tw3511184070407854215 : True := trivial
theorem PySem.W.Fast.tw13341178070350935175 : True := trivial
theorem PySem.W.Fast.tw7076192911740002439 : True := trivial
theorem PySem.W.Fast.tw7121579450068364423 : True := trivial
theorem PySem.W.Fast.tw14303362889994533031 : True := trivial
theorem PySem.W.Fast.tw8259582111701334215 : True := trivial
theorem PySem.W.Fast.tw11413062841285317863 : True := trivial
theorem PySem.W.Fast.tw6200221240218717447 : True := trivial
theorem PySem.W.Fast.tw15024314509416255751 : True := trivial
theorem PySem.W.Fast.tw8782502741873728839 : True := trivial
theorem PySem.W.Fast.tw7886767940640410983 : True := trivial
theorem PySem.W.Fast.tw8274053978646978951 : True := trivial
theorem PySem.W.Fast.tw3367724648329428359 : True := trivial
theorem PySem.W.Fast.tw8320638943891220871 : True := trivial
theorem PySem.W.Fast.tw2380737705028276647 : True := trivial
theorem PySem.W.Fast.tw17010829706252091879 : True := trivial
theorem PySem.W.Fast.tw12659235078651206119 : True := trivial
theorem PySem.W.Fast.tw16748093917369528871 : True := trivial
theorem PySem.W.Fast.tw11309222987257442887 : True := trivial
theorem PySem.W.Fast.tw5708176149600267943 : True := trivial
theorem PySem.W.Fast.tw18010957075878332103 : True := trivial
theorem PySem.W.Fast.tw7863353634754844359 : True := trivial
theorem PySem.W.Fast.tw869780059763408583 : True := trivial
theorem PySem.W.Fast.tw15400892913021350631 : True := trivial
theorem PySem.W.Fast.tw11894617018972918503 : True := trivial
theorem PySem.W.Fast.tw14255518141232864007 : True := trivial
theorem PySem.W.Fast.tw9142656680845216551 : True := trivial
theorem PySem.W.Fast.tw3639620326308024167 : True := trivial
theorem PySem.W.Fast.tw2522228063181280135 : True := trivial
theorem PySem.W.Fast.tw16254381906903857031 : True := trivial
theorem PySem.W.Fast.tw7560914357281453959 : True := trivial
theorem PySem.W.Fast.tw1446863344171617191 : True := trivial
theorem PySem.W.Fast.tw11847669448348155815 : True := trivial
theorem PySem.W.Fast.tw2213416353206414279 : True := trivial
theorem PySem.W.Fast.tw10497258905567856615 : True := trivial
theorem PySem.W.Fast.tw5182123285881224167 : True := trivial
theorem PySem.W.Fast.tw1292357060581649416 : True := trivial
theorem PySem.W.Fast.tw926151909642907688 : True := trivial
theorem PySem.W.Fast.tw291282337289794600 : True := trivial
theorem PySem.W.Fast.tw10264134580339650632 : True := trivial
theorem PySem.W.Fast.tw2654494706390077672 : True := trivial
theorem PySem.W.Fast.tw11609122111574996200 : True := trivial
theorem PySem.W.Fast.tw17899781935512155368 : True := trivial
theorem PySem.W.Fast.tw13703170029777229096 : True := trivial
theorem PySem.W.Fast.tw6487192454401498440 : True := trivial
theorem PySem.W.Fast.tw3156380862303190344 : True := trivial
theorem PySem.W.Fast.tw8995838958367331656 : True := trivial
theorem PySem.W.Fast.tw7573400075607267656 : True := trivial
theorem PySem.W.Fast.tw10987378975395929416 : True := trivial
theorem PySem.W.Fast.tw5582922337488960872 : True := trivial
theorem PySem.W.Fast.tw9105709622194780584 : True := trivial
theorem PySem.W.Fast.tw13197964421174493672 : True := trivial
theorem PySem.W.Fast.tw4389697202754979304 : True := trivial
theorem PySem.W.Fast.tw9524362626296628744 : True := trivial
theorem PySem.W.Fast.tw10846638512301936168 : True := trivial
theorem PySem.W.Fast.tw6781389957190806056 : True := trivial
theorem PySem.W.Fast.tw17765510425854047816 : True := trivial
theorem PySem.W.Fast.tw13745656138234568296 : True := trivial
theorem PySem.W.Fast.tw8333644983724350088 : True := trivial
theorem PySem.W.Fast.tw15204284448648053384 : True := trivial
theorem PySem.W.Fast.tw6691230517852041864 : True := trivial
theorem PySem.W.Fast.tw11770014853273524904 : True := trivial
theorem PySem.W.Fast.tw7464063063448817320 : True := trivial
theorem PySem.W.Fast.tw5417767621817978568 : True := trivial
theorem PySem.W.Fast.tw17200585457146639112 : True := trivial
theorem PySem.W.Fast.tw9014208375396917000 : True := trivial
theorem PySem.W.Fast.tw10574445582296480520 : True := trivial
theorem PySem.W.Fast.tw3755813447707699080 : True := trivial
theorem PySem.W.Fast.tw16294223067839280040 : True := trivial
theorem PySem.W.Fast.tw17303963179192199112 : True := trivial
theorem PySem.W.Fast.tw17423331349048309704 : True := trivial
theorem PySem.W.Fast.tw3040039439775524808 : True := trivial
theorem PySem.W.Fast.tw11705671557476935689 : True := trivial
theorem PySem.W.Fast.tw16390704966888030249 : True := trivial
theorem PySem.W.Fast.tw7523035430066884713 : True := trivial
theorem PySem.W.Fast.tw8938974110922033289 : True := trivial
theorem PySem.W.Fast.tw18049712544356725897 : True := trivial
theorem PySem.W.Fast.tw417633665571370185 : True := trivial
theorem PySem.W.Fast.tw8036660564611321033 : True := trivial
theorem PySem.W.Fast.tw14531169834494531817 : True := trivial
theorem PySem.W.Fast.tw7573786243616096521 : True := trivial
theorem PySem.W.Fast.tw13595133190645802281 : True := trivial
theorem PySem.W.Fast.tw747054589147543881 : True := trivial
theorem PySem.W.Fast.tw9979192443883778409 : True := trivial
theorem PySem.W.Fast.tw10128812169219217769 : True := trivial
theorem PySem.W.Fast.tw3614331733036138889 : True := trivial
theorem PySem.W.Fast.tw15129567203549523337 : True := trivial
theorem PySem.W.Fast.tw397106158185000329 : True := trivial
theorem PySem.W.Fast.tw15719971669448800649 : True := trivial
theorem PySem.W.Fast.tw4688069146466672009 : True := trivial
theorem PySem.W.Fast.tw2574394804319004137 : True := trivial
theorem PySem.W.Fast.tw237241440226191849 : True := trivial
theorem PySem.W.Fast.tw1118169953644432873 : True := trivial
theorem PySem.W.Fast.tw1905394364705625577 : True := trivial
theorem PySem.W.Fast.tw4715096056343879145 : True := trivial
theorem PySem.W.Fast.tw5863758385407877609 : True := trivial
theorem PySem.W.Fast.tw1175251937915187721 : True := trivial
theorem PySem.W.Fast.tw15618170307624429129 : True := trivial
theorem PySem.W.Fast.tw2530783821711032905 : True := trivial
theorem PySem.W.Fast.tw15812904649892981353 : True := trivial
theorem PySem.W.Fast.tw17210320432518786697 : True := trivial
theorem PySem.W.Fast.tw15389701328901512873 : True := trivial
theorem PySem.W.Fast.tw10095490988863954601 : True := trivial
theorem PySem.W.Fast.tw11634562978072980137 : True := trivial
theorem PySem.W.Fast.tw8523749489603066569 : True := trivial
theorem PySem.W.Fast.tw2489339677033704169 : True := trivial
theorem PySem.W.Fast.tw3880435625198923497 : True := trivial
theorem PySem.W.Fast.tw6298534265704528617 : True := trivial
theorem PySem.W.Fast.tw10371782823382052681 : True := trivial
theorem PySem.W.Fast.tw14723109972711410569 : True := trivial
theorem PySem.W.Fast.tw8160869593877237737 : True := trivial
theorem PySem.W.Fast.tw5228758755472040937 : True := trivial
theorem PySem.W.Fast.tw4031205411265118218 : True := trivial
theorem PySem.W.Fast.tw8289485189708363786 : True := trivial
theorem PySem.W.Fast.tw17178053218832890890 : True := trivial
theorem PySem.W.Fast.tw12058123255067793418 : True := trivial
theorem PySem.W.Fast.tw7173670509677781034 : True := trivial
theorem PySem.W.Fast.tw13186864748043062378 : True := trivial
theorem PySem.W.Fast.tw12458064085587681386 : True := trivial
theorem PySem.W.Fast.tw6346950416933650570 : True := trivial
theorem PySem.W.Fast.tw17029423165457808618 : True := trivial
theorem PySem.W.Fast.tw3101393253268599050 : True := trivial
theorem PySem.W.Fast.tw9509508098479869194 : True := trivial
theorem PySem.W.Fast.tw18325020480349969706 : True := trivial
theorem PySem.W.Fast.tw12876967949262887242 : True := trivial
theorem PySem.W.Fast.tw9567924823632379210 : True := trivial
theorem PySem.W.Fast.tw9040025923197833578 : True := trivial
theorem PySem.W.Fast.tw14514763587513765226 : True := trivial
theorem PySem.W.Fast.tw17563924019361803626 : True := trivial
theorem PySem.W.Fast.tw10868839710162236810 : True := trivial
theorem PySem.W.Fast.tw15546229864766399882 : True := trivial
theorem PySem.W.Fast.tw10809666224031059402 : True := trivial
theorem PySem.W.Fast.tw15376426720858864138 : True := trivial
theorem PySem.W.Fast.tw12605159989079726634 : True := trivial
theorem PySem.W.Fast.tw17813401204325083690 : True := trivial
theorem PySem.W.Fast.tw4351444470818667050 : True := trivial
theorem PySem.W.Fast.tw6109105812749211210 : True := trivial
theorem PySem.W.Fast.tw8075796589372861002 : True := trivial
theorem PySem.W.Fast.tw12368894802581484106 : True := trivial
theorem PySem.W.Fast.tw16875240341964013226 : True := trivial
theorem PySem.W.Fast.tw13994201259460411082 : True := trivial
theorem PySem.W.Fast.tw4783842539451136746 : True := trivial
theorem PySem.W.Fast.tw10556791861371303658 : True := trivial
theorem PySem.W.Fast.tw6631684714191128330 : True := trivial
theorem PySem.W.Fast.tw3180623410161447722 : True := trivial
theorem PySem.W.Fast.tw10536946223505903434 : True := trivial
theorem PySem.W.Fast.tw9376010488971379530 : True := trivial
theorem PySem.W.Fast.tw6667753831042581386 : True := trivial
theorem PySem.W.Fast.tw14398545958343336842 : True := trivial
theorem PySem.W.Fast.tw8561865221495503818 : True := trivial
theorem PySem.W.Fast.tw11631233731653970922 : True := trivial
theorem PySem.W.Fast.tw8460767764111624235 : True := trivial
theorem PySem.W.Fast.tw10354886688136640555 : True := trivial
theorem PySem.W.Fast.tw16568225322317004843 : True := trivial
theorem PySem.W.Fast.tw17276097231167572043 : True := trivial
theorem PySem.W.Fast.tw16747200098591328331 : True := trivial
theorem PySem.W.Fast.tw7991831853692429419 : True := trivial
theorem PySem.W.Fast.tw5348125351484599403 : True := trivial
theorem PySem.W.Fast.tw18024918910259587179 : True := trivial
theorem PySem.W.Fast.tw7911937750542950539 : True := trivial
theorem PySem.W.Fast.tw5827687944517641419 : True := trivial
theorem PySem.W.Fast.tw615877548960314635 : True := trivial
theorem PySem.W.Fast.tw7356291573861263659 : True := trivial
theorem PySem.W.Fast.tw17375312411538299211 : True := trivial
theorem PySem.W.Fast.tw10986528111895355723 : True := trivial
theorem PySem.W.Fast.tw13583049824036146507 : True := trivial
theorem PySem.W.Fast.tw14088097211031348555 : True := trivial
theorem PySem.W.Fast.tw15753305885967145355 : True := trivial
theorem PySem.W.Fast.tw10399757889928871435 : True := trivial
theorem PySem.W.Fast.tw70808010626865707 : True := trivial
theorem PySem.W.Fast.tw15361836125900025387 : True := trivial
theorem PySem.W.Fast.tw11000078578352949867 : True := trivial
theorem PySem.W.Fast.tw16746274341654181483 : True := trivial
theorem PySem.W.Fast.tw2281258305494272619 : True := trivial
theorem PySem.W.Fast.tw817921096612867691 : True := trivial
theorem PySem.W.Fast.tw4950396067199090283 : True := trivial
theorem PySem.W.Fast.tw1086822845397239499 : True := trivial
theorem PySem.W.Fast.tw14304303853562497739 : True := trivial
theorem PySem.W.Fast.tw11713032632133634763 : True := trivial
theorem PySem.W.Fast.tw1389204591183165163 : True := trivial
theorem PySem.W.Fast.tw2758778045919336203 : True := trivial
theorem PySem.W.Fast.tw16153160702253417227 : True := trivial
theorem PySem.W.Fast.tw3916285632399766347 : True := trivial
theorem PySem.W.Fast.tw10659333205932946283 : True := trivial
theorem PySem.W.Fast.tw14320860655523068779 : True := trivial
theorem PySem.W.Fast.tw14154148108671108043 : True := trivial
theorem PySem.W.Fast.tw9845369732905357259 : True := trivial
theorem PySem.W.Fast.tw2320780157180171211 : True := trivial
theorem PySem.W.Fast.tw15560289077763640299 : True := trivial
theorem PySem.W.Fast.tw3215080229484010475 : True := trivial
theorem PySem.W.Fast.tw9861408798007371755 : True := trivial
theorem PySem.W.Fast.tw8960310347206858796 : True := trivial
theorem PySem.W.Fast.tw5986900773684013164 : True := trivial
theorem PySem.W.Fast.tw17239803310270099596 : True := trivial
theorem PySem.W.Fast.tw3724162245624477868 : True := trivial
theorem PySem.W.Fast.tw3452636693541872844 : True := trivial
theorem PySem.W.Fast.tw15714007749963575500 : True := trivial
theorem PySem.W.Fast.tw3761257906481027308 : True := trivial
theorem PySem.W.Fast.tw5278546489556860140 : True := trivial
theorem PySem.W.Fast.tw5349273631011818764 : True := trivial
theorem PySem.W.Fast.tw9389254830671555884 : True := trivial
theorem PySem.W.Fast.tw6752772785280507180 : True := trivial
theorem PySem.W.Fast.tw16685856398053686604 : True := trivial
theorem PySem.W.Fast.tw11308495762793189708 : True := trivial
theorem PySem.W.Fast.tw16015281587798585740 : True := trivial
theorem PySem.W.Fast.tw16302279498272354732 : True := trivial
theorem PySem.W.Fast.tw2266542274670885292 : True := trivial
theorem PySem.W.Fast.tw11824576422748904876 : True := trivial
theorem PySem.W.Fast.tw9233243738432391628 : True := trivial
theorem PySem.W.Fast.tw13477418983151726028 : True := trivial
theorem PySem.W.Fast.tw2795188976647246316 : True := trivial
theorem PySem.W.Fast.tw15365124176410408428 : True := trivial
theorem PySem.W.Fast.tw3960762142433101324 : True := trivial
theorem PySem.W.Fast.tw13616467006797142540 : True := trivial
theorem PySem.W.Fast.tw13748343251746062892 : True := trivial
theorem PySem.W.Fast.tw14911651063591504492 : True := trivial
theorem PySem.W.Fast.tw7922902271574634124 : True := trivial
theorem PySem.W.Fast.tw13336067463547176652 : True := trivial
theorem PySem.W.Fast.tw16391246516023266028 : True := trivial
theorem PySem.W.Fast.tw14187628310317010668 : True := trivial
theorem PySem.W.Fast.tw11933508266193045228 : True := trivial
theorem PySem.W.Fast.tw11637632454873550604 : True := trivial
theorem PySem.W.Fast.tw12078187186912908044 : True := trivial
theorem PySem.W.Fast.tw2378353324944189228 : True := trivial
theorem PySem.W.Fast.tw10315252938828566348 : True := trivial
theorem PySem.W.Fast.tw8504307475861649292 : True := trivial
theorem PySem.W.Fast.tw3356824013796930476 : True := trivial
theorem PySem.W.Fast.tw9123737365357195212 : True := trivial
theorem PySem.W.Fast.tw12735319554184841196 : True := trivial
theorem PySem.W.Fast.tw9025972363287531533 : True := trivial
theorem PySem.W.Fast.tw17975789361060729869 : True := trivial
theorem PySem.W.Fast.tw16215013195103756301 : True := trivial
theorem PySem.W.Fast.tw18316069096119945261 : True := trivial
theorem PySem.W.Fast.tw17831983003462102061 : True := trivial
theorem PySem.W.Fast.tw12745009259789984877 : True := trivial
theorem PySem.W.Fast.tw3881889517353062509 : True := trivial
theorem PySem.W.Fast.tw15385184242594441325 : True := trivial
theorem PySem.W.Fast.tw1330073120708949133 : True := trivial
theorem PySem.W.Fast.tw2098392892143239341 : True := trivial
theorem PySem.W.Fast.tw14744906055171839149 : True := trivial
theorem PySem.W.Fast.tw9017438718571078829 : True := trivial
theorem PySem.W.Fast.tw8102800408316043501 : True := trivial
theorem PySem.W.Fast.tw15766487070184535277 : True := trivial
theorem PySem.W.Fast.tw18091223448509818189 : True := trivial
theorem PySem.W.Fast.tw10507467878078508397 : True := trivial
theorem PySem.W.Fast.tw2005525848687040877 : True := trivial
theorem PySem.W.Fast.tw6983060689589707149 : True := trivial
theorem PySem.W.Fast.tw13752749123590541 : True := trivial
theorem PySem.W.Fast.tw8484019683595626925 : True := trivial
theorem PySem.W.Fast.tw11267211562367674797 : True := trivial
theorem PySem.W.Fast.tw5159154198602288653 : True := trivial
theorem PySem.W.Fast.tw2107326776414133805 : True := trivial
theorem PySem.W.Fast.tw3554770037463318061 : True := trivial
theorem PySem.W.Fast.tw15558647852362474061 : True := trivial
theorem PySem.W.Fast.tw12562689816082782829 : True := trivial
theorem PySem.W.Fast.tw3787799131026059885 : True := trivial
theorem PySem.W.Fast.tw14268917396638083725 : True := trivial
theorem PySem.W.Fast.tw6249200194411670157 : True := trivial
theorem PySem.W.Fast.tw14821375100152587981 : True := trivial
theorem PySem.W.Fast.tw5693504764600460045 : True := trivial
theorem PySem.W.Fast.tw12916512650567471917 : True := trivial
theorem PySem.W.Fast.tw11636320359083760461 : True := trivial
theorem PySem.W.Fast.tw10019711806619363181 : True := trivial
theorem PySem.W.Fast.tw13849630323828346765 : True := trivial
theorem PySem.W.Fast.tw12432426429911597997 : True := trivial
theorem PySem.W.Fast.tw3881666533152954285 : True := trivial
theorem PySem.W.Fast.tw11765016412420560845 : True := trivial
theorem PySem.W.Fast.tw4454906025423817709 : True := trivial
theorem PySem.W.Fast.tw11788526600368441358 : True := trivial
theorem PySem.W.Fast.tw2718443501855391758 : True := trivial
theorem PySem.W.Fast.tw5328365156486325262 : True := trivial
theorem PySem.W.Fast.tw4314396262711133230 : True := trivial
theorem PySem.W.Fast.tw2207649356165265454 : True := trivial
theorem PySem.W.Fast.tw5168312596552884334 : True := trivial
theorem PySem.W.Fast.tw12732746975351469166 : True := trivial
theorem PySem.W.Fast.tw11863417285189141646 : True := trivial
theorem PySem.W.Fast.tw6292391250482887886 : True := trivial
theorem PySem.W.Fast.tw9196309588150226158 : True := trivial
theorem PySem.W.Fast.tw4141061107156358414 : True := trivial
theorem PySem.W.Fast.tw3752754604743125262 : True := trivial
theorem PySem.W.Fast.tw5980616058524036366 : True := trivial
theorem PySem.W.Fast.tw10967186369629216046 : True := trivial
theorem PySem.W.Fast.tw14011370612524490030 : True := trivial
theorem PySem.W.Fast.tw9044459144781496654 : True := trivial
theorem PySem.W.Fast.tw17563340924961732942 : True := trivial
theorem PySem.W.Fast.tw8661492885102201230 : True := trivial
theorem PySem.W.Fast.tw14064397870653285774 : True := trivial
theorem PySem.W.Fast.tw3899776351970447822 : True := trivial
theorem PySem.W.Fast.tw17899466049227671022 : True := trivial
theorem PySem.W.Fast.tw4835412135651142126 : True := trivial
theorem PySem.W.Fast.tw12863525363440909838 : True := trivial
theorem PySem.W.Fast.tw13335751151605399086 : True := trivial
theorem PySem.W.Fast.tw14070484084899179054 : True := trivial
theorem PySem.W.Fast.tw277326868006647374 : True := trivial
theorem PySem.W.Fast.tw6372548241358514766 : True := trivial
theorem PySem.W.Fast.tw1271351745238375086 : True := trivial
theorem PySem.W.Fast.tw8497578806493670094 : True := trivial
theorem PySem.W.Fast.tw5907358027479424718 : True := trivial
theorem PySem.W.Fast.tw5699258225467521742 : True := trivial
theorem PySem.W.Fast.tw12426823281078516462 : True := trivial
theorem PySem.W.Fast.tw10452207950764270318 : True := trivial
theorem PySem.W.Fast.tw11808486696632435502 : True := trivial
theorem PySem.W.Fast.tw10998666985223123758 : True := trivial
theorem PySem.W.Fast.tw17106036285369747278 : True := trivial
theorem PySem.W.Fast.tw5695340049903063886 : True := trivial
theorem PySem.W.Fast.tw4798682966098232238 : True := trivial
theorem PySem.W.Fast.tw11061308389860088782 : True := trivial
theorem PySem.W.Fast.tw17374932256965839822 : True := trivial
theorem PySem.W.Fast.tw15202013149027359694 : True := trivial
theorem PySem.W.Fast.tw9416928080994768975 : True := trivial
theorem PySem.W.Fast.tw14583925081617764463 : True := trivial
theorem PySem.W.Fast.tw4070206949061979247 : True := trivial
theorem PySem.W.Fast.tw4688955879537492111 : True := trivial
theorem PySem.W.Fast.tw14180754335725448367 : True := trivial
theorem PySem.W.Fast.tw1736944019323964623 : True := trivial
theorem PySem.W.Fast.tw6841005511331223759 : True := trivial
theorem PySem.W.Fast.tw2235768187926658319 : True := trivial
theorem PySem.W.Fast.tw11661108064125441295 : True := trivial
theorem PySem.W.Fast.tw8696409149477026095 : True := trivial
theorem PySem.W.Fast.tw12969291493353265487 : True := trivial
theorem PySem.W.Fast.tw13672445196185645391 : True := trivial
theorem PySem.W.Fast.tw13731707201582457167 : True := trivial
theorem PySem.W.Fast.tw16233232349086584207 : True := trivial
theorem PySem.W.Fast.tw10663347982800747983 : True := trivial
theorem PySem.W.Fast.tw5967025814420689391 : True := trivial
theorem PySem.W.Fast.tw8840851340611181039 : True := trivial
theorem PySem.W.Fast.tw14067628519250200079 : True := trivial
theorem PySem.W.Fast.tw8647314576980564559 : True := trivial
theorem PySem.W.Fast.tw11681731290913120879 : True := trivial
theorem PySem.W.Fast.tw16251825763488441967 : True := trivial
theorem PySem.W.Fast.tw9203776910976299631 : True := trivial
theorem PySem.W.Fast.tw1419603939599867535 : True := trivial
theorem PySem.W.Fast.tw2382234279438378671 : True := trivial
theorem PySem.W.Fast.tw9862581416067876559 : True := trivial
theorem PySem.W.Fast.tw3730924787539946223 : True := trivial
theorem PySem.W.Fast.tw9201931444529696559 : True := trivial
theorem PySem.W.Fast.tw14106833445330219823 : True := trivial
theorem PySem.W.Fast.tw7100968195589532495 : True := trivial
theorem PySem.W.Fast.tw213809006492511055 : True := trivial
theorem PySem.W.Fast.tw6061418627892558703 : True := trivial
theorem PySem.W.Fast.tw10680432192181681071 : True := trivial
theorem PySem.W.Fast.tw4901442448194598831 : True := trivial
theorem PySem.W.Fast.tw2137064274688927727 : True := trivial
theorem PySem.W.Fast.tw18207741211365347344 : True := trivial
theorem PySem.W.Fast.tw4765927241712204880 : True := trivial
theorem PySem.W.Fast.tw18423844414740638864 : True := trivial
theorem PySem.W.Fast.tw17339922707397575856 : True := trivial
theorem PySem.W.Fast.tw402518824213909680 : True := trivial
theorem PySem.W.Fast.tw16190991160562162864 : True := trivial
theorem PySem.W.Fast.tw14756256810685187248 : True := trivial
theorem PySem.W.Fast.tw5954670922099577040 : True := trivial
theorem PySem.W.Fast.tw12061276126582363344 : True := trivial
theorem PySem.W.Fast.tw6953539956049337552 : True := trivial
theorem PySem.W.Fast.tw3057087724800582928 : True := trivial
theorem PySem.W.Fast.tw7984482239770607888 : True := trivial
theorem PySem.W.Fast.tw8874477238504913200 : True := trivial
theorem PySem.W.Fast.tw12454574770735575408 : True := trivial
theorem PySem.W.Fast.tw15808356835163860368 : True := trivial
theorem PySem.W.Fast.tw5348401596053220752 : True := trivial
theorem PySem.W.Fast.tw7267146045614271920 : True := trivial
theorem PySem.W.Fast.tw9424148300894339568 : True := trivial
theorem PySem.W.Fast.tw10421228690285688304 : True := trivial
theorem PySem.W.Fast.tw12802302702372657712 : True := trivial
theorem PySem.W.Fast.tw9866567727687417392 : True := trivial
theorem PySem.W.Fast.tw11343129721572147760 : True := trivial
theorem PySem.W.Fast.tw12374281326546443824 : True := trivial
theorem PySem.W.Fast.tw805837852887543344 : True := trivial
theorem PySem.W.Fast.tw9856726181492460144 : True := trivial
theorem PySem.W.Fast.tw3707809261125832336 : True := trivial
theorem PySem.W.Fast.tw6094576894750892688 : True := trivial
theorem PySem.W.Fast.tw15171877372024136336 : True := trivial
theorem PySem.W.Fast.tw17143464668448008848 : True := trivial
theorem PySem.W.Fast.tw2203237805368914608 : True := trivial
theorem PySem.W.Fast.tw18402458226384327344 : True := trivial
theorem PySem.W.Fast.tw13699437191130200784 : True := trivial
theorem PySem.W.Fast.tw10214943015006758608 : True := trivial
theorem PySem.W.Fast.tw8081954636045164304 : True := trivial
theorem PySem.W.Fast.tw17506958484571972368 : True := trivial
theorem PySem.W.Fast.tw12737357127256830736 : True := trivial
theorem PySem.W.Fast.tw524596299227160464 : True := trivial
theorem PySem.W.Fast.tw13054087410785599440 : True := trivial
theorem PySem.W.Fast.tw18212132240834828272 : True := trivial
theorem PySem.W.Fast.tw6345300607514647536 : True := trivial
theorem PySem.W.Fast.tw7186372026877239345 : True := trivial
theorem PySem.W.Fast.tw15647195702120250417 : True := trivial
theorem PySem.W.Fast.tw11715268343281171537 : True := trivial
theorem PySem.W.Fast.tw18170168210666690673 : True := trivial
theorem PySem.W.Fast.tw17117945260057204849 : True := trivial
theorem PySem.W.Fast.tw9521162487487968369 : True := trivial
theorem PySem.W.Fast.tw739066414540830865 : True := trivial
theorem PySem.W.Fast.tw3789299174381122705 : True := trivial
theorem PySem.W.Fast.tw8227960603998287121 : True := trivial
theorem PySem.W.Fast.tw13554503254122680625 : True := trivial
theorem PySem.W.Fast.tw11045877802487126353 : True := trivial
theorem PySem.W.Fast.tw17118452906920871281 : True := trivial
theorem PySem.W.Fast.tw9408619118947682673 : True := trivial
theorem PySem.W.Fast.tw1150301051811122641 : True := trivial
theorem PySem.W.Fast.tw17920565802836453873 : True := trivial
theorem PySem.W.Fast.tw10823756678335998481 : True := trivial
theorem PySem.W.Fast.tw7851051438126736945 : True := trivial
theorem PySem.W.Fast.tw15642197820935776817 : True := trivial
theorem PySem.W.Fast.tw11557907369252581937 : True := trivial
theorem PySem.W.Fast.tw9902480177694292561 : True := trivial
theorem PySem.W.Fast.tw14983011439633767025 : True := trivial
theorem PySem.W.Fast.tw13291312957126475409 : True := trivial
theorem PySem.W.Fast.tw8572710006759100081 : True := trivial
theorem PySem.W.Fast.tw9660925192732848913 : True := trivial
theorem PySem.W.Fast.tw4552555779486792497 : True := trivial
theorem PySem.W.Fast.tw887949866489349937 : True := trivial
theorem PySem.W.Fast.tw8772842953354743633 : True := trivial
theorem PySem.W.Fast.tw11818189121930935121 : True := trivial
theorem PySem.W.Fast.tw15645413839922129745 : True := trivial
theorem PySem.W.Fast.tw6939701109117234033 : True := trivial
theorem PySem.W.Fast.tw13633722098154505105 : True := trivial
theorem PySem.W.Fast.tw3544416742356498321 : True := trivial
theorem PySem.W.Fast.tw12876826229618473873 : True := trivial
theorem PySem.W.Fast.tw8136927104897422386 : True := trivial
theorem PySem.W.Fast.tw4311672163052493874 : True := trivial
theorem PySem.W.Fast.tw17004230139317741618 : True := trivial
theorem PySem.W.Fast.tw638664793508250738 : True := trivial
theorem PySem.W.Fast.tw16113149861476422770 : True := trivial
theorem PySem.W.Fast.tw14009122679624359026 : True := trivial
theorem PySem.W.Fast.tw13020273299545381010 : True := trivial
theorem PySem.W.Fast.tw2593050617515724978 : True := trivial
theorem PySem.W.Fast.tw8309843999964060850 : True := trivial
theorem PySem.W.Fast.tw5348581224470279378 : True := trivial
theorem PySem.W.Fast.tw4000360159117219058 : True := trivial
theorem PySem.W.Fast.tw9083384152622557426 : True := trivial
theorem PySem.W.Fast.tw8194345589986137362 : True := trivial
theorem PySem.W.Fast.tw4145165057475483922 : True := trivial
theorem PySem.W.Fast.tw4028911030742406450 : True := trivial
theorem PySem.W.Fast.tw1919910970975654226 : True := trivial
theorem PySem.W.Fast.tw7633304227866549650 : True := trivial
theorem PySem.W.Fast.tw16576740707694997906 : True := trivial
theorem PySem.W.Fast.tw3720432101344773586 : True := trivial
theorem PySem.W.Fast.tw16489796940716210642 : True := trivial
theorem PySem.W.Fast.tw5348971877992628754 : True := trivial
theorem PySem.W.Fast.tw2200923378281736722 : True := trivial
theorem PySem.W.Fast.tw8991378801966496306 : True := trivial
theorem PySem.W.Fast.tw7998674475011931698 : True := trivial
theorem PySem.W.Fast.tw15701270217361071698 : True := trivial
theorem PySem.W.Fast.tw10951813884745216626 : True := trivial
theorem PySem.W.Fast.tw17277826754430962290 : True := trivial
theorem PySem.W.Fast.tw13848170254867064498 : True := trivial
theorem PySem.W.Fast.tw8090628078001907410 : True := trivial
theorem PySem.W.Fast.tw14545338510376159986 : True := trivial
theorem PySem.W.Fast.tw14928504606979218162 : True := trivial
theorem PySem.W.Fast.tw10068376486004487954 : True := trivial
theorem PySem.W.Fast.tw14722609958246167442 : True := trivial
theorem PySem.W.Fast.tw799432903795413906 : True := trivial
theorem PySem.W.Fast.tw6634306898073163698 : True := trivial
theorem PySem.W.Fast.tw8683594641555447730 : True := trivial
theorem PySem.W.Fast.tw6646485129649787858 : True := trivial
theorem PySem.W.Fast.tw11637022016730358738 : True := trivial
theorem PySem.W.Fast.tw7717887018530941971 : True := trivial
theorem PySem.W.Fast.tw9768639562012275731 : True := trivial
theorem PySem.W.Fast.tw11909105954793281555 : True := trivial
theorem PySem.W.Fast.tw11255924626529117203 : True := trivial
theorem PySem.W.Fast.tw7432485940450184243 : True := trivial
theorem PySem.W.Fast.tw11795477960709543987 : True := trivial
theorem PySem.W.Fast.tw15836918198395015251 : True := trivial
theorem PySem.W.Fast.tw7176170174313781331 : True := trivial
theorem PySem.W.Fast.tw15586327568284981427 : True := trivial
theorem PySem.W.Fast.tw8798043809819993267 : True := trivial
theorem PySem.W.Fast.tw1784390761779505331 : True := trivial
theorem PySem.W.Fast.tw13463470564614294707 : True := trivial
theorem PySem.W.Fast.tw12038935962172817619 : True := trivial
theorem PySem.W.Fast.tw15567703068039464243 : True := trivial
theorem PySem.W.Fast.tw8500197908633395571 : True := trivial
theorem PySem.W.Fast.tw9342159921890010483 : True := trivial
theorem PySem.W.Fast.tw6985651211239531923 : True := trivial
theorem PySem.W.Fast.tw4741127098715820435 : True := trivial
theorem PySem.W.Fast.tw15069910871694048691 : True := trivial
theorem PySem.W.Fast.tw370942481316608499 : True := trivial
theorem PySem.W.Fast.tw16714380417555170835 : True := trivial
theorem PySem.W.Fast.tw17358283083800082963 : True := trivial
theorem PySem.W.Fast.tw6226175097613878835 : True := trivial
theorem PySem.W.Fast.tw5735391697817857587 : True := trivial
theorem PySem.W.Fast.tw6082039625363800659 : True := trivial
theorem PySem.W.Fast.tw10023635013160102483 : True := trivial
theorem PySem.W.Fast.tw6869146309092575859 : True := trivial
theorem PySem.W.Fast.tw1972288499124385395 : True := trivial
theorem PySem.W.Fast.tw16535798329883483763 : True := trivial
theorem PySem.W.Fast.tw8008616331797788275 : True := trivial
theorem PySem.W.Fast.tw10147413656186621587 : True := trivial
theorem PySem.W.Fast.tw4701138103219498643 : True := trivial
theorem PySem.W.Fast.tw13640199994546616979 : True := trivial
theorem PySem.W.Fast.tw6931549854121763539 : True := trivial
theorem PySem.W.Fast.tw9862875895673503443 : True := trivial
theorem PySem.W.Fast.tw8318059483558725363 : True := trivial
theorem PySem.W.Fast.tw5621649138939998995 : True := trivial
theorem PySem.W.Fast.tw4712308609391280979 : True := trivial
theorem PySem.W.Fast.tw3468852000441157491 : True := trivial
theorem PySem.W.Fast.tw7174549772366886867 : True := trivial
theorem PySem.W.Fast.tw14190857081753739251 : True := trivial
theorem PySem.W.Fast.tw2951177855014063124 : True := trivial
theorem PySem.W.Fast.tw5324027571505796148 : True := trivial
theorem PySem.W.Fast.tw7197145827840877620 : True := trivial
theorem PySem.W.Fast.tw6728408502061139060 : True := trivial
theorem PySem.W.Fast.tw5162918477005989044 : True := trivial
theorem PySem.W.Fast.tw8058710548223643828 : True := trivial
theorem PySem.W.Fast.tw2646940060209382612 : True := trivial
theorem PySem.W.Fast.tw9362712397866066132 : True := trivial
theorem PySem.W.Fast.tw1661696526887089364 : True := trivial
theorem PySem.W.Fast.tw12190164903600099572 : True := trivial
theorem PySem.W.Fast.tw10615554697848015092 : True := trivial
theorem PySem.W.Fast.tw8784653129114828084 : True := trivial
theorem PySem.W.Fast.tw2524561607776077172 : True := trivial
theorem PySem.W.Fast.tw11622638940961337716 : True := trivial
theorem PySem.W.Fast.tw10471527630433385844 : True := trivial
theorem PySem.W.Fast.tw3901070588605949332 : True := trivial
theorem PySem.W.Fast.tw6169881291738439124 : True := trivial
theorem PySem.W.Fast.tw11701550267088133588 : True := trivial
theorem PySem.W.Fast.tw12675732716016820692 : True := trivial
theorem PySem.W.Fast.tw11207915111011448372 : True := trivial
theorem PySem.W.Fast.tw3796535734364628532 : True := trivial
theorem PySem.W.Fast.tw5888868763795280500 : True := trivial
theorem PySem.W.Fast.tw1735076999522199188 : True := trivial
theorem PySem.W.Fast.tw14859189520290592404 : True := trivial
theorem PySem.W.Fast.tw602700720643821204 : True := trivial
theorem PySem.W.Fast.tw14827061468394212084 : True := trivial
theorem PySem.W.Fast.tw241458386792863476 : True := trivial
theorem PySem.W.Fast.tw9315228624218098484 : True := trivial
theorem PySem.W.Fast.tw9325142554140793652 : True := trivial
theorem PySem.W.Fast.tw14085639509738180436 : True := trivial
theorem PySem.W.Fast.tw17309487467039224660 : True := trivial
theorem PySem.W.Fast.tw11966177266965598036 : True := trivial
theorem PySem.W.Fast.tw928497095767719796 : True := trivial
theorem PySem.W.Fast.tw6452237833739253652 : True := trivial
theorem PySem.W.Fast.tw8386320186893925268 : True := trivial
theorem PySem.W.Fast.tw4749705269671722900 : True := trivial
theorem PySem.W.Fast.tw2026985073278791636 : True := trivial
theorem PySem.W.Fast.tw10307845817420501972 : True := trivial
theorem PySem.W.Fast.tw10228446384736579572 : True := trivial
theorem PySem.W.Fast.tw12418905056427759637 : True := trivial
theorem PySem.W.Fast.tw5221147189642119221 : True := trivial
theorem PySem.W.Fast.tw14982478920931202101 : True := trivial
theorem PySem.W.Fast.tw6549767075525597301 : True := trivial
theorem PySem.W.Fast.tw8534312491905333365 : True := trivial
theorem PySem.W.Fast.tw12383572608373741685 : True := trivial
theorem PySem.W.Fast.tw9495042828681324757 : True := trivial
theorem PySem.W.Fast.tw12006868499530099925 : True := trivial
theorem PySem.W.Fast.tw1198327773992897781 : True := trivial
theorem PySem.W.Fast.tw5381566767655897365 : True := trivial
theorem PySem.W.Fast.tw11495099215210778933 : True := trivial
theorem PySem.W.Fast.tw16096264359255880085 : True := trivial
theorem PySem.W.Fast.tw790694104151644597 : True := trivial
theorem PySem.W.Fast.tw6823390280406035893 : True := trivial
theorem PySem.W.Fast.tw14363685760982150613 : True := trivial
theorem PySem.W.Fast.tw8519625294545152501 : True := trivial
theorem PySem.W.Fast.tw7679405915109128757 : True := trivial
theorem PySem.W.Fast.tw86807541843513941 : True := trivial
theorem PySem.W.Fast.tw10846457845646107253 : True := trivial
theorem PySem.W.Fast.tw9200737084569426581 : True := trivial
theorem PySem.W.Fast.tw2786695066444998293 : True := trivial
theorem PySem.W.Fast.tw830780856362999477 : True := trivial
theorem PySem.W.Fast.tw4601033618813724341 : True := trivial
theorem PySem.W.Fast.tw11970448889370717877 : True := trivial
theorem PySem.W.Fast.tw17234370805873544917 : True := trivial
theorem PySem.W.Fast.tw6659769187330807509 : True := trivial
theorem PySem.W.Fast.tw7913048473873100533 : True := trivial
theorem PySem.W.Fast.tw17752091691511850805 : True := trivial
theorem PySem.W.Fast.tw9095146586850356021 : True := trivial
theorem PySem.W.Fast.tw13173201671388066645 : True := trivial
theorem PySem.W.Fast.tw6060363774952561525 : True := trivial
theorem PySem.W.Fast.tw7607143726092252021 : True := trivial
theorem PySem.W.Fast.tw1076130523074623349 : True := trivial
theorem PySem.W.Fast.tw13074507668384590741 : True := trivial
theorem PySem.W.Fast.tw9841019125024169877 : True := trivial
theorem PySem.W.Fast.tw6915372324749330357 : True := trivial
theorem PySem.W.Fast.tw6339603838266728373 : True := trivial
theorem PySem.W.Fast.tw10316365110484139957 : True := trivial
theorem PySem.W.Fast.tw4565007653297030101 : True := trivial
theorem PySem.W.Fast.tw3362054304381492181 : True := trivial
theorem PySem.W.Fast.tw15264090890326916118 : True := trivial
theorem PySem.W.Fast.tw13195746037113082934 : True := trivial
theorem PySem.W.Fast.tw12767929262120819798 : True := trivial
theorem PySem.W.Fast.tw3506821313388203126 : True := trivial
theorem PySem.W.Fast.tw7658057100591914166 : True := trivial
theorem PySem.W.Fast.tw15021865616575688886 : True := trivial
theorem PySem.W.Fast.tw3683739897126122678 : True := trivial
theorem PySem.W.Fast.tw13001438472024588502 : True := trivial
theorem PySem.W.Fast.tw15653654269726479606 : True := trivial
theorem PySem.W.Fast.tw3527605913461407990 : True := trivial
theorem PySem.W.Fast.tw16395575383848343830 : True := trivial
theorem PySem.W.Fast.tw1154687834043181366 : True := trivial
theorem PySem.W.Fast.tw2128668812527641046 : True := trivial
theorem PySem.W.Fast.tw6960171544931088886 : True := trivial
theorem PySem.W.Fast.tw17719337633707138582 : True := trivial
theorem PySem.W.Fast.tw1101948971057619510 : True := trivial
theorem PySem.W.Fast.tw1169916932476684854 : True := trivial
theorem PySem.W.Fast.tw15621204681347855926 : True := trivial
theorem PySem.W.Fast.tw4422520795784476310 : True := trivial
theorem PySem.W.Fast.tw15764669688614976150 : True := trivial
theorem PySem.W.Fast.tw2771604797929208534 : True := trivial
theorem PySem.W.Fast.tw17641189856829424342 : True := trivial
theorem PySem.W.Fast.tw12872648227801932534 : True := trivial
theorem PySem.W.Fast.tw10502077075285501750 : True := trivial
theorem PySem.W.Fast.tw2419049991365398422 : True := trivial
theorem PySem.W.Fast.tw15661245451115109270 : True := trivial
theorem PySem.W.Fast.tw321142520982413206 : True := trivial
theorem PySem.W.Fast.tw14244785696564324278 : True := trivial
theorem PySem.W.Fast.tw15811230914219553718 : True := trivial
theorem PySem.W.Fast.tw10956793289365934006 : True := trivial
theorem PySem.W.Fast.tw3901661873837245463 : True := trivial
theorem PySem.W.Fast.tw1953252999310234647 : True := trivial
theorem PySem.W.Fast.tw12709499115487379575 : True := trivial
theorem PySem.W.Fast.tw4017586725109990583 : True := trivial
theorem PySem.W.Fast.tw16625316216104829111 : True := trivial
theorem PySem.W.Fast.tw6916945752298453175 : True := trivial
theorem PySem.W.Fast.tw17133044864111415511 : True := trivial
theorem PySem.W.Fast.tw11723111955521409239 : True := trivial
theorem PySem.W.Fast.tw7950687907463379159 : True := trivial
theorem PySem.W.Fast.tw13917497082086578391 : True := trivial
theorem PySem.W.Fast.tw11135955864081661207 : True := trivial
theorem PySem.W.Fast.tw11769927220264799575 : True := trivial
theorem PySem.W.Fast.tw16241088375569628631 : True := trivial
theorem PySem.W.Fast.tw12641067282593432023 : True := trivial
theorem PySem.W.Fast.tw15765246004953130551 : True := trivial
theorem PySem.W.Fast.tw17236525946139298359 : True := trivial
theorem PySem.W.Fast.tw17263619682403604151 : True := trivial
theorem PySem.W.Fast.tw13372244429501453015 : True := trivial
theorem PySem.W.Fast.tw2677463601317889783 : True := trivial
theorem PySem.W.Fast.tw9975533207032711927 : True := trivial
theorem PySem.W.Fast.tw2386710350982374231 : True := trivial
theorem PySem.W.Fast.tw868523892853293943 : True := trivial
theorem PySem.W.Fast.tw1011819742836894615 : True := trivial
theorem PySem.W.Fast.tw10537699960397227959 : True := trivial
theorem PySem.W.Fast.tw16782610696626863063 : True := trivial
theorem PySem.W.Fast.tw18316341177718974488 : True := trivial
theorem PySem.W.Fast.tw8848202602123862072 : True := trivial
theorem PySem.W.Fast.tw18070523270734532696 : True := trivial
theorem PySem.W.Fast.tw5605360853870091384 : True := trivial
theorem PySem.W.Fast.tw511017731562229944 : True := trivial
theorem PySem.W.Fast.tw10094671168454584504 : True := trivial
theorem PySem.W.Fast.tw9850875556969235800 : True := trivial
theorem PySem.W.Fast.tw13749098437718933880 : True := trivial
theorem PySem.W.Fast.tw6920024116359244152 : True := trivial
theorem PySem.W.Fast.tw4748471350390917592 : True := trivial
theorem PySem.W.Fast.tw16870230703618601432 : True := trivial
theorem PySem.W.Fast.tw17404702646844791288 : True := trivial
theorem PySem.W.Fast.tw17159128147530198520 : True := trivial
theorem PySem.W.Fast.tw629988263531180568 : True := trivial
theorem PySem.W.Fast.tw11213954057068249720 : True := trivial
theorem PySem.W.Fast.tw13002283837772531352 : True := trivial
theorem PySem.W.Fast.tw9840816550882906776 : True := trivial
theorem PySem.W.Fast.tw7404866312794125976 : True := trivial
theorem PySem.W.Fast.tw8883333393762637496 : True := trivial
theorem PySem.W.Fast.tw1991614049348318936 : True := trivial
theorem PySem.W.Fast.tw17902107315971478296 : True := trivial
theorem PySem.W.Fast.tw7685283905201705752 : True := trivial
theorem PySem.W.Fast.tw13875370354631164760 : True := trivial
theorem PySem.W.Fast.tw13318061180447177560 : True := trivial
theorem PySem.W.Fast.tw16073633920087899032 : True := trivial
theorem PySem.W.Fast.tw5201888051059646360 : True := trivial
theorem PySem.W.Fast.tw11896490138349037528 : True := trivial
theorem PySem.W.Fast.tw15250189465361556472 : True := trivial
theorem PySem.W.Fast.tw15166165458369923064 : True := trivial
theorem PySem.W.Fast.tw6218266338958720025 : True := trivial
theorem PySem.W.Fast.tw4626988036865444889 : True := trivial
theorem PySem.W.Fast.tw14512557584977743897 : True := trivial
theorem PySem.W.Fast.tw762850277391574105 : True := trivial
theorem PySem.W.Fast.tw3583058481233901657 : True := trivial
theorem PySem.W.Fast.tw5071647204719843417 : True := trivial
theorem PySem.W.Fast.tw1982199976187042937 : True := trivial
theorem PySem.W.Fast.tw7183868332026798233 : True := trivial
theorem PySem.W.Fast.tw7532581197817032889 : True := trivial
theorem PySem.W.Fast.tw14565097088919718073 : True := trivial
theorem PySem.W.Fast.tw8214768637440814265 : True := trivial
theorem PySem.W.Fast.tw3728552576747377881 : True := trivial
theorem PySem.W.Fast.tw18416319695032171737 : True := trivial
theorem PySem.W.Fast.tw17851139305519499481 : True := trivial
theorem PySem.W.Fast.tw10429975532432790777 : True := trivial
theorem PySem.W.Fast.tw16234968922941646073 : True := trivial
theorem PySem.W.Fast.tw5718678285385041177 : True := trivial
theorem PySem.W.Fast.tw9581565840600915257 : True := trivial
theorem PySem.W.Fast.tw7770828713065771321 : True := trivial
theorem PySem.W.Fast.tw7435294239482177913 : True := trivial
theorem PySem.W.Fast.tw6832386999591443865 : True := trivial
theorem PySem.W.Fast.tw9148893381207910841 : True := trivial
theorem PySem.W.Fast.tw11863804412836348377 : True := trivial
theorem PySem.W.Fast.tw15388904282980681177 : True := trivial
theorem PySem.W.Fast.tw1681238082114754009 : True := trivial
theorem PySem.W.Fast.tw374558053600007641 : True := trivial
theorem PySem.W.Fast.tw18251397788658365913 : True := trivial
theorem PySem.W.Fast.tw974737104352714297 : True := trivial
theorem PySem.W.Fast.tw183956856120367705 : True := trivial
theorem PySem.W.Fast.tw2993775748149593689 : True := trivial
theorem PySem.W.Fast.tw4323678242649725529 : True := trivial
theorem PySem.W.Fast.tw989719337402459769 : True := trivial
theorem PySem.W.Fast.tw900420048028530297 : True := trivial
theorem PySem.W.Fast.tw15839073418437484185 : True := trivial
theorem PySem.W.Fast.tw9414414714146823865 : True := trivial
theorem PySem.W.Fast.tw3098546422165682873 : True := trivial
theorem PySem.W.Fast.tw9300386021833311961 : True := trivial
theorem PySem.W.Fast.tw2639527080521870073 : True := trivial
theorem PySem.W.Fast.tw4123314635227316985 : True := trivial
theorem PySem.W.Fast.tw10820705986830945017 : True := trivial
theorem PySem.W.Fast.tw3856598863078248185 : True := trivial
theorem PySem.W.Fast.tw15980519764601393945 : True := trivial
theorem PySem.W.Fast.tw13359369997407941401 : True := trivial
theorem PySem.W.Fast.tw12043149509163062073 : True := trivial
theorem PySem.W.Fast.tw1568842742821794617 : True := trivial
theorem PySem.W.Fast.tw3275738949293105977 : True := trivial
theorem PySem.W.Fast.tw14651419735364302649 : True := trivial
theorem PySem.W.Fast.tw10717384625224499065 : True := trivial
theorem PySem.W.Fast.tw604274825002795929 : True := trivial
theorem PySem.W.Fast.tw340045196553346969 : True := trivial
theorem PySem.W.Fast.tw17330543559614179257 : True := trivial
theorem PySem.W.Fast.tw10116135615976483769 : True := trivial
theorem PySem.W.Fast.tw13744574357084722105 : True := trivial
theorem PySem.W.Fast.tw7221516862096872409 : True := trivial
theorem PySem.W.Fast.tw742492579334804506 : True := trivial
theorem PySem.W.Fast.tw10921973497373456410 : True := trivial
theorem PySem.W.Fast.tw16838771197562267706 : True := trivial
theorem PySem.W.Fast.tw7089840406909748314 : True := trivial
theorem PySem.W.Fast.tw13547232242618091610 : True := trivial
theorem PySem.W.Fast.tw9508589663722162266 : True := trivial
theorem PySem.W.Fast.tw4222604875347975258 : True := trivial
theorem PySem.W.Fast.tw13874435436786952346 : True := trivial
theorem PySem.W.Fast.tw11506604305836914842 : True := trivial
theorem PySem.W.Fast.tw10430722474920003738 : True := trivial
theorem PySem.W.Fast.tw13008449913362926746 : True := trivial
theorem PySem.W.Fast.tw7394289443725793434 : True := trivial
theorem PySem.W.Fast.tw8883907971281219738 : True := trivial
theorem PySem.W.Fast.tw2035720699330938074 : True := trivial
theorem PySem.W.Fast.tw14787591110582936826 : True := trivial
theorem PySem.W.Fast.tw4911306223817563418 : True := trivial
theorem PySem.W.Fast.tw15523220343110049050 : True := trivial
theorem PySem.W.Fast.tw15138286466103285050 : True := trivial
theorem PySem.W.Fast.tw10707740096089992506 : True := trivial
theorem PySem.W.Fast.tw13559209557091932474 : True := trivial
theorem PySem.W.Fast.tw16297166580892057978 : True := trivial
theorem PySem.W.Fast.tw7737958399418890682 : True := trivial
theorem PySem.W.Fast.tw716553585370812890 : True := trivial
theorem PySem.W.Fast.tw16381695386267410906 : True := trivial
theorem PySem.W.Fast.tw11653705416572164602 : True := trivial
theorem PySem.W.Fast.tw16834557111823041050 : True := trivial
theorem PySem.W.Fast.tw17549227189954250266 : True := trivial
theorem PySem.W.Fast.tw7114707071666794010 : True := trivial
theorem PySem.W.Fast.tw14312406615348370970 : True := trivial
theorem PySem.W.Fast.tw14430876410371663386 : True := trivial
theorem PySem.W.Fast.tw4762621976421790266 : True := trivial
theorem PySem.W.Fast.tw12168313866036994618 : True := trivial
theorem PySem.W.Fast.tw18058546026944780922 : True := trivial
theorem PySem.W.Fast.tw9432885036208143098 : True := trivial
theorem PySem.W.Fast.tw18107033195257230074 : True := trivial
theorem PySem.W.Fast.tw13102048794942569210 : True := trivial
theorem PySem.W.Fast.tw6725355570528746234 : True := trivial
theorem PySem.W.Fast.tw13365753769214975834 : True := trivial
theorem PySem.W.Fast.tw6932546688087112538 : True := trivial
theorem PySem.W.Fast.tw2473512261719768922 : True := trivial
theorem PySem.W.Fast.tw10941815282164679546 : True := trivial
theorem PySem.W.Fast.tw682914083738656666 : True := trivial
theorem PySem.W.Fast.tw14007369607638133690 : True := trivial
theorem PySem.W.Fast.tw15499983909548040154 : True := trivial
theorem PySem.W.Fast.tw318330094179040250 : True := trivial
theorem PySem.W.Fast.tw5796653406711996410 : True := trivial
theorem PySem.W.Fast.tw11814801159279653979 : True := trivial
theorem PySem.W.Fast.tw9793362232908611707 : True := trivial
theorem PySem.W.Fast.tw6548373662425904315 : True := trivial
theorem PySem.W.Fast.tw261764421841015003 : True := trivial
theorem PySem.W.Fast.tw415478648643410139 : True := trivial
theorem PySem.W.Fast.tw341129869785273595 : True := trivial
theorem PySem.W.Fast.tw16954599841021703419 : True := trivial
theorem PySem.W.Fast.tw9815672242443794683 : True := trivial
theorem PySem.W.Fast.tw16787258809934643483 : True := trivial
theorem PySem.W.Fast.tw3260218382112692507 : True := trivial
theorem PySem.W.Fast.tw1794538526120598811 : True := trivial
theorem PySem.W.Fast.tw439182438295301403 : True := trivial
theorem PySem.W.Fast.tw17860352811070857531 : True := trivial
theorem PySem.W.Fast.tw1676293205045889339 : True := trivial
theorem PySem.W.Fast.tw3557941443973831995 : True := trivial
theorem PySem.W.Fast.tw9701748904091130203 : True := trivial
theorem PySem.W.Fast.tw5868584338003755355 : True := trivial
theorem PySem.W.Fast.tw6832145306163839387 : True := trivial
theorem PySem.W.Fast.tw6729528507501461947 : True := trivial
theorem PySem.W.Fast.tw5257694885637896699 : True := trivial
theorem PySem.W.Fast.tw10183646474404159995 : True := trivial
theorem PySem.W.Fast.tw14913637676152589851 : True := trivial
theorem PySem.W.Fast.tw9967149146381111835 : True := trivial
theorem PySem.W.Fast.tw18107401280219422267 : True := trivial
theorem PySem.W.Fast.tw1670395285383654971 : True := trivial
theorem PySem.W.Fast.tw8840596952410230363 : True := trivial
theorem PySem.W.Fast.tw613067270961038939 : True := trivial
theorem PySem.W.Fast.tw2765054991545467547 : True := trivial
theorem PySem.W.Fast.tw3257315988441353883 : True := trivial
theorem PySem.W.Fast.tw1008882530747564731 : True := trivial
theorem PySem.W.Fast.tw15986980389759959803 : True := trivial
theorem PySem.W.Fast.tw12976735223960588027 : True := trivial
theorem PySem.W.Fast.tw4496415542376610587 : True := trivial
theorem PySem.W.Fast.tw12345298475752196923 : True := trivial
theorem PySem.W.Fast.tw3230183678388410171 : True := trivial
theorem PySem.W.Fast.tw5436725554617704251 : True := trivial
theorem PySem.W.Fast.tw5322957443065168731 : True := trivial
theorem PySem.W.Fast.tw10375651303982790491 : True := trivial
theorem PySem.W.Fast.tw7656530017185788795 : True := trivial
theorem PySem.W.Fast.tw123588131409676187 : True := trivial
theorem PySem.W.Fast.tw7925566986612726683 : True := trivial
theorem PySem.W.Fast.tw13109024997626540955 : True := trivial
theorem PySem.W.Fast.tw9151852298344360923 : True := trivial
theorem PySem.W.Fast.tw5286590774695240699 : True := trivial
theorem PySem.W.Fast.tw2314316708774187036 : True := trivial
theorem PySem.W.Fast.tw522664758621823004 : True := trivial
theorem PySem.W.Fast.tw14629615420348729436 : True := trivial
theorem PySem.W.Fast.tw2408064954294896732 : True := trivial
theorem PySem.W.Fast.tw8421827822979581148 : True := trivial
theorem PySem.W.Fast.tw7678195833287425244 : True := trivial
theorem PySem.W.Fast.tw11955203611300442396 : True := trivial
theorem PySem.W.Fast.tw6408425858393434396 : True := trivial
theorem PySem.W.Fast.tw14352918773062127932 : True := trivial
theorem PySem.W.Fast.tw17050436471844072796 : True := trivial
theorem PySem.W.Fast.tw8029548342609069404 : True := trivial
theorem PySem.W.Fast.tw1206216114802395516 : True := trivial
theorem PySem.W.Fast.tw7727934293318532476 : True := trivial
theorem PySem.W.Fast.tw11332827912072676764 : True := trivial
theorem PySem.W.Fast.tw4421498800331680156 : True := trivial
theorem PySem.W.Fast.tw15117706165470937532 : True := trivial
theorem PySem.W.Fast.tw3015853764280914364 : True := trivial
theorem PySem.W.Fast.tw3876233342750135772 : True := trivial
theorem PySem.W.Fast.tw11080263790648318460 : True := trivial
theorem PySem.W.Fast.tw11640450003369655836 : True := trivial
theorem PySem.W.Fast.tw3393680696981179036 : True := trivial
theorem PySem.W.Fast.tw18023979584839502492 : True := trivial
theorem PySem.W.Fast.tw10229738733217688284 : True := trivial
theorem PySem.W.Fast.tw8320265629835755292 : True := trivial
theorem PySem.W.Fast.tw2491981714701261628 : True := trivial
theorem PySem.W.Fast.tw6980095743133588284 : True := trivial
theorem PySem.W.Fast.tw7162610021394367292 : True := trivial
theorem PySem.W.Fast.tw10854440556338895676 : True := trivial
theorem PySem.W.Fast.tw15356903099318208380 : True := trivial
theorem PySem.W.Fast.tw17186833669956085660 : True := trivial
theorem PySem.W.Fast.tw2329684028739250076 : True := trivial
theorem PySem.W.Fast.tw8978571026099085244 : True := trivial
theorem PySem.W.Fast.tw536450383855364092 : True := trivial
theorem PySem.W.Fast.tw3484847167915257852 : True := trivial
theorem PySem.W.Fast.tw16333944325371388957 : True := trivial
theorem PySem.W.Fast.tw6920246834685384765 : True := trivial
theorem PySem.W.Fast.tw12517632540538650685 : True := trivial
theorem PySem.W.Fast.tw10962333927435027517 : True := trivial
theorem PySem.W.Fast.tw6179584692813406333 : True := trivial
theorem PySem.W.Fast.tw12763011066653745341 : True := trivial
theorem PySem.W.Fast.tw16456793610387771613 : True := trivial
theorem PySem.W.Fast.tw8852309593430811869 : True := trivial
theorem PySem.W.Fast.tw9447724680484386077 : True := trivial
theorem PySem.W.Fast.tw18371702500155106653 : True := trivial
theorem PySem.W.Fast.tw12587336034937559421 : True := trivial
theorem PySem.W.Fast.tw9015836115812410749 : True := trivial
theorem PySem.W.Fast.tw12340434940283654557 : True := trivial
theorem PySem.W.Fast.tw10012316868262402461 : True := trivial
theorem PySem.W.Fast.tw6107169367045963165 : True := trivial
theorem PySem.W.Fast.tw8740775806121808317 : True := trivial
theorem PySem.W.Fast.tw5140414970204965309 : True := trivial
theorem PySem.W.Fast.tw14254232465641363901 : True := trivial
theorem PySem.W.Fast.tw9088230458156599773 : True := trivial
theorem PySem.W.Fast.tw16474539247908148701 : True := trivial
theorem PySem.W.Fast.tw148066861000760829 : True := trivial
theorem PySem.W.Fast.tw10125222649834998301 : True := trivial
theorem PySem.W.Fast.tw5097270667869040189 : True := trivial
theorem PySem.W.Fast.tw13682685036171421245 : True := trivial
theorem PySem.W.Fast.tw6291942206259354237 : True := trivial
theorem PySem.W.Fast.tw14202532894624269053 : True := trivial
theorem PySem.W.Fast.tw8072081909680934653 : True := trivial
theorem PySem.W.Fast.tw223716077153301277 : True := trivial
theorem PySem.W.Fast.tw16362728840704192317 : True := trivial
theorem PySem.W.Fast.tw11520970943998950237 : True := trivial
theorem PySem.W.Fast.tw6805831465653265341 : True := trivial
theorem PySem.W.Fast.tw13595526675812880349 : True := trivial
theorem PySem.W.Fast.tw3317856230781884381 : True := trivial
theorem PySem.W.Fast.tw8777988280528514013 : True := trivial
theorem PySem.W.Fast.tw12794808928302161885 : True := trivial
theorem PySem.W.Fast.tw8601115341590097885 : True := trivial
theorem PySem.W.Fast.tw13275834485023772669 : True := trivial
theorem PySem.W.Fast.tw15560903327562579006 : True := trivial
theorem PySem.W.Fast.tw9827115923676095582 : True := trivial
theorem PySem.W.Fast.tw13603601745217025118 : True := trivial
theorem PySem.W.Fast.tw2545451788246925438 : True := trivial
theorem PySem.W.Fast.tw3545460544997549182 : True := trivial
theorem PySem.W.Fast.tw12074369960735024286 : True := trivial
theorem PySem.W.Fast.tw15943222400679930046 : True := trivial
theorem PySem.W.Fast.tw5658411220246987998 : True := trivial
theorem PySem.W.Fast.tw9455126314681226462 : True := trivial
theorem PySem.W.Fast.tw3457131768399179038 : True := trivial
theorem PySem.W.Fast.tw10305584682769177982 : True := trivial
theorem PySem.W.Fast.tw1989969362432747902 : True := trivial
theorem PySem.W.Fast.tw17791207101055878558 : True := trivial
theorem PySem.W.Fast.tw5824630743097778622 : True := trivial
theorem PySem.W.Fast.tw15769198906931603966 : True := trivial
theorem PySem.W.Fast.tw5440729661517502046 : True := trivial
theorem PySem.W.Fast.tw15118452583900735102 : True := trivial
theorem PySem.W.Fast.tw110779294125042334 : True := trivial
theorem PySem.W.Fast.tw9691971128821731006 : True := trivial
theorem PySem.W.Fast.tw9418374299999545022 : True := trivial
theorem PySem.W.Fast.tw16834585683371141822 : True := trivial
theorem PySem.W.Fast.tw16714425237616703198 : True := trivial
theorem PySem.W.Fast.tw5913094662937265982 : True := trivial
theorem PySem.W.Fast.tw9812612841725182846 : True := trivial
theorem PySem.W.Fast.tw14910357683719795582 : True := trivial
theorem PySem.W.Fast.tw11317812714674739102 : True := trivial
theorem PySem.W.Fast.tw11292344042704550846 : True := trivial
theorem PySem.W.Fast.tw3333636961514550270 : True := trivial
theorem PySem.W.Fast.tw6773048227143418911 : True := trivial
theorem PySem.W.Fast.tw2523919237956038687 : True := trivial
theorem PySem.W.Fast.tw5084804540268344351 : True := trivial
theorem PySem.W.Fast.tw18321597248253116479 : True := trivial
theorem PySem.W.Fast.tw17450607863838518367 : True := trivial
theorem PySem.W.Fast.tw9527826111825381535 : True := trivial
theorem PySem.W.Fast.tw2093314060065977503 : True := trivial
theorem PySem.W.Fast.tw694689583893764255 : True := trivial
theorem PySem.W.Fast.tw643803253544179903 : True := trivial
theorem PySem.W.Fast.tw4762667892133987551 : True := trivial
theorem PySem.W.Fast.tw12889358712420465919 : True := trivial
theorem PySem.W.Fast.tw14708862248807292159 : True := trivial
theorem PySem.W.Fast.tw14679897440583862559 : True := trivial
theorem PySem.W.Fast.tw9277287603236814111 : True := trivial
theorem PySem.W.Fast.tw13156626148248689023 : True := trivial
theorem PySem.W.Fast.tw15164373181195692447 : True := trivial
theorem PySem.W.Fast.tw14434751999100175807 : True := trivial
theorem PySem.W.Fast.tw12835043945408054719 : True := trivial
theorem PySem.W.Fast.tw16137157051714982335 : True := trivial
theorem PySem.W.Fast.tw18243326686078729663 : True := trivial
theorem PySem.W.Fast.tw5434931907379517951 : True := trivial
theorem PySem.W.Fast.tw9795502058651935231 : True := trivial
theorem PySem.W.Fast.tw9246828708487132671 : True := trivial
theorem PySem.W.Fast.tw866744685168425471 : True := trivial
theorem PySem.W.Fast.tw11475819953567342111 : True := trivial
theorem PySem.W.Fast.tw13287534569739659839 : True := trivial
theorem PySem.W.Fast.tw4870868418213313119 : True := trivial
theorem PySem.W.Fast.tw11715012777176274559 : True := trivial
theorem PySem.W.Fast.tw16448584273952317055 : True := trivial
theorem PySem.W.Fast.tw6160532329073192703 : True := trivial
theorem PySem.W.Fast.tw15291671078600198911 : True := trivial
theorem PySem.W.Fast.tw12454348676785340159 : True := trivial
theorem PySem.W.Fast.tw1421508860844409631 : True := trivial
theorem PySem.W.Fast.tw1789538428456390431 : True := trivial
theorem PySem.W.Fast.tw2063140978260671295 : True := trivial
theorem PySem.W.Fast.tw11075370366399197023 : True := trivial
theorem PySem.W.Fast.tw6068737681189376927 : True := trivial
theorem PySem.W.Fast.tw6316162702290731935 : True := trivial
theorem PySem.W.Fast.tw6849748452156270527 : True := trivial
theorem PySem.W.Fast.tw2617948710167650303 : True := trivial
theorem PySem.W.Fast.tw3441386161871764404 : True := trivial
set_option maxRecDepth 100000 in
set_option maxHeartbeats 0 in
theorem PySem.Challenge.cw_onecrest_k25_any_value_as_misfit_holds : PySem.Challenge.rw_onecrest_k25_any_value_as_misfit.Holds := by
  w_on; o_law; k_head; (case hw => w_witness2)
  k_fill
  refine DL.walk_gn (l := PySem.Challenge.rw_onecrest_k25_any_value_as_misfit) (n := 63) (k := 13) (x := "_law_script") (sp := fun w => DL.lift _ K25.spLaw) rfl (by decide) rfl ⟨rfl, by decide, by decide⟩ (fun w h Y => PySem.W.kIn_of Y) ?F (fun _ H a ns _ hS => K25.law_gives H a ns hS)
  case F =>
    intro w mg fa h KX G hmg
    refine' K25.lw_mk KX G hmg ?aC ?aCB ?a_isint ?F_isint ?a_iscount ?F_iscount ?a_islist ?F_islist ?a_counts ?F_counts ?a_small ?F_small ?a_rising ?F_rising ?a_isnum ?F_isnum ?a_above ?F_above ?a_ratof ?F_ratof ?a_let ?F_let ?a_gath ?F_gath ?a_entry ?F_entry ?a_ck ?F_ck ?a_lo ?F_lo ?a_po ?F_po ?a_ex ?F_ex ?a_mf ?F_mf ?a_im ?F_im ?a_pds ?F_pds ?a_as ?F_as ?a_ak ?F_ak ?a_ot ?F_ot ?a_fm ?F_fm ?a_bs ?F_bs ?a_td ?F_td ?a_pot ?F_pot ?a_draw ?F_draw ?a_pick ?F_pick ?a_mix ?F_mix ?a_lt ?F_lt ?a_ac ?F_ac ?a_fo ?F_fo ?a_pd ?F_pd ?a_sz ?F_sz ?a_amt ?F_amt ?a_bld ?F_bld ?a_dw ?F_dw ?a_mv ?F_mv ?a_mt ?F_mt ?a_ls ?F_ls ?a_lx ?F_lx ?a_lp ?F_lp ?a_lm ?F_lm ?a_be ?F_be ?a_va ?F_va ?a_right ?F_right ?a_law ?F_law ?a_init ?i_init ?F_init ?a_binit ?i_binit ?F_binit ?t2 ?a_add ?i_add ?F_add ?a_radd ?i_radd ?F_radd ?a_mul ?i_mul ?F_mul ?a_rmul ?i_rmul ?F_rmul ?a_eq ?i_eq ?F_eq ?a_repr ?i_repr ?F_repr ?a_ptop ?g_ptop ?t_ptop ?c_ptop ?F_ptop ?a_pbot ?g_pbot ?t_pbot ?c_pbot ?F_pbot ?a_psign ?g_psign ?t_psign ?c_psign ?F_psign ?a_bents ?i_bents ?F_bents ?a_bam ?i_bam ?F_bam ?a_beq ?i_beq ?F_beq ?a_brep ?i_brep ?F_brep ?a_blet ?g_blet ?t_blet ?c_blet ?F_blet ?a_bdeg ?g_bdeg ?t_bdeg ?c_bdeg ?F_bdeg ?a_bno ?g_bno ?t_bno ?c_bno ?F_bno ?pg ?hd ?po ?sa ?mk ?kc ?nT ?nB ?ne ?sf ?nf ?ni ?sub_is ?sub_ob ?sub_li ?sub_tu ?ca ?cm ?pgB ?hdB ?poB ?saB ?mkB ?kcB ?nL ?nD ?nA ?neB ?sfB ?nfB ?niB ?sub_isB ?sub_obB ?caB ?cmB ?cn ?ct ?tyCB ?tyC ?s_NoneType ?s_bool ?s_str ?s_tuple ?s_list ?s_int ?s_dict ?s_listB ?s_strB ?nlB ?nsB ?s_intB ?lm ?la ?z_gcd ?z_ml ?z_md ?z_me ?z_isinstance ?z_int ?z_bool ?z_list ?z_tuple ?z_abs ?z_len ?z_max ?z_divmod ?z_str ?z_repr ?z_range ?z_all ?z_zip ?z_enumerate ?z_sorted ?z_sum ?z_min ?z_dict ?z_any ?z_set
    (case aC => k_is)
    (case aCB => k_is)
    (case a_isint => k_is)
    (case F_isint => (refine' ⟨_, L2.fun_mk ?l ?c ?k⟩; (case l => k_is); (case c => k_is); (case k => k_is)))
    (case a_iscount => k_is)
    (case F_iscount => (refine' ⟨_, L2.fun_mk ?l ?c ?k⟩; (case l => k_is); (case c => k_is); (case k => k_is)))
    (case a_islist => k_is)
    (case F_islist => (refine' ⟨_, L2.fun_mk ?l ?c ?k⟩; (case l => k_is); (case c => k_is); (case k => k_is)))
    (case a_counts => k_is)
    (case F_counts => (refine' ⟨_, L2.fun_mk ?l ?c ?k⟩; (case l => k_is); (case c => k_is); (case k => k_is)))
    (case a_small => k_is)
    (case F_small => (refine' ⟨_, L2.fun_mk ?l ?c ?k⟩; (case l => k_is); (case c => k_is); (case k => k_is)))
    (case a_rising => k_is)
    (case F_rising => (refine' ⟨_, L2.fun_mk ?l ?c ?k⟩; (case l => k_is); (case c => k_is); (case k => k_is)))
    (case a_isnum => k_is)
    (case F_isnum => (refine' ⟨_, L2.fun_mk ?l ?c ?k⟩; (case l => k_is); (case c => k_is); (case k => k_is)))
    (case a_above => k_is)
    (case F_above => (refine' ⟨_, L2.fun_mk ?l ?c ?k⟩; (case l => k_is); (case c => k_is); (case k => k_is)))
    (case a_ratof => k_is)
    (case F_ratof => (refine' ⟨_, L2.fun_mk ?l ?c ?k⟩; (case l => k_is); (case c => k_is); (case k => k_is)))
    (case a_let => k_is)
    (case F_let => (refine' ⟨_, L2.fun_mk ?l ?c ?k⟩; (case l => k_is); (case c => k_is); (case k => k_is)))
    (case a_gath => k_is)
    (case F_gath => (refine' ⟨_, L2.fun_mk ?l ?c ?k⟩; (case l => k_is); (case c => k_is); (case k => k_is)))
    (case a_entry => k_is)
    (case F_entry => (refine' ⟨_, L2.fun_mk ?l ?c ?k⟩; (case l => k_is); (case c => k_is); (case k => k_is)))
    (case a_ck => k_is)
    (case F_ck => (refine' ⟨_, L2.fun_mk ?l ?c ?k⟩; (case l => k_is); (case c => k_is); (case k => k_is)))
    (case a_lo => k_is)
    (case F_lo => (refine' ⟨_, L2.fun_mk ?l ?c ?k⟩; (case l => k_is); (case c => k_is); (case k => k_is)))
    (case a_po => k_is)
    (case F_po => (refine' ⟨_, L2.fun_mk ?l ?c ?k⟩; (case l => k_is); (case c => k_is); (case k => k_is)))
    (case a_ex => k_is)
    (case F_ex => (refine' ⟨_, L2.fun_mk ?l ?c ?k⟩; (case l => k_is); (case c => k_is); (case k => k_is)))
    (case a_mf => k_is)
    (case F_mf => (refine' ⟨_, L2.fun_mk ?l ?c ?k⟩; (case l => k_is); (case c => k_is); (case k => k_is)))
    (case a_im => k_is)
    (case F_im => (refine' ⟨_, L2.fun_mk ?l ?c ?k⟩; (case l => k_is); (case c => k_is); (case k => k_is)))
    (case a_pds => k_is)
    (case F_pds => (refine' ⟨_, L2.fun_mk ?l ?c ?k⟩; (case l => k_is); (case c => k_is); (case k => k_is)))
    (case a_as => k_is)
    (case F_as => (refine' ⟨_, L2.fun_mk ?l ?c ?k⟩; (case l => k_is); (case c => k_is); (case k => k_is)))
    (case a_ak => k_is)
    (case F_ak => (refine' ⟨_, L2.fun_mk ?l ?c ?k⟩; (case l => k_is); (case c => k_is); (case k => k_is)))
    (case a_ot => k_is)
    (case F_ot => (refine' ⟨_, L2.fun_mk ?l ?c ?k⟩; (case l => k_is); (case c => k_is); (case k => k_is)))
    (case a_fm => k_is)
    (case F_fm => (refine' ⟨_, L2.fun_mk ?l ?c ?k⟩; (case l => k_is); (case c => k_is); (case k => k_is)))
    (case a_bs => k_is)
    (case F_bs => (refine' ⟨_, L2.fun_mk ?l ?c ?k⟩; (case l => k_is); (case c => k_is); (case k => k_is)))
    (case a_td => k_is)
    (case F_td => (refine' ⟨_, L2.fun_mk ?l ?c ?k⟩; (case l => k_is); (case c => k_is); (case k => k_is)))
    (case a_pot => k_is)
    (case F_pot => (refine' ⟨_, L2.fun_mk ?l ?c ?k⟩; (case l => k_is); (case c => k_is); (case k => k_is)))
    (case a_draw => k_is)
    (case F_draw => (refine' ⟨_, L2.fun_mk ?l ?c ?k⟩; (case l => k_is); (case c => k_is); (case k => k_is)))
    (case a_pick => k_is)
    (case F_pick => (refine' ⟨_, L2.fun_mk ?l ?c ?k⟩; (case l => k_is); (case c => k_is); (case k => k_is)))
    (case a_mix => k_is)
    (case F_mix => (refine' ⟨_, L2.fun_mk ?l ?c ?k⟩; (case l => k_is); (case c => k_is); (case k => k_is)))
    (case a_lt => k_is)
    (case F_lt => (refine' ⟨_, L2.fun_mk ?l ?c ?k⟩; (case l => k_is); (case c => k_is); (case k => k_is)))
    (case a_ac => k_is)
    (case F_ac => (refine' ⟨_, L2.fun_mk ?l ?c ?k⟩; (case l => k_is); (case c => k_is); (case k => k_is)))
    (case a_fo => k_is)
    (case F_fo => (refine' ⟨_, L2.fun_mk ?l ?c ?k⟩; (case l => k_is); (case c => k_is); (case k => k_is)))
    (case a_pd => k_is)
    (case F_pd => (refine' ⟨_, L2.fun_mk ?l ?c ?k⟩; (case l => k_is); (case c => k_is); (case k => k_is)))
    (case a_sz => k_is)
    (case F_sz => (refine' ⟨_, L2.fun_mk ?l ?c ?k⟩; (case l => k_is); (case c => k_is); (case k => k_is)))
    (case a_amt => k_is)
    (case F_amt => (refine' ⟨_, L2.fun_mk ?l ?c ?k⟩; (case l => k_is); (case c => k_is); (case k => k_is)))
    (case a_bld => k_is)
    (case F_bld => (refine' ⟨_, L2.fun_mk ?l ?c ?k⟩; (case l => k_is); (case c => k_is); (case k => k_is)))
    (case a_dw => k_is)
    (case F_dw => (refine' ⟨_, L2.fun_mk ?l ?c ?k⟩; (case l => k_is); (case c => k_is); (case k => k_is)))
    (case a_mv => k_is)
    (case F_mv => (refine' ⟨_, L2.fun_mk ?l ?c ?k⟩; (case l => k_is); (case c => k_is); (case k => k_is)))
    (case a_mt => k_is)
    (case F_mt => (refine' ⟨_, L2.fun_mk ?l ?c ?k⟩; (case l => k_is); (case c => k_is); (case k => k_is)))
    (case a_ls => k_is)
    (case F_ls => (refine' ⟨_, L2.fun_mk ?l ?c ?k⟩; (case l => k_is); (case c => k_is); (case k => k_is)))
    (case a_lx => k_is)
    (case F_lx => (refine' ⟨_, L2.fun_mk ?l ?c ?k⟩; (case l => k_is); (case c => k_is); (case k => k_is)))
    (case a_lp => k_is)
    (case F_lp => (refine' ⟨_, L2.fun_mk ?l ?c ?k⟩; (case l => k_is); (case c => k_is); (case k => k_is)))
    (case a_lm => k_is)
    (case F_lm => (refine' ⟨_, L2.fun_mk ?l ?c ?k⟩; (case l => k_is); (case c => k_is); (case k => k_is)))
    (case a_be => k_is)
    (case F_be => (refine' ⟨_, L2.fun_mk ?l ?c ?k⟩; (case l => k_is); (case c => k_is); (case k => k_is)))
    (case a_va => k_is)
    (case F_va => (refine' ⟨_, L2.fun_mk ?l ?c ?k⟩; (case l => k_is); (case c => k_is); (case k => k_is)))
    (case a_right => k_is)
    (case F_right => (refine' ⟨_, L2.fun_mk ?l ?c ?k⟩; (case l => k_is); (case c => k_is); (case k => k_is)))
    (case a_law => k_is)
    (case F_law => (refine' ⟨_, L2.fun_mk ?l ?c ?k⟩; (case l => k_is); (case c => k_is); (case k => k_is)))
    (case a_init => k_is)
    (case i_init => k_is)
    (case F_init => (refine' ⟨_, K25.fund1 ?l ?c ?k ?t⟩; (case l => k_is); (case c => k_is); (case k => k_is); (case t => k_is)))
    (case a_binit => k_is)
    (case i_binit => k_is)
    (case F_binit => (refine' ⟨_, K25.fundT ?l ?c ?k ?t⟩; (case l => k_is); (case c => k_is); (case k => k_is); (case t => k_is)))
    (case t2 => k_is)
    (case a_add => k_is)
    (case i_add => k_is)
    (case F_add => (refine' ⟨_, L2.fun_mk ?l ?c ?k⟩; (case l => k_is); (case c => k_is); (case k => k_is)))
    (case a_radd => k_is)
    (case i_radd => k_is)
    (case F_radd => (refine' ⟨_, L2.fun_mk ?l ?c ?k⟩; (case l => k_is); (case c => k_is); (case k => k_is)))
    (case a_mul => k_is)
    (case i_mul => k_is)
    (case F_mul => (refine' ⟨_, L2.fun_mk ?l ?c ?k⟩; (case l => k_is); (case c => k_is); (case k => k_is)))
    (case a_rmul => k_is)
    (case i_rmul => k_is)
    (case F_rmul => (refine' ⟨_, L2.fun_mk ?l ?c ?k⟩; (case l => k_is); (case c => k_is); (case k => k_is)))
    (case a_eq => k_is)
    (case i_eq => k_is)
    (case F_eq => (refine' ⟨_, L2.fun_mk ?l ?c ?k⟩; (case l => k_is); (case c => k_is); (case k => k_is)))
    (case a_repr => k_is)
    (case i_repr => k_is)
    (case F_repr => (refine' ⟨_, L2.fun_mk ?l ?c ?k⟩; (case l => k_is); (case c => k_is); (case k => k_is)))
    (case a_ptop => k_is)
    (case g_ptop => k_is)
    (case t_ptop => k_is)
    (case c_ptop => k_is)
    (case F_ptop => (refine' ⟨_, L2.fun_mk ?l ?c ?k⟩; (case l => k_is); (case c => k_is); (case k => k_is)))
    (case a_pbot => k_is)
    (case g_pbot => k_is)
    (case t_pbot => k_is)
    (case c_pbot => k_is)
    (case F_pbot => (refine' ⟨_, L2.fun_mk ?l ?c ?k⟩; (case l => k_is); (case c => k_is); (case k => k_is)))
    (case a_psign => k_is)
    (case g_psign => k_is)
    (case t_psign => k_is)
    (case c_psign => k_is)
    (case F_psign => (refine' ⟨_, L2.fun_mk ?l ?c ?k⟩; (case l => k_is); (case c => k_is); (case k => k_is)))
    (case a_bents => k_is)
    (case i_bents => k_is)
    (case F_bents => (refine' ⟨_, L2.fun_mk ?l ?c ?k⟩; (case l => k_is); (case c => k_is); (case k => k_is)))
    (case a_bam => k_is)
    (case i_bam => k_is)
    (case F_bam => (refine' ⟨_, L2.fun_mk ?l ?c ?k⟩; (case l => k_is); (case c => k_is); (case k => k_is)))
    (case a_beq => k_is)
    (case i_beq => k_is)
    (case F_beq => (refine' ⟨_, L2.fun_mk ?l ?c ?k⟩; (case l => k_is); (case c => k_is); (case k => k_is)))
    (case a_brep => k_is)
    (case i_brep => k_is)
    (case F_brep => (refine' ⟨_, L2.fun_mk ?l ?c ?k⟩; (case l => k_is); (case c => k_is); (case k => k_is)))
    (case a_blet => k_is)
    (case g_blet => k_is)
    (case t_blet => k_is)
    (case c_blet => k_is)
    (case F_blet => (refine' ⟨_, L2.fun_mk ?l ?c ?k⟩; (case l => k_is); (case c => k_is); (case k => k_is)))
    (case a_bdeg => k_is)
    (case g_bdeg => k_is)
    (case t_bdeg => k_is)
    (case c_bdeg => k_is)
    (case F_bdeg => (refine' ⟨_, L2.fun_mk ?l ?c ?k⟩; (case l => k_is); (case c => k_is); (case k => k_is)))
    (case a_bno => k_is)
    (case g_bno => k_is)
    (case t_bno => k_is)
    (case c_bno => k_is)
    (case F_bno => (refine' ⟨_, L2.fun_mk ?l ?c ?k⟩; (case l => k_is); (case c => k_is); (case k => k_is)))
    (case pg => k_is)
    (case hd => k_is)
    (case po => k_is)
    (case sa => k_is)
    (case mk => k_is)
    (case kc => k_is)
    (case nT => k_is)
    (case nB => k_is)
    (case ne => k_is)
    (case sf => k_is)
    (case nf => k_is)
    (case ni => k_is)
    (case sub_is => k_is)
    (case sub_ob => k_is)
    (case sub_li => k_is)
    (case sub_tu => k_is)
    (case ca => k_is)
    (case cm => k_is)
    (case pgB => k_is)
    (case hdB => k_is)
    (case poB => k_is)
    (case saB => k_is)
    (case mkB => k_is)
    (case kcB => k_is)
    (case nL => k_is)
    (case nD => k_is)
    (case nA => k_is)
    (case neB => k_is)
    (case sfB => k_is)
    (case nfB => k_is)
    (case niB => k_is)
    (case sub_isB => k_is)
    (case sub_obB => k_is)
    (case caB => k_is)
    (case cmB => k_is)
    (case cn => k_is)
    (case ct => k_is)
    (case tyCB => k_is)
    (case tyC => k_is)
    (case s_NoneType => k_is)
    (case s_bool => k_is)
    (case s_str => k_is)
    (case s_tuple => k_is)
    (case s_list => k_is)
    (case s_int => k_is)
    (case s_dict => k_is)
    (case s_listB => k_is)
    (case s_strB => k_is)
    (case nlB => k_is)
    (case nsB => k_is)
    (case s_intB => k_is)
    (case lm => k_is)
    (case la => k_is)
    (case z_gcd => k_is)
    (case z_ml => k_is)
    (case z_md => k_is)
    (case z_me => k_is)
    (case z_isinstance => k_is)
    (case z_int => k_is)
    (case z_bool => k_is)
    (case z_list => k_is)
    (case z_tuple => k_is)
    (case z_abs => k_is)
    (case z_len => k_is)
    (case z_max => k_is)
    (case z_divmod => k_is)
    (case z_str => k_is)
    (case z_repr => k_is)
    (case z_range => k_is)
    (case z_all => k_is)
    (case z_zip => k_is)
    (case z_enumerate => k_is)
    (case z_sorted => k_is)
    (case z_sum => k_is)
    (case z_min => k_is)
    (case z_dict => k_is)
    (case z_any => k_is)
    (case z_set => k_is)

