import PyProof.Rows.All
import Wide.All
import OpenK.AllK
import Wide.FinOn
import HandS.ForMost
import HandS.Property
import HandS.Defaults
import HandS.IsInst
import HandS.Wide
import HandS.WideBits
import HandS.ClsMeth
import HandS.MakeKw
import HandS.MakeKwOnly
import HandS.FStr
import HandS.RaiseMore
import HandS.Gcd
import KE.KFmtOwn
import PyProof.ReprNest
import PyProof.ReprRoads
import HandS.Zip
import HandS.List
import PyProof.StrOps2
import HandS.Dict
import HandS.Walk
import HandS.Conv
import HandS.TupLen
import HandS.TupSets
import HandS.DictComp
import KE.KDictPairs
import HandS.DictTup
import HandS.OwnEq
import HandS.DictEq
import KE.GoesZip
import HandS.Text
import HandS.Codes
import HandS.StrMore
import KE.KMathGC
import KE.GoesEnum
import PyProof.CollectStr
import PyProof.ListStr
import HandS.More
import HandS.TupAny
import HandS.Ends
import KE.IntBitsLaws
import PySem.Challenge.RW_onecrest_k46_whole_amounts_moved
import KE.SortKeyHeap
import HandS.SortKw
import PyProof.TupleOfSeq
import HandS.Deep
import PyProof.ReprLen
import KE.KDictDisplayH
set_option Elab.async false
set_option linter.all false
set_option maxRecDepth 100000
set_option maxHeartbeats 2000000
/-! DL: a layer of data over the heap: what an expression, a statement, a def does, told of data alone (immutable data, lists owned by one name, pots) -/
namespace DL
open PySem L2

/-! ### data -/
inductive D where
  | non | bl (b : Bool) | int (i : Int) | str (s : Str) | ty (n : String) | cls (a : Addr)
  | tup (l : List D) | lst (l : List D) | frl (l : List Int)
  | obj (C : Addr) (fs : List (Str × D))
  | dct
  | dcT (kvs : List (List Key × D)) | dcK (kvs : List (Key × D))

mutual
/-- v is the datum d, in the heap I of what never changes -/
inductive Dn (K : PySem.W.Frag) (I : Hp) : D → V → Prop
  | non : Dn K I .non .non
  | bl (b) : Dn K I (.bl b) (.bl b)
  | int (i) : Dn K I (.int i) (.int i)
  | str (s) : Dn K I (.str s) (.str s)
  | ty (n) : Dn K I (.ty n) (.ty n)
  | cls (a) : Dn K I (.cls a) (.ref a)
  | tup {l a xs} : I a = some (.tup xs) → Dns K I l xs → Dn K I (.tup l) (.ref a)
  | lst {l a xs} : I a = some (.lst xs) → Dns K I l xs → Dn K I (.lst l) (.ref a)
  | frl {l : List Int} {a} : SqL K I a (l.map V.int) → Dn K I (.frl l) (.ref a)
  | obj {C fs a dx vs} : I a = some (.ins C dx vs) → Dnf K I fs vs → Dn K I (.obj C fs) (.ref a)
  | dct {a kvs} : I a = some (.dK kvs) → Dn K I .dct (.ref a)
  | dcT {kvs a o ws} : I a = some (.frz o (.dT ws)) → Dnt K I kvs ws → Dn K I (.dcT kvs) (.ref a)
  | dcK {kvs a ws} : I a = some (.dK ws) → Dnk K I kvs ws → Dn K I (.dcK kvs) (.ref a)
inductive Dns (K : PySem.W.Frag) (I : Hp) : List D → List V → Prop
  | nil : Dns K I [] []
  | cons {d v l xs} : Dn K I d v → Dns K I l xs → Dns K I (d :: l) (v :: xs)
inductive Dnf (K : PySem.W.Frag) (I : Hp) : List (Str × D) → List (Str × V) → Prop
  | nil : Dnf K I [] []
  | cons {f d v l xs} : Dn K I d v → Dnf K I l xs → Dnf K I ((f, d) :: l) ((f, v) :: xs)
inductive Dnt (K : PySem.W.Frag) (I : Hp) : List (List Key × D) → List (List Key × V) → Prop
  | nil : Dnt K I [] []
  | cons {f d v l xs} : Dn K I d v → Dnt K I l xs → Dnt K I ((f, d) :: l) ((f, v) :: xs)
inductive Dnk (K : PySem.W.Frag) (I : Hp) : List (Key × D) → List (Key × V) → Prop
  | nil : Dnk K I [] []
  | cons {f d v l xs} : Dn K I d v → Dnk K I l xs → Dnk K I ((f, d) :: l) ((f, v) :: xs)
end
def Ex (H H' : Hp) : Prop := ∀ a o, H a = some o → H' a = some o
theorem Ex.refl (H : Hp) : Ex H H := fun _ _ h => h
theorem Ex.trans {H H1 H2 : Hp} (a : Ex H H1) (b : Ex H1 H2) : Ex H H2 := fun x o h => b x o (a x o h)
theorem Ex.new {H : Hp} {p : Addr} {o : HO} (h : H p = none) : Ex H (upd H p o) := fun a u e => by
  rw [upd_ne (ne_of_none e h)]
  exact e
theorem Ex.free {H H' : Hp} (e : Ex H H') {p : Addr} (h : H' p = none) : H p = none := by
  cases h1 : H p with
  | none => rfl
  | some o =>
    rw [e p o h1] at h
    cases h
theorem Ex.l {K : PySem.W.Frag} {H H' : Hp} {a : Addr} {xs : List V} (e : Ex H H') (h : SqL K H a xs) : SqL K H' a xs := by
  rcases h with (h | ⟨o, h⟩) | h
  · exact .inl (.inl (e _ _ h))
  · exact .inl (.inr ⟨o, e _ _ h⟩)
  · exact .inr h
section
variable {K : PySem.W.Frag} {I I' : Hp}
mutual
theorem Dn.mono (e : Ex I I') : ∀ {d : D} {v : V}, Dn K I d v → Dn K I' d v
  | _, _, .non => .non
  | _, _, .bl b => .bl b
  | _, _, .int i => .int i
  | _, _, .str s => .str s
  | _, _, .ty n => .ty n
  | _, _, .cls a => .cls a
  | _, _, .tup h r => .tup (e _ _ h) (Dns.mono e r)
  | _, _, .lst h r => .lst (e _ _ h) (Dns.mono e r)
  | _, _, .frl h => .frl (e.l h)
  | _, _, .obj h r => .obj (e _ _ h) (Dnf.mono e r)
  | _, _, .dct h => .dct (e _ _ h)
  | _, _, .dcT h r => .dcT (e _ _ h) (Dnt.mono e r)
  | _, _, .dcK h r => .dcK (e _ _ h) (Dnk.mono e r)
theorem Dns.mono (e : Ex I I') : ∀ {l : List D} {xs : List V}, Dns K I l xs → Dns K I' l xs
  | _, _, .nil => .nil
  | _, _, .cons h r => .cons (Dn.mono e h) (Dns.mono e r)
theorem Dnf.mono (e : Ex I I') : ∀ {l : List (Str × D)} {xs : List (Str × V)}, Dnf K I l xs → Dnf K I' l xs
  | _, _, .nil => .nil
  | _, _, .cons h r => .cons (Dn.mono e h) (Dnf.mono e r)
theorem Dnt.mono (e : Ex I I') : ∀ {l : List (List Key × D)} {xs : List (List Key × V)}, Dnt K I l xs → Dnt K I' l xs
  | _, _, .nil => .nil
  | _, _, .cons h r => .cons (Dn.mono e h) (Dnt.mono e r)
theorem Dnk.mono (e : Ex I I') : ∀ {l : List (Key × D)} {xs : List (Key × V)}, Dnk K I l xs → Dnk K I' l xs
  | _, _, .nil => .nil
  | _, _, .cons h r => .cons (Dn.mono e h) (Dnk.mono e r)
end
theorem Dns.length : ∀ {l : List D} {xs : List V}, Dns K I l xs → l.length = xs.length
  | _, _, .nil => rfl
  | _, _, .cons _ r => congrArg (· + 1) (Dns.length r)
theorem Dns.append : ∀ {l m : List D} {xs ys : List V}, Dns K I l xs → Dns K I m ys → Dns K I (l ++ m) (xs ++ ys)
  | _, _, _, _, .nil, s => s
  | _, _, _, _, .cons h r, s => .cons h (Dns.append r s)
theorem Dns.get : ∀ {l : List D} {xs : List V} {i : Nat} {v : V}, Dns K I l xs → xs[i]? = some v → ∃ d, l[i]? = some d ∧ Dn K I d v
  | _, _, _, _, .nil, e => by simp at e
  | _, _, 0, _, .cons h _, e => by
    simp at e
    subst e
    exact ⟨_, rfl, h⟩
  | _, _, i + 1, _, .cons _ r, e => by
    obtain ⟨d, h1, h2⟩ := Dns.get (i := i) r (by simpa using e)
    exact ⟨d, by simpa using h1, h2⟩
theorem Dns.get' : ∀ {l : List D} {xs : List V} {i : Nat} {d : D}, Dns K I l xs → l[i]? = some d → ∃ v, xs[i]? = some v ∧ Dn K I d v
  | _, _, _, _, .nil, e => by simp at e
  | _, _, 0, _, .cons h _, e => by
    simp at e
    subst e
    exact ⟨_, rfl, h⟩
  | _, _, i + 1, _, .cons _ r, e => by
    obtain ⟨d, h1, h2⟩ := Dns.get' (i := i) r (by simpa using e)
    exact ⟨d, by simpa using h1, h2⟩
theorem Dns.set {d : D} {v : V} (h : Dn K I d v) : ∀ {l : List D} {xs : List V} (i : Nat), Dns K I l xs → Dns K I (l.set i d) (xs.set i v)
  | _, _, _, .nil => .nil
  | _, _, 0, .cons _ r => .cons h r
  | _, _, i + 1, .cons q r => .cons q (Dns.set h i r)
theorem Dns.rep {l : List D} {xs : List V} (h : Dns K I l xs) : ∀ n : Nat, Dns K I (List.replicate n l).flatten (List.replicate n xs).flatten
  | 0 => .nil
  | n + 1 => by
    rw [List.replicate_succ, List.replicate_succ, List.flatten_cons, List.flatten_cons]
    exact h.append (Dns.rep h n)
theorem Dnf.look : ∀ {fs : List (Str × D)} {vs : List (Str × V)} {f : Str} {d : D}, Dnf K I fs vs → fs.lookup f = some d → ∃ v, vs.lookup f = some v ∧ Dn K I d v
  | _, _, _, _, .nil, e => by simp at e
  | _, _, f, d, .cons (f := g) h r, e => by
    by_cases q : f = g
    · subst q
      simp only [List.lookup_cons, beq_self_eq_true] at e ⊢
      cases e
      exact ⟨_, rfl, h⟩
    · have z : (f == g) = false := beq_eq_false_iff_ne.mpr q
      simp only [List.lookup_cons, z] at e ⊢
      exact Dnf.look r e
theorem Dnf.nolook : ∀ {fs : List (Str × D)} {vs : List (Str × V)} {f : Str}, Dnf K I fs vs → fs.lookup f = none → vs.lookup f = none
  | _, _, _, .nil, _ => rfl
  | _, _, f, .cons (f := g) h r, e => by
    by_cases q : f = g
    · subst q
      simp only [List.lookup_cons, beq_self_eq_true] at e
      cases e
    · have z : (f == g) = false := beq_eq_false_iff_ne.mpr q
      simp only [List.lookup_cons, z] at e ⊢
      exact Dnf.nolook r e
end

/-! ### worlds -/
/-- what never changes; which addresses are pots -/
structure Wd where
  I : Hp
  P : Addr → Prop
def PotAt (H : Hp) (a : Addr) : Prop := ∃ x y : Int, H a = some (.lst [.int x, .int y]) ∧ 0 ≤ y ∧ y < 2 ^ 31
def InG (g : List Code) (b : Addr) : Prop := ∃ id rest kw, Code.builtin id ⟨.ref b :: rest, kw⟩ ∈ g
theorem clear_of {g : List Code} {b : Addr} (h : ¬ InG g b) : Clear g b := fun id v rest kw hm e => h ⟨id, rest, kw, e ▸ hm⟩
/-- the guards that stand around: what is being written as a text -/
def gOf (X : Cx) : List Code := X.A.guards.getD []
structure Ok (g : List Code) (W : Wd) (H : Hp) : Prop where
  gd : ∀ b, InG g b → W.I b = none ∧ H b ≠ none ∧ ∀ ks : List Key, H b ≠ some (.tup (ks.map kV))
  ex : Ex W.I H
  pot : ∀ a, W.P a → W.I a = none ∧ PotAt H a
structure Stp (W : Wd) (H : Hp) (W' : Wd) (H' : Hp) : Prop where
  I : Ex W.I W'.I
  P : ∀ a, W.P a → W'.P a
  keep : ∀ b o, H b = some o → ¬ W.P b → H' b = some o
  old : ∀ b o, H b = some o → (∀ xs, o ≠ .tup xs) → W.I b = none → W'.I b = none
  oldP : ∀ b o, H b = some o → W'.P b → W.P b
section
variable {g : List Code} {W W1 W2 : Wd} {H H1 H2 : Hp}
theorem Stp.refl : Stp W H W H := ⟨Ex.refl _, fun _ h => h, fun _ _ h _ => h, fun _ _ _ _ h => h, fun _ _ _ h => h⟩
theorem Stp.some (a : Stp W H W1 H1) (ok : Ok g W1 H1) {b : Addr} {o : HO} (h : H b = .some o) : ∃ o', H1 b = .some o' := by
  by_cases q : W.P b
  · obtain ⟨x, y, e, _⟩ := (ok.pot b (a.P b q)).2
    exact ⟨_, e⟩
  · exact ⟨o, a.keep b o h q⟩
theorem Stp.trans (a : Stp W H W1 H1) (ok : Ok g W1 H1) (b : Stp W1 H1 W2 H2) : Stp W H W2 H2 where
  I := a.I.trans b.I
  P := fun x h => b.P x (a.P x h)
  keep := fun x o h n => b.keep x o (a.keep x o h n) fun z => n (a.oldP x o h z)
  old := fun x o h t n => by
    by_cases q : W.P x
    · obtain ⟨y1, y2, e, _⟩ := (ok.pot x (a.P x q)).2
      exact b.old x _ e (fun _ z => by cases z) (a.old x o h t n)
    · exact b.old x o (a.keep x o h q) t (a.old x o h t n)
  oldP := fun x o h p => by
    obtain ⟨o', h'⟩ := a.some ok h
    exact a.oldP x o h (b.oldP x o' h' p)
theorem Stp.free (a : Stp W H W1 H1) (ok : Ok g W1 H1) {p : Addr} (h : H1 p = none) : H p = none := by
  cases e : H p with
  | none => rfl
  | some o =>
    obtain ⟨o', e'⟩ := a.some ok e
    rw [h] at e'
    cases e'
theorem Ok.free (ok : Ok g W H) {p : Addr} (h : H p = none) : W.I p = none := ok.ex.free h
theorem Ok.notP (ok : Ok g W H) {p : Addr} (h : H p = none) : ¬ W.P p := fun z => by
  obtain ⟨x, y, e, _⟩ := (ok.pot p z).2
  rw [h] at e
  cases e
/-- something new that never changes -/
abbrev Wd.new (W : Wd) (p : Addr) (o : HO) : Wd := ⟨upd W.I p o, W.P⟩
theorem Ok.new {p : Addr} {o : HO} (ok : Ok g W H) (h : H p = none) : Ok g (W.new p o) (upd H p o) where
  gd := fun b hb => by
    obtain ⟨n, m, m2⟩ := ok.gd b hb
    have ne : b ≠ p := fun z => m (z ▸ h)
    refine ⟨?_, by rw [upd_ne ne]; exact m, by rw [upd_ne ne]; exact m2⟩
    show upd W.I p o b = none
    rw [upd_ne ne]
    exact n
  ex := fun a u e => by
    have e' : upd W.I p o a = some u := e
    by_cases q : a = p
    · subst q
      rw [upd_same] at e' ⊢
      exact e'
    · rw [upd_ne q] at e' ⊢
      exact ok.ex a u e'
  pot := fun a pa => by
    have q : a ≠ p := fun z => ok.notP h (z ▸ pa)
    obtain ⟨n, x, y, e⟩ := ok.pot a pa
    refine ⟨?_, x, y, ?_⟩
    · show upd W.I p o a = none
      rw [upd_ne q]
      exact n
    · rw [upd_ne q]
      exact e
theorem Stp.new {p : Addr} {o : HO} (ok : Ok g W H) (h : H p = none) : Stp W H (W.new p o) (upd H p o) where
  I := Ex.new (ok.free h)
  P := fun _ z => z
  keep := fun b u e _ => Ex.new h b u e
  old := fun b u e _ n => by
    show upd W.I p o b = none
    rw [upd_ne (ne_of_none e h)]
    exact n
  oldP := fun _ _ _ z => z
/-- a new object that is not (yet) part of what never changes -/
theorem Ok.own {p : Addr} {o : HO} (ok : Ok g W H) (h : H p = none) : Ok g W (upd H p o) where
  gd := fun b hb => by
    obtain ⟨n, m, m2⟩ := ok.gd b hb
    have ne : b ≠ p := fun z => m (z ▸ h)
    exact ⟨n, by rw [upd_ne ne]; exact m, by rw [upd_ne ne]; exact m2⟩
  ex := ok.ex.trans (Ex.new h)
  pot := fun a pa => by
    obtain ⟨n, x, y, e⟩ := ok.pot a pa
    exact ⟨n, x, y, Ex.new h _ _ e.1, e.2⟩
theorem Stp.own {p : Addr} {o : HO} (h : H p = none) : Stp W H W (upd H p o) :=
  ⟨Ex.refl _, fun _ z => z, fun b u e _ => Ex.new h b u e, fun _ _ _ _ n => n, fun _ _ _ z => z⟩
end

/-! ### slots -/
inductive Sl where
  | val (d : D) | own (l : List D) | pot | inst (C p dx : Addr) (fs : List (Str × D))
  | ownT (kvs : List (List Key × D))
abbrev En := List (Option Sl)
/-- dicts owned by unlike names are unlike -/
def DistT (S : En) (σ : L2.St) : Prop := ∀ (i j : Nat) (l m : List (List Key × D)) (p : Addr), i ≠ j → S[i]? = some (some (Sl.ownT l)) → S[j]? = some (some (Sl.ownT m)) → σ[i]? = some (some (.ref p)) → σ[j]? ≠ some (some (.ref p))
theorem DistT.set {S : En} {σ : L2.St} (h : DistT S σ) (i : Nat) {x : Option Sl} {y : Option V} (hx : ∀ l, x ≠ some (Sl.ownT l)) : DistT (S.set i x) (σ.set i y) := fun a b l m p ne e1 e2 e3 => by
  have key : ∀ c l, (S.set i x)[c]? = some (some (Sl.ownT l)) → i ≠ c := fun c l e z => by
    subst z
    by_cases q : i < S.length
    · rw [List.getElem?_set_self q] at e
      exact hx l (Option.some.inj e)
    · rw [List.getElem?_eq_none (by simpa using q)] at e
      cases e
  have qa := key a l e1
  have qb := key b m e2
  rw [List.getElem?_set_ne qa] at e1 e3
  rw [List.getElem?_set_ne qb] at e2 ⊢
  exact h a b l m p ne e1 e2 e3
theorem DistT.setS {S : En} {σ : L2.St} (h : DistT S σ) (i : Nat) {x : Option Sl} (hx : ∀ l, x = some (Sl.ownT l) → ∃ m, S[i]? = some (some (Sl.ownT m))) : DistT (S.set i x) σ := fun a b l m p ne e1 e2 e3 => by
  have key : ∀ c l, (S.set i x)[c]? = some (some (Sl.ownT l)) → ∃ m, S[c]? = some (some (Sl.ownT m)) := fun c l e => by
    by_cases z : i = c
    · subst z
      by_cases q : i < S.length
      · rw [List.getElem?_set_self q] at e
        exact hx l (Option.some.inj e)
      · rw [List.getElem?_eq_none (by simpa using q)] at e
        cases e
    · rw [List.getElem?_set_ne z] at e
      exact ⟨l, e⟩
  obtain ⟨l', f1⟩ := key a l e1
  obtain ⟨m', f2⟩ := key b m e2
  exact h a b l' m' p ne f1 f2 e3
section
variable (K : PySem.W.Frag)
def SlOk (B : Hp) (W : Wd) (H : Hp) : Sl → V → Prop
  | .val d, v => Dn K W.I d v
  | .own l, v => ∃ p xs, v = .ref p ∧ B p = none ∧ ¬ W.P p ∧ W.I p = none ∧ H p = some (.lst xs) ∧ Dns K W.I l xs
  | .pot, v => ∃ p, v = .ref p ∧ W.P p
  | .ownT kvs, v => ∃ p ws, v = .ref p ∧ B p = none ∧ ¬ W.P p ∧ W.I p = none ∧ H p = some (.dT ws) ∧ Dnt K W.I kvs ws
  | .inst C p dx fs, v => ∃ vs, v = .ref p ∧ B p = none ∧ B dx = none ∧ dx ≠ p ∧ ¬ W.P p ∧ ¬ W.P dx ∧ W.I p = none ∧ W.I dx = none ∧ H p = some (.ins C dx vs) ∧ H dx = some (.own p) ∧ Dnf K W.I fs vs
structure Rep (g : List Code) (B : Hp) (S : En) (σ : L2.St) (W : Wd) (H : Hp) : Prop where
  ok : Ok g W H
  gb : ∀ b, InG g b → B b ≠ none
  len : S.length = σ.length
  sl : ∀ (i : Nat) (s : Sl), S[i]? = some (some s) → ∃ v, σ[i]? = some (some v) ∧ SlOk K B W H s v
  dist : ∀ (i j : Nat) (l m : List D) (p : Addr), i ≠ j → S[i]? = some (some (.own l)) → S[j]? = some (some (.own m)) → σ[i]? = some (some (.ref p)) → σ[j]? ≠ some (some (.ref p))
  distT : DistT S σ
end
section
variable {K : PySem.W.Frag} {g : List Code} {B : Hp} {S : En} {σ : L2.St} {W W1 : Wd} {H H1 : Hp}
theorem SlOk.step {s : Sl} {v : V} (h : SlOk K B W H s v) (a : Stp W H W1 H1) : SlOk K B W1 H1 s v := by
  cases s with
  | val d => exact Dn.mono a.I h
  | own l =>
    obtain ⟨p, xs, e, b, n, i, hp, r⟩ := h
    exact ⟨p, xs, e, b, fun z => n (a.oldP p _ hp z), a.old p _ hp (fun _ z => by cases z) i, a.keep p _ hp n, r.mono a.I⟩
  | ownT l =>
    obtain ⟨p, xs, e, b, n, i, hp, r⟩ := h
    exact ⟨p, xs, e, b, fun z => n (a.oldP p _ hp z), a.old p _ hp (fun _ z => by cases z) i, a.keep p _ hp n, r.mono a.I⟩
  | pot =>
    obtain ⟨p, e, z⟩ := h
    exact ⟨p, e, a.P p z⟩
  | inst C p dx fs =>
    obtain ⟨vs, e, b, b2, ne, n, n2, i, i2, hp, hd, r⟩ := h
    exact ⟨vs, e, b, b2, ne, fun z => n (a.oldP p _ hp z), fun z => n2 (a.oldP dx _ hd z), a.old p _ hp (fun _ z => by cases z) i, a.old dx _ hd (fun _ z => by cases z) i2, a.keep p _ hp n, a.keep dx _ hd n2, r.mono a.I⟩
theorem Rep.step (r : Rep K g B S σ W H) (a : Stp W H W1 H1) (ok : Ok g W1 H1) : Rep K g B S σ W1 H1 :=
  ⟨ok, r.gb, r.len, fun i s e => let ⟨v, h1, h2⟩ := r.sl i s e; ⟨v, h1, h2.step a⟩, r.dist, r.distT⟩
theorem Rep.set {i : Nat} {d : D} {v : V} (r : Rep K g B S σ W H) (h : Dn K W.I d v) : Rep K g B (S.set i (some (.val d))) (σ.set i (some v)) W H where
  ok := r.ok
  gb := r.gb
  len := by simpa using r.len
  sl := fun j s e => by
    by_cases q : i = j
    · subst q
      by_cases z : i < S.length
      · rw [List.getElem?_set_self z] at e
        cases e
        exact ⟨v, List.getElem?_set_self (r.len ▸ z), h⟩
      · rw [List.getElem?_eq_none (by simpa using z)] at e
        cases e
    · rw [List.getElem?_set_ne q] at e ⊢
      exact r.sl j s e
  dist := fun a b l m p n e1 e2 e3 => by
    have qa : i ≠ a := fun z => by
      subst z
      by_cases y : i < S.length
      · rw [List.getElem?_set_self y] at e1; cases e1
      · rw [List.getElem?_eq_none (by simpa using y)] at e1; cases e1
    have qb : i ≠ b := fun z => by
      subst z
      by_cases y : i < S.length
      · rw [List.getElem?_set_self y] at e2; cases e2
      · rw [List.getElem?_eq_none (by simpa using y)] at e2; cases e2
    rw [List.getElem?_set_ne qa] at e1 e3
    rw [List.getElem?_set_ne qb] at e2 ⊢
    exact r.dist a b l m p n e1 e2 e3
  distT := r.distT.set i fun l z => by cases z
end

/-! ### the weakest readings -/
section
variable (X : Cx)
def WE (e : Expr) : TE := fun σ H Q => ∀ pins s, Inv X pins σ H s → wpAny (model X.prog X.w) X.A (eval e X.env) (EP X pins σ Q) X.xe s
def WT (e : Expr) : TT := fun σ H Q => ∀ pins s, Inv X pins σ H s → wpAny (model X.prog X.w) X.A (isTrue e X.env (eval e X.env)) (TP X pins σ Q) X.xe s
def WW (e : Expr) : TT := fun σ H Q => ∀ whole pins s, Inv X pins σ H s → wpAny (model X.prog X.w) X.A (isTrue e X.env whole) (TP X pins σ Q) X.xe s
def WA (es : List Expr) : TA := fun σ H Q => ∀ pos pins s, Inv X pins σ H s → wpAny (model X.prog X.w) X.A (spliced (backTo pos (starEach es X.env))) (AP X pins σ Q) X.xe s
def WS (st : Stmt) : TS := fun Dd σ H => ∀ pins s, Inv X pins σ H s → wpAny (model X.prog X.w) X.A (exec st X.env) (SP X pins Dd) X.xe s
def WSs (sts : List Stmt) : TS := fun Dd σ H => ∀ pins s, Inv X pins σ H s → wpAny (model X.prog X.w) X.A (execs sts X.env) (SP X pins Dd) X.xe s
def WO (f : Value → Value → Sem Value) : R2 := fun x y H Q => ∀ pins s σ v u, Inv X pins σ H s → RelV x v → RelV y u → wpAny (model X.prog X.w) X.A (f v u) (EP X pins σ Q) X.xe s
end
section
variable {X : Cx} {e : Expr} {es : List Expr} {st : Stmt} {sts : List Stmt}
theorem we_pe : PE X e (WE X e) := ⟨fun pins s _ _ _ I h => h pins s I⟩
theorem wt_pt : PT X e (WT X e) := ⟨fun pins s _ _ _ I h => h pins s I⟩
theorem ww_pw : PW X e (WW X e) := ⟨fun wh pins s _ _ _ I h => h wh pins s I⟩
theorem wa_pa : PA X es (WA X es) := ⟨fun pos pins s _ _ _ I h => h pos pins s I⟩
theorem ws_ps : PS X st (WS X st) := ⟨fun pins s _ _ _ I h => h pins s I⟩
theorem wss_pss : PSs X sts (WSs X sts) := ⟨fun pins s _ _ _ I h => h pins s I⟩
theorem wo_op {f : Value → Value → Sem Value} : OpR X f (WO X f) := fun pins s σ _ _ _ v u _ I r1 r2 h => h pins s σ v u I r1 r2
theorem PE.w {t : TE} (h : PE X e t) {σ : L2.St} {H : Hp} {Q : VK} (q : t σ H Q) : WE X e σ H Q := fun pins s I => h.run pins s σ H Q I q
theorem PT.w {t : TT} (h : PT X e t) {σ : L2.St} {H : Hp} {Q : Bool → Hp → Prop} (q : t σ H Q) : WT X e σ H Q := fun pins s I => h.run pins s σ H Q I q
theorem PW.w {t : TT} (h : PW X e t) {σ : L2.St} {H : Hp} {Q : Bool → Hp → Prop} (q : t σ H Q) : WW X e σ H Q := fun wh pins s I => h.run wh pins s σ H Q I q
theorem PA.w {t : TA} (h : PA X es t) {σ : L2.St} {H : Hp} {Q : List V → Hp → Prop} (q : t σ H Q) : WA X es σ H Q := fun pos pins s I => h.run pos pins s σ H Q I q
theorem PS.w {t : TS} (h : PS X st t) {σ : L2.St} {H : Hp} {Dd : Ends} (q : t Dd σ H) : WS X st Dd σ H := fun pins s I => h.run pins s σ H Dd I q
theorem PSs.w {t : TS} (h : PSs X sts t) {σ : L2.St} {H : Hp} {Dd : Ends} (q : t Dd σ H) : WSs X sts Dd σ H := fun pins s I => h.run pins s σ H Dd I q
theorem OpR.w {f : Value → Value → Sem Value} {r : R2} (h : OpR X f r) {x y : V} {H : Hp} {Q : VK} (q : r x y H Q) : WO X f x y H Q := fun pins s σ v u I r1 r2 => h pins s σ H x y v u Q I r1 r2 q
end

/-! ### judgements on data -/
/-- what follows: from any later world, a value that is a datum wanted -/
def Cont (K : PySem.W.Frag) (g : List Code) (W : Wd) (H : Hp) (Q : D → Prop) (R : VK) : Prop := ∀ d v W' H', Stp W H W' H' → Ok g W' H' → Dn K W'.I d v → Q d → R v H'
def ContB (g : List Code) (W : Wd) (H : Hp) (Q : Bool → Prop) (R : Bool → Hp → Prop) : Prop := ∀ b W' H', Stp W H W' H' → Ok g W' H' → Q b → R b H'
/-- arguments: data, or pots -/
def Arg (K : PySem.W.Frag) (W : Wd) : Sl → V → Prop
  | .val d, v => Dn K W.I d v
  | .pot, v => ∃ p, v = .ref p ∧ W.P p
  | .own _, _ => False
  | .ownT _, _ => False
  | .inst _ _ _ _, _ => False
abbrev Args (K : PySem.W.Frag) (W : Wd) (as : List Sl) (vs : List V) : Prop := Paired (Arg K W) as vs
def ContA (K : PySem.W.Frag) (g : List Code) (W : Wd) (H : Hp) (Q : List Sl → Prop) (R : List V → Hp → Prop) : Prop := ∀ as vs W' H', Stp W H W' H' → Ok g W' H' → Args K W' as vs → Q as → R vs H'
section
variable (X : Cx) (B : Hp) (S : En)
def ED (e : Expr) (Q : D → Prop) : Prop := ∀ σ W H, Rep X.K (gOf X) B S σ W H → ∀ R, Cont X.K (gOf X) W H Q R → WE X e σ H R
def TD (e : Expr) (Q : Bool → Prop) : Prop := ∀ σ W H, Rep X.K (gOf X) B S σ W H → ∀ R, ContB (gOf X) W H Q R → WT X e σ H R
def TW (e : Expr) (Q : Bool → Prop) : Prop := ∀ σ W H, Rep X.K (gOf X) B S σ W H → ∀ R, ContB (gOf X) W H Q R → WW X e σ H R
def AD (es : List Expr) (Q : List Sl → Prop) : Prop := ∀ σ W H, Rep X.K (gOf X) B S σ W H → ∀ R, ContA X.K (gOf X) W H Q R → WA X es σ H R
def OD (f : Value → Value → Sem Value) (x y : D) (Q : D → Prop) : Prop := ∀ v u W H, Ok (gOf X) W H → Dn X.K W.I x v → Dn X.K W.I y u → ∀ R, Cont X.K (gOf X) W H Q R → WO X f v u H R
end
section
variable {K : PySem.W.Frag} {g : List Code} {W W1 : Wd} {H H1 : Hp}
theorem Cont.step {Q : D → Prop} {R : VK} (c : Cont K g W H Q R) (a : Stp W H W1 H1) (ok : Ok g W1 H1) : Cont K g W1 H1 Q R := fun d v W' H' b ok' h q => c d v W' H' (a.trans ok b) ok' h q
theorem Cont.now {Q : D → Prop} {R : VK} (c : Cont K g W H Q R) (ok : Ok g W H) {d : D} {v : V} (h : Dn K W.I d v) (q : Q d) : R v H := c d v W H Stp.refl ok h q
theorem ContB.step {Q : Bool → Prop} {R : Bool → Hp → Prop} (c : ContB g W H Q R) (a : Stp W H W1 H1) (ok : Ok g W1 H1) : ContB g W1 H1 Q R := fun b W' H' s ok' q => c b W' H' (a.trans ok s) ok' q
theorem ContB.now {Q : Bool → Prop} {R : Bool → Hp → Prop} (c : ContB g W H Q R) (ok : Ok g W H) {b : Bool} (q : Q b) : R b H := c b W H Stp.refl ok q
theorem Args.step {as : List Sl} {vs : List V} (h : Args K W as vs) (a : Stp W H W1 H1) : Args K W1 as vs := by
  refine Paired.mapP h fun x v h1 => ?_
  · cases x with
    | val d => exact Dn.mono a.I h1
    | own l => exact h1
    | pot => obtain ⟨p, e, q⟩ := h1; exact ⟨p, e, a.P p q⟩
    | inst _ _ _ _ => exact h1
    | ownT _ => exact h1
end

/-! ### expressions -/
section
variable {X : Cx} {B : Hp} {S : En} {pos : Pos} {Q : D → Prop} {a b : Expr}
theorem ed_name {x : Str} {d : D} (i : Nat) (hN : X.N[i]? = some x) (h : S[i]? = some (some (.val d))) (q : Q d) (hv : Vis X.env.scope x := by first | exact Or.inl rfl | exact Or.inr (Or.inl rfl) | exact Or.inr (Or.inr rfl))
    (hd : (x == ("__debug__" : Str)) = false := by decide) (hcd : (x == ("__classdict__" : Str)) = false := by decide) : ED X B S (.Name x pos) Q := fun σ W H r R c => by
  obtain ⟨v, e, z⟩ := r.sl i _ h
  exact PE.w (pe_var hN hv hd hcd) ⟨v, e, c.now r.ok z q⟩
theorem ed_int {i j} (q : Q (.int i)) : ED X B S (.Constant (.int i) j pos) Q := fun σ W H r R c => PE.w pe_int (c.now r.ok (.int i) q)
theorem ed_bl {b j} (q : Q (.bl b)) : ED X B S (.Constant (.bool b) j pos) Q := fun σ W H r R c => PE.w pe_bl (c.now r.ok (.bl b) q)
theorem ed_non {j} (q : Q .non) : ED X B S (.Constant .none j pos) Q := fun σ W H r R c => PE.w pe_non (c.now r.ok .non q)
theorem ed_str {x j} (q : Q (.str x)) : ED X B S (.Constant (.str x) j pos) Q := fun σ W H r R c => PE.w pe_str (c.now r.ok (.str x) q)
theorem ed_two {f : Value → Value → Sem Value} (h : ED X B S a fun x => ED X B S b fun y => OD X f x y Q) {σ : L2.St} {W : Wd} {H : Hp} (r : Rep X.K (gOf X) B S σ W H) {R : VK} (c : Cont X.K (gOf X) W H Q R) :
    WE X a σ H fun x H1 => WE X b σ H1 fun y H2 => WO X f x y H2 R := by
  refine h σ W H r _ fun d v W1 H1 s1 ok1 n1 q1 => ?_
  refine q1 σ W1 H1 (r.step s1 ok1) _ fun d2 u W2 H2 s2 ok2 n2 q2 => ?_
  exact q2 v u W2 H2 ok2 (n1.mono s2.I) n2 R ((c.step s1 ok1).step s2 ok2)
theorem ed_bin {op : Operator} (h : ED X B S a fun x => ED X B S b fun y => OD X (binaryOp op) x y Q) : ED X B S (.BinOp a op b pos) Q := fun σ W H r R c =>
  PE.w (pe_op wo_op we_pe we_pe) (ed_two h r c)
theorem ed_cmp {op : CmpOp} (h : ED X B S a fun x => ED X B S b fun y => OD X (compareOp op) x y Q) (hm : behindInMarks op b = false := by first | exact nomark _ | rfl) : ED X B S (.Compare a [op] [b] pos) Q := fun σ W H r R c =>
  PE.w (pe_cmpR wo_op we_pe we_pe hm) (ed_two h r c)
theorem od_of {f : Value → Value → Sem Value} {r : R2} (ho : OpR X f r) {x y : D} (h : ∀ v u W H, Ok (gOf X) W H → Dn X.K W.I x v → Dn X.K W.I y u → ∀ R, Cont X.K (gOf X) W H Q R → r v u H R) : OD X f x y Q :=
  fun v u W H ok h1 h2 R c => OpR.w ho (h v u W H ok h1 h2 R c)
/-- operators on ints -/
theorem od_I0 {f : Value → Value → Sem Value} {g : Int → Int → V} {i j : Int} {d : D} (ho : OpR X f (rI0 g)) (hg : ∀ K I, Dn K I d (g i j)) (q : Q d) : OD X f (.int i) (.int j) Q := by
  refine od_of ho fun v u W H ok h1 h2 R c => ?_
  cases h1; cases h2
  exact ⟨i, j, rfl, rfl, c.now ok (hg _ _) q⟩
theorem od_I {f : Value → Value → Sem Value} {C : Int → Int → Prop} {g : Int → Int → V} {i j : Int} {d : D} (ho : OpR X f (rI C g)) (hc : C i j) (hg : ∀ K I, Dn K I d (g i j)) (q : Q d) : OD X f (.int i) (.int j) Q := by
  refine od_of ho fun v u W H ok h1 h2 R c => ?_
  cases h1; cases h2
  exact ⟨i, j, rfl, rfl, hc, c.now ok (hg _ _) q⟩
theorem od_add {i j : Int} (q : Q (.int (i + j))) : OD X (binaryOp .Add) (.int i) (.int j) Q := od_I0 op_add (fun _ _ => .int _) q
theorem od_sub {i j : Int} (q : Q (.int (i - j))) : OD X (binaryOp .Sub) (.int i) (.int j) Q := od_I0 op_sub (fun _ _ => .int _) q
theorem od_lt {i j : Int} (q : Q (.bl (decide (i < j)))) : OD X (compareOp .Lt) (.int i) (.int j) Q := od_I0 op_lt (fun _ _ => .bl _) q
theorem od_le {i j : Int} (q : Q (.bl (decide (i ≤ j)))) : OD X (compareOp .LtE) (.int i) (.int j) Q := od_I0 op_le (fun _ _ => .bl _) q
theorem od_gt {i j : Int} (q : Q (.bl (decide (j < i)))) : OD X (compareOp .Gt) (.int i) (.int j) Q := od_I0 op_gt (fun _ _ => .bl _) q
theorem od_ge {i j : Int} (q : Q (.bl (decide (j ≤ i)))) : OD X (compareOp .GtE) (.int i) (.int j) Q := od_I0 op_ge (fun _ _ => .bl _) q
end
end DL

set_option Elab.async false
set_option linter.all false
set_option maxRecDepth 100000
set_option maxHeartbeats 2000000
/-! what a def promises where it is known what is being written as a text around it (the guards) -/
namespace DL
open PySem PySem.Spec PyProof.Rows L2
abbrev SpG := List Code → List V → Hp → VK → Prop
structure GnOk (P : Program) (w : World) (K : PySem.W.Frag) (mg : Str → Option Value) (base : Heap) (k : Nat) (f : Addr) (fd : FuncData) (ps : List Str) (sp : SpG) : Prop where
  len : ∀ g vs H Q, sp g vs H Q → vs.length = ps.length
  run : ∀ (A : Around) (g : List Code) (outer : List Env) (s : Shared) (H : Hp) (args : PySem.Args) (us : List Value) (vs : List V) (Q : VK), Room k A → A.guards = some g → Env0 P w K mg base A outer s H → BindsTo s fd args (ps.zip us) → Vals vs us → sp g vs H Q →
    codeAny (model P w) A (.call (.ref f) args) (CR CX0 outer P w H s Q E0) s
/-- a def of the text, its defaults whatever they are -/
structure FunS (K : PySem.W.Frag) (x qual : Str) (st : Stmt) (f : Addr) (fd : FuncData) : Prop where
  ex : ∃ (oc : Value) (od : Option Addr) (dV kV doc pm : Value) (an : Option Addr) (cdv ct : Value) (osl : Array (Option Value)),
    fd = PySem.W.fnOf x qual (defArgs st) (defBody st) (defScope st) dV kV doc pm an cdv ct ∧ K.lookup f = some ⟨oc, od, .func fd, osl⟩ ∧ PySem.W.codeIn K cdv qual = true
  kp : PySem.W.keepIn K (.ref f) = true
theorem fun_s {K : PySem.W.Frag} {x qual : Str} {st : Stmt} {f : Addr} {fd : FuncData} (F : Fun K x qual st f fd) : FunS K x qual st f fd :=
  ⟨let ⟨oc, od, kV, doc, pm, an, cdv, ct, osl, a, b, c⟩ := F.ex; ⟨oc, od, .none, kV, doc, pm, an, cdv, ct, osl, a, b, c⟩, F.kp⟩
theorem fund_s {K : PySem.W.Frag} {x qual : Str} {st : Stmt} {dvs : List V} {kws : List (Str × V)} {f : Addr} {fd : FuncData} (F : FunD K x qual (defArgs st) (defBody st) (defScope st) dvs kws f fd) : FunS K x qual st f fd :=
  ⟨let ⟨oc, od, dV, kV, doc, pm, an, cdv, ct, osl, a, b, c, _⟩ := F.ex; ⟨oc, od, dV, kV, doc, pm, an, cdv, ct, osl, a, b, c⟩, F.kp⟩
section
variable {P : Program} {w : World} {K : PySem.W.Frag} {mg : Str → Option Value} {base : Heap} {j k : Nat} {f : Addr} {fd : FuncData} {ps : List Str} {sp sp' : SpG}
abbrev Bx (P : Program) (w : World) (K : PySem.W.Frag) (mg : Str → Option Value) (base : Heap) (N : List Str) (qual : Str) (st : Stmt) (f : Addr) (cdv : Value) (A : Around) (outer : List Env) (s : Shared) (H : Hp) : Cx := (cxOf CX0 P w K mg base N qual (defScope st) f cdv A outer s H E0).nox
/-- a def by its body, the guards known -/
theorem gn_of {x qual : Str} {st : Stmt} {N : List Str} (F : FunS K x qual st f fd) (S : FnScope N ps (defScope st)) (len : ∀ g vs H Q, sp g vs H Q → vs.length = ps.length)
    (body : ∀ cdv A outer s H g vs Q, Room k (A.deeper (PyProof.Rows.envOfC qual (defScope st) s.heap.objs.size f cdv)) → A.guards = some g → sp g vs H Q →
      ∃ t, PSs (Bx P w K mg base N qual st f cdv A outer s H) (defBody st) t ∧ t { nx := fun _ H' => Q .non H', rt := Q } (L2.start N vs) H) : GnOk P w K mg base (k + 1) f fd ps sp := by
  obtain ⟨oc, od, dV, kV, doc, pm, an, cdv, ct, osl, rfl, lk, hcd⟩ := F.ex
  refine ⟨len, fun A g outer s H args us vs Q hr hg e0 hb r hsp => ?_⟩
  have old := fun b o (e : base.get? b = some o) => (e0.bs b o e).1
  have KX : K.In s.heap := e0.mod.kin.keeps old
  have par : ∀ y ∈ ps.zip us, (defScope st).names.lookup y.1 = some .local ∨ ((defScope st).names.lookup y.1 = some .cell ∧ ((cellsFrom (s.heap.objs.size + 1) (defScope st).names []).lookup y.1).isSome = true) := fun y hy =>
    (S.par y.1 (List.of_mem_zip (show (y.1, y.2) ∈ _ from hy)).1).imp id fun q => ⟨q, PySem.W.cellsFrom_some _ _ _ (.inl q)⟩
  refine codeAny_call_function hr.depth (KX _ _ lk) rfl S.co S.gen rfl (PySem.W.codeRec_of KX hcd) (hb _ _ _ _ ?_)
  refine wpAny_newFunctionEnv_cells S.kind par fun env he s1 x => ?_
  subst he
  refine ⟨(e0.mod.nolimit.keeps old).keeps x.toInCall.keep, codeAny_func ?_⟩
  obtain ⟨t, ht, hq⟩ := body cdv A outer s H g vs Q (hr.deeper _) hg hsp
  have I := inv_start (CX := CX0) (E := E0) S hr.hd e0 (len _ _ _ _ hsp) r x
  refine wpAny_mono (ht.nox.run [] s1 (L2.start N vs) H _ I hq) (fun fl s' hs => ?_) fun e s' hs => hs
  match fl, hs with
  | .ret u, ⟨v, σ', H', J, rv, q⟩ => exact ⟨v, H', J.os, J.bare, J.base, J.hok, rv, q⟩
  | .next, ⟨σ', H', J, q⟩ => exact ⟨V.non, H', J.os, J.bare, J.base, J.hok, rfl, q⟩
  | .brk, ⟨_, _, _, q⟩ => exact q.elim
  | .cont, ⟨_, _, _, q⟩ => exact q.elim
theorem deeper_guards {A : Around} {qual : Str} {sc : Scope} {n : Nat} {f : Addr} {cdv : Value} {g : List Code} (h : A.guards = some g) : (A.deeper (PyProof.Rows.envOfC qual sc n f cdv)).guards = some g := by
  first | exact h | (simpa [Around.deeper] using h)
end
section
variable {X : Cx} {k : Nat} {f C g0 : Addr} {fd : FuncData} {ps : List Str} {sp : SpG} {dvs : List V} {ds : List Value} {x m : Str} {p pos apos : Pos} {e o : Expr} {es : List Expr} {g : List Code}
theorem run_cr {pins : List (Addr × Obj)} {σ : L2.St} {H : Hp} {s : Shared} {Q : VK} {c : Code} {A : Around} (I : Inv X pins σ H s) (h : codeAny (model X.prog X.w) A c (CR CX0 X.stack X.prog X.w H s Q E0) s) :
    codeAny (model X.prog X.w) A c (fun r s' => match r with | .ok (.ret v) => EP X pins σ Q v s' | .ok _ => False | .error e => False) s := by
  refine codeAny_mono h fun r s' hq => ?_
  match r, hq with
  | .error e, hq => exact hq
  | .ok (.ret u), hq => exact I.after hq
/-- the callee runs -/
theorem run_gn {A : Around} {pins : List (Addr × Obj)} {σ : L2.St} {H : Hp} {s : Shared} {Q : VK} {us : List Value} {vs : List V} {R : PySem.Result → Shared → Prop} (F : GnOk X.prog X.w X.K X.mg X.base k f fd ps sp) (hr : Room k A) (hG : A.guards = some g) (e0 : Env0 X.prog X.w X.K X.mg X.base A X.stack s H)
    (hb : Binds X.K fd ps ds) (hd : Vals dvs ds) (I : Inv X pins σ H s) (r : Vals vs us) (h : sp g (vs ++ dvs) H Q) (k : ∀ v s', EP X pins σ Q v s' → R (.ok (.ret v)) s') : codeAny (model X.prog X.w) A (.call (.ref f) ⟨us, []⟩) R s := by
  have r2 : Vals (vs ++ dvs) (us ++ ds) := r.append hd
  have hl : (us ++ ds).length = ps.length := r2.length.symm.trans (F.len _ _ _ _ h)
  refine codeAny_mono (run_cr I (F.run A g X.stack s H ⟨us, []⟩ (us ++ ds) (vs ++ dvs) Q hr hG e0 (hb s us I.kIn hl) r2 h)) fun r s' hq => ?_
  match r, hq with
  | .error e, hq => exact hq.elim
  | .ok (.ret u), hq => exact k u s' hq
/-- .. its arguments bound in any way -/
theorem run_gb {A : Around} {pins : List (Addr × Obj)} {σ : L2.St} {H : Hp} {s : Shared} {Q : VK} {args : PySem.Args} {us : List Value} {vs : List V} {R : PySem.Result → Shared → Prop} (F : GnOk X.prog X.w X.K X.mg X.base k f fd ps sp) (hr : Room k A) (hG : A.guards = some g) (e0 : Env0 X.prog X.w X.K X.mg X.base A X.stack s H)
    (hb : BindsTo s fd args (ps.zip us)) (I : Inv X pins σ H s) (r : Vals vs us) (h : sp g vs H Q) (k : ∀ v s', EP X pins σ Q v s' → R (.ok (.ret v)) s') : codeAny (model X.prog X.w) A (.call (.ref f) args) R s := by
  refine codeAny_mono (run_cr I (F.run A g X.stack s H args us vs Q hr hG e0 hb r h)) fun r s' hq => ?_
  match r, hq with
  | .error e, hq => exact hq.elim
  | .ok (.ret u), hq => exact k u s' hq
theorem call_gn {pins : List (Addr × Obj)} {σ : L2.St} {H : Hp} {s : Shared} {Q : VK} {us : List Value} {vs : List V} {E : Value → Shared → Prop} (F : GnOk X.prog X.w X.K X.mg X.base k f fd ps sp) (hr : Room k X.A) (hG : X.A.guards = some g)
    (hb : Binds X.K fd ps ds) (hd : Vals dvs ds) (I : Inv X pins σ H s) (r : Vals vs us) (h : sp g (vs ++ dvs) H Q) : wpAny (model X.prog X.w) X.A (call (.ref f) us) (EP X pins σ Q) E s :=
  wpAny_call (run_gn F hr hG I.env0 hb hd I r h fun _ _ q => q)
/-- f(e, ..) -/
theorem we_call {σ : L2.St} {H : Hp} {Q : VK} (F : GnOk X.prog X.w X.K X.mg X.base k f fd ps sp) (hr : Room k X.A) (hG : X.A.guards = some g) (hg : Gl X x) (hm : X.mg x = some (.ref f)) (hk : PySem.W.keepIn X.K (.ref f) = true) (hb : Binds X.K fd ps ds) (hd : Vals dvs ds)
    (h : WA X (e :: es) σ H fun vs H1 => sp g (vs ++ dvs) H1 Q) (hdb : (x == ("__debug__" : Str)) = false) (he : starEach (e :: es) X.env = (false, eval e X.env) :: starEach es X.env) (hpl : (backTo pos (starEach es X.env)).any (·.1) = false) : WE X (.Call (.Name x p) (e :: es) [] pos) σ H Q := fun pins s I =>
  wpAny_Call_Name_kw (ld_glob I hg hm (PySem.W.callWith_K (h₀ := X.base) I.ok.mod.kin hk (thn (h pos pins s I) fun us s1 ⟨vs, H1, I1, r, q⟩ => ⟨I1.kIn, call_gn F hr hG hb hd I1 r q⟩) he hpl) hdb)
/-- o.m(e, ..) -/
theorem we_meth {σ : L2.St} {H : Hp} {Q : VK} {pl : Sem Bool} (c : Cls X.K C) (hm : Meth X.K C m f) (F : GnOk X.prog X.w X.K X.mg X.base k f fd ps sp) (hr : Room k X.A) (hG : X.A.guards = some g) (hb : Binds X.K fd ps ds) (hd : Vals dvs ds)
    (h : WE X o σ H fun x H1 => ∃ a dx fs, x = .ref a ∧ H1 a = some (.ins C dx fs) ∧ fs.lookup m = none ∧ WA X (e :: es) σ H1 fun vs H2 => sp g (x :: (vs ++ dvs)) H2 Q)
    (hst : starEach (e :: es) X.env = (false, eval e X.env) :: starEach es X.env) (hpl : (backTo pos (starEach es X.env)).any (·.1) = false)
    (ht : eval (.Call (.Attribute o m apos) (e :: es) [] pos) X.env = (do
      let ov ← eval o X.env
      standAt apos.atName
      let (f, first) ← holding [ov] (getMethod ov m pl)
      callWith pos f first (backTo pos (starEach (e :: es) X.env)) (backToKw pos (keywordEach [] X.env)))) : WE X (.Call (.Attribute o m apos) (e :: es) [] pos) σ H Q := fun pins s I => by
  refine PySem.W.methodCall_KW (pl := pl) (thn (h pins s I) fun u s1 ⟨x, H1, I1, rx, a, dx, fs, ex, ea, l, q⟩ => ?_) ht
  subst ex
  cases (show u = Value.ref a from rx)
  exact getmeth_ok I1 ea c hm l (PySem.W.callWith_K (first := [.ref a]) (h₀ := X.base) I.ok.mod.kin hm.kp (thn (q pos pins s1 I1) fun us s2 ⟨vs, H2, I2, r, q2⟩ => ⟨I2.kIn, call_gn (us := .ref a :: us) (vs := .ref a :: vs) F hr hG hb hd I2 (.cons rfl r) q2⟩) hst hpl)
theorem we_meth0 {σ : L2.St} {H : Hp} {Q : VK} {pl : Sem Bool} (c : Cls X.K C) (hm : Meth X.K C m f) (F : GnOk X.prog X.w X.K X.mg X.base k f fd ps sp) (hr : Room k X.A) (hG : X.A.guards = some g) (hb : Binds X.K fd ps ds) (hd : Vals dvs ds)
    (h : WE X o σ H fun x H1 => ∃ a dx fs, x = .ref a ∧ H1 a = some (.ins C dx fs) ∧ fs.lookup m = none ∧ sp g (x :: dvs) H1 Q)
    (ht : eval (.Call (.Attribute o m apos) [] [] pos) X.env = (do
      let ov ← eval o X.env
      standAt apos.atName
      let (f, first) ← holding [ov] (getMethod ov m pl)
      callWith pos f first (backTo pos (starEach [] X.env)) (backToKw pos (keywordEach [] X.env)))) : WE X (.Call (.Attribute o m apos) [] [] pos) σ H Q := fun pins s I => by
  refine PySem.W.methodCall_KW (pl := pl) (thn (h pins s I) fun u s1 ⟨x, H1, I1, rx, a, dx, fs, ex, ea, l, q⟩ => ?_) ht
  subst ex
  cases (show u = Value.ref a from rx)
  exact getmeth_ok I1 ea c hm l (PySem.W.callWith_K0 (first := [.ref a]) I1.kIn hm.kp (call_gn (us := [.ref a]) (vs := [.ref a]) F hr hG hb hd I1 (.cons rfl .nil) q))
/-- e.f, a property -/
theorem we_prop {σ : L2.St} {H : Hp} {Q : VK} {f : Str} {pp : Addr} (c : Cls X.K C) (hp : PropOf X.K C f pp g0) (F : GnOk X.prog X.w X.K X.mg X.base k g0 fd ps sp) (hr : Room (k + 1) X.A) (hG : X.A.guards = some g) (hb : Binds X.K fd ps ds) (hd : Vals dvs ds)
    (h : WE X o σ H fun x H1 => ∃ a dx fs, x = .ref a ∧ H1 a = some (.ins C dx fs) ∧ sp g (x :: dvs) H1 Q) (hab : attributeBase o f X.env (eval o X.env) = eval o X.env) : WE X (.Attribute o f pos) σ H Q := fun pins s I => by
  refine attr_of hab (thn (h pins s I) fun u s1 ⟨x, H1, I1, rx, a, dx, fs, ex, ea, q⟩ => ?_)
  subst ex
  cases (show u = Value.ref a from rx)
  obtain ⟨mA, O, _⟩ := ins_get I1.hok ea
  obtain ⟨od, J, _⟩ := O.look
  obtain ⟨rest, hrec⟩ := hp.rec_
  have I2 := I1.tok (s1.toks + 1)
  have hc : (PySem.W.clsIn X.K C).isSome = true := by
    obtain ⟨cd, hc, _⟩ := PySem.W.any_some c.hd
    rw [hc]
    rfl
  refine PySem.W.get_bind I1.kIn J (PySem.W.plainGet_of (c.get f)).1 (PySem.W.findObj_data hc hp.at_ hp.get hp.tak) (PySem.W.plainGet_of (c.get f)).2 (wpAny_call (PySem.W.prop_get (s := { s1 with toks := s1.toks + 1 }) I1.kIn hrec ?_))
  refine codeAny_mono (run_gn (A := X.A.in1) (us := [.ref a]) (vs := [.ref a]) (R := fun r s' => match r with | .ok (.ret v) => EP X pins σ Q v s' | _ => False) F hr.in1 hG I2.env0.in1 hb hd I2 (.cons rfl .nil) q fun _ _ q => q) fun r s' hq => ?_
  match r, hq with
  | .ok (.ret u), hq =>
    obtain ⟨v, H', I3, rv, q3⟩ := id hq
    exact wpAny_of_eq (PySem.W.handedOut_of (handed_of rv)) hq
/-- C(e, ..) -/
theorem make_guards {A : Around} {us : List Value} (h : A.guards = some g) : (A.under (.builtin "type.__call__" ⟨.ref C :: us, []⟩)).guards = some g := by
  have e : (Code.builtin "type.__call__" ⟨.ref C :: us, []⟩).guards = [] := by
    unfold Code.guards Code.isGuard
    have h0 : guardIds.contains "type.__call__" = false := by decide +kernel
    rw [if_neg (by show ¬ (guardIds.contains "type.__call__" = true); rw [h0]; exact Bool.false_ne_true)]
  show pushGuards (Code.builtin "type.__call__" ⟨.ref C :: us, []⟩).guards A.guards = some g
  rw [e]
  exact h
theorem run_gmake {pins : List (Addr × Obj)} {σ : L2.St} {H : Hp} {s : Shared} {Q : VK} {us : List Value} {vs : List V} {E : Value → Shared → Prop} (M : Mk X.K C f) (F : GnOk X.prog X.w X.K X.mg X.base k f fd ps sp) (hr : Room (k + 1) X.A) (hG : X.A.guards = some g) (hb : Binds X.K fd ps ds) (hd : Vals dvs ds)
    (I : Inv X pins σ H s) (r : Vals vs us) (h : ∀ x dx, H x = none → H dx = none → dx ≠ x → sp g (.ref x :: (vs ++ dvs)) (upd (upd H dx (.own x)) x (.ins C dx [])) (fun v H2 => v = .non ∧ Q (.ref x) H2)) : wpAny (model X.prog X.w) X.A (call (.ref C) us) (EP X pins σ Q) E s := by
  have hq := h (s.heap.objs.size + 1) s.heap.objs.size (I.hok.fresh (Nat.le_succ _)) (I.hok.fresh (Nat.le_refl _)) (Nat.ne_of_lt (Nat.lt_succ_self _))
  have I2 := Inv.made (C := C) I
  refine wpAny_call (make_map (f := f) I.kIn M.makes M.init (beq_iff_eq.mp M.fn) ?_)
  refine run_gn (us := Value.ref (s.heap.objs.size + 1) :: us) (vs := V.ref (s.heap.objs.size + 1) :: vs) F (hr.make C us []) (make_guards hG) (I2.env0.make C us []) hb hd I2 (.cons rfl r) hq fun v s' hv => ?_
  obtain ⟨z, H', I3, rv, ez, q3⟩ := hv
  subst ez
  exact ⟨rv, ⟨V.ref (s.heap.objs.size + 1), H', I3, rfl, q3⟩⟩
theorem we_make {σ : L2.St} {H : Hp} {Q : VK} (M : Mk X.K C f) (F : GnOk X.prog X.w X.K X.mg X.base k f fd ps sp) (hr : Room (k + 1) X.A) (hG : X.A.guards = some g) (hg : Gl X x) (hm : X.mg x = some (.ref C)) (hb : Binds X.K fd ps ds) (hd : Vals dvs ds)
    (h : WA X (e :: es) σ H fun vs H1 => ∀ y dy, H1 y = none → H1 dy = none → dy ≠ y → sp g (.ref y :: (vs ++ dvs)) (upd (upd H1 dy (.own y)) y (.ins C dy [])) (fun v H2 => v = .non ∧ Q (.ref y) H2))
    (hdb : (x == ("__debug__" : Str)) = false) (he : starEach (e :: es) X.env = (false, eval e X.env) :: starEach es X.env) (hpl : (backTo pos (starEach es X.env)).any (·.1) = false) : WE X (.Call (.Name x p) (e :: es) [] pos) σ H Q := fun pins s I =>
  wpAny_Call_Name_kw (ld_glob I hg hm (PySem.W.callWith_K (h₀ := X.base) I.ok.mod.kin M.kp (thn (h pos pins s I) fun us s1 ⟨vs, H1, I1, r, q⟩ => ⟨I1.kIn, run_gmake M F hr hG hb hd I1 r q⟩) he hpl) hdb)
end
end DL

set_option Elab.async false
set_option linter.all false
set_option maxRecDepth 100000
set_option maxHeartbeats 2000000
namespace DL
open PySem L2

/-! ### more expressions -/
section
variable {X : Cx} {B : Hp} {S : En} {pos : Pos} {Q : D → Prop} {QB : Bool → Prop} {a b c e : Expr} {es : List Expr}

theorem ed_chain {op op' : CmpOp} (h : ED X B S a fun x => ED X B S b fun y => OD X (compareOp op) x y fun z => ∃ k, z = .bl k ∧ if k = true then ED X B S c fun w => OD X (compareOp op') y w Q else Q (.bl false))
    (hm : lastMarks [op, op'] [b, c] = false := by rfl) : ED X B S (.Compare a [op, op'] [b, c] pos) Q := fun σ W H r R k => by
  refine PE.w (pe_chain wo_op wo_op we_pe we_pe we_pe hm) ?_
  refine h σ W H r _ fun d v W1 H1 s1 ok1 n1 q1 => ?_
  refine q1 σ W1 H1 (r.step s1 ok1) _ fun d2 u W2 H2 s2 ok2 n2 q2 => ?_
  refine q2 v u W2 H2 ok2 (n1.mono s2.I) n2 _ fun d3 z W3 H3 s3 ok3 n3 q3 => ?_
  obtain ⟨t, e, q3⟩ := q3
  subst e
  cases n3
  have k3 := ((k.step s1 ok1).step s2 ok2).step s3 ok3
  refine ⟨t, rfl, ?_⟩
  cases t with
  | false => exact iteF (k3.now ok3 (.bl false) (by simpa using q3))
  | true =>
    have q3 : ED X B S c fun w => OD X (compareOp op') d2 w Q := by simpa using q3
    refine iteT (q3 σ W3 H3 (((r.step s1 ok1).step s2 ok2).step s3 ok3) _ fun d4 w' W4 H4 s4 ok4 n4 q4 => ?_)
    exact q4 u w' W4 H4 ok4 ((n2.mono s3.I).mono s4.I) n4 R (k3.step s4 ok4)
theorem ed_one {op} (h : ED X B S a Q) : ED X B S (.BoolOp op [a] pos) Q := fun σ W H r R k => PE.w (pe_one we_pe) (h σ W H r R k)
theorem ed_and {rest : List Expr} (h : ED X B S a fun x => ∃ k, x = .bl k ∧ if k = true then ED X B S (.BoolOp .And (b :: rest) pos) Q else Q (.bl false)) : ED X B S (.BoolOp .And (a :: b :: rest) pos) Q := fun σ W H r R k => by
  refine PE.w (pe_and we_pe we_pe) ?_
  refine h σ W H r _ fun d v W1 H1 s1 ok1 n1 q1 => ?_
  obtain ⟨t, e, q1⟩ := q1
  subst e
  cases n1
  refine ⟨t, rfl, ?_⟩
  cases t with
  | false => exact iteF ((k.step s1 ok1).now ok1 (.bl false) (by simpa using q1))
  | true => exact iteT ((show ED X B S (.BoolOp .And (b :: rest) pos) Q by simpa using q1) σ W1 H1 (r.step s1 ok1) R (k.step s1 ok1))
theorem ed_or {rest : List Expr} (h : ED X B S a fun x => ∃ k, x = .bl k ∧ if k = true then Q (.bl true) else ED X B S (.BoolOp .Or (b :: rest) pos) Q) : ED X B S (.BoolOp .Or (a :: b :: rest) pos) Q := fun σ W H r R k => by
  refine PE.w (pe_or we_pe we_pe) ?_
  refine h σ W H r _ fun d v W1 H1 s1 ok1 n1 q1 => ?_
  obtain ⟨t, e, q1⟩ := q1
  subst e
  cases n1
  refine ⟨t, rfl, ?_⟩
  cases t with
  | true => exact iteT ((k.step s1 ok1).now ok1 (.bl true) (by simpa using q1))
  | false => exact iteF ((show ED X B S (.BoolOp .Or (b :: rest) pos) Q by simpa using q1) σ W1 H1 (r.step s1 ok1) R (k.step s1 ok1))
theorem ed_not (h : ED X B S a fun x => ∃ k, x = .bl k ∧ Q (.bl (!k))) : ED X B S (.UnaryOp .Not a pos) Q := fun σ W H r R k => by
  refine PE.w (pe_not we_pe) ?_
  refine h σ W H r _ fun d v W1 H1 s1 ok1 n1 q1 => ?_
  obtain ⟨t, e, q1⟩ := q1
  subst e
  cases n1
  exact ⟨t, rfl, (k.step s1 ok1).now ok1 (.bl _) q1⟩
theorem ed_ifx (h : TD X B S c fun k => if k = true then ED X B S a Q else ED X B S b Q) : ED X B S (.IfExp c a b pos) Q := fun σ W H r R k => by
  refine PE.w (pe_ifExp wt_pt we_pe we_pe) ?_
  refine h σ W H r _ fun t W1 H1 s1 ok1 q1 => ?_
  cases t with
  | true => exact iteT ((show ED X B S a Q by simpa using q1) σ W1 H1 (r.step s1 ok1) R (k.step s1 ok1))
  | false => exact iteF ((show ED X B S b Q by simpa using q1) σ W1 H1 (r.step s1 ok1) R (k.step s1 ok1))
theorem ed_neg (h : ED X B S a fun x => ∃ i, x = .int i ∧ Q (.int (-i))) : ED X B S (.UnaryOp .USub a pos) Q := fun σ W H r R k => by
  refine PE.w (pe_un un_neg we_pe) ?_
  refine h σ W H r _ fun d v W1 H1 s1 ok1 n1 q1 => ?_
  obtain ⟨i, e, q1⟩ := q1
  subst e
  cases n1
  exact ⟨i, rfl, (k.step s1 ok1).now ok1 (.int _) q1⟩

/-! ### tests -/
theorem td_val (h : ED X B S e fun x => ∃ k, x = .bl k ∧ QB k) (he : ∀ whole, isTrue e X.env whole = (do let v ← whole; standAt e.pos; holding [v] (truthy v)) := by intro _; rfl) : TD X B S e QB := fun σ W H r R k => by
  refine PT.w (pt_val we_pe he) ?_
  refine h σ W H r _ fun d v W1 H1 s1 ok1 n1 q1 => ?_
  obtain ⟨t, e, q1⟩ := q1
  subst e
  cases n1
  exact ⟨t, rfl, (k.step s1 ok1).now ok1 q1⟩
theorem td_cmp {op : CmpOp} (h : ED X B S a fun x => ED X B S b fun y => OD X (compareOp op) x y fun z => ∃ k, z = .bl k ∧ QB k) (hm : behindInMarks op b = false := by first | exact nomark _ | rfl) : TD X B S (.Compare a [op] [b] pos) QB := fun σ W H r R k => by
  refine PT.w (pt_cmpR wo_op we_pe we_pe hm) ?_
  refine h σ W H r _ fun d v W1 H1 s1 ok1 n1 q1 => ?_
  refine q1 σ W1 H1 (r.step s1 ok1) _ fun d2 u W2 H2 s2 ok2 n2 q2 => ?_
  refine q2 v u W2 H2 ok2 (n1.mono s2.I) n2 _ fun d3 z W3 H3 s3 ok3 n3 q3 => ?_
  obtain ⟨t, e, q3⟩ := q3
  subst e
  cases n3
  exact ⟨t, rfl, (((k.step s1 ok1).step s2 ok2).step s3 ok3).now ok3 q3⟩
theorem td_of (h : TW X B S e QB) : TD X B S e QB := fun σ W H r R k => PT.w (PW.pt ww_pw) (h σ W H r R k)
theorem tw_and1 (h : TD X B S a QB) : TW X B S (.BoolOp .And [a] pos) QB := fun σ W H r R k => PW.w (pw_and1 wt_pt) (h σ W H r R k)
theorem tw_or1 (h : TD X B S a QB) : TW X B S (.BoolOp .Or [a] pos) QB := fun σ W H r R k => PW.w (pw_or1 wt_pt) (h σ W H r R k)
theorem tw_and {rest : List Expr} (h : TD X B S a fun k => if k = true then TW X B S (.BoolOp .And (b :: rest) pos) QB else QB false) : TW X B S (.BoolOp .And (a :: b :: rest) pos) QB := fun σ W H r R k => by
  refine PW.w (pw_and wt_pt ww_pw) ?_
  refine h σ W H r _ fun t W1 H1 s1 ok1 q1 => ?_
  cases t with
  | false => exact iteF ((k.step s1 ok1).now ok1 (by simpa using q1))
  | true => exact iteT ((show TW X B S (.BoolOp .And (b :: rest) pos) QB by simpa using q1) σ W1 H1 (r.step s1 ok1) R (k.step s1 ok1))
theorem tw_or {rest : List Expr} (h : TD X B S a fun k => if k = true then QB true else TW X B S (.BoolOp .Or (b :: rest) pos) QB) : TW X B S (.BoolOp .Or (a :: b :: rest) pos) QB := fun σ W H r R k => by
  refine PW.w (pw_or wt_pt ww_pw) ?_
  refine h σ W H r _ fun t W1 H1 s1 ok1 q1 => ?_
  cases t with
  | true => exact iteT ((k.step s1 ok1).now ok1 (by simpa using q1))
  | false => exact iteF ((show TW X B S (.BoolOp .Or (b :: rest) pos) QB by simpa using q1) σ W1 H1 (r.step s1 ok1) R (k.step s1 ok1))
theorem td_not (h : TD X B S a fun k => QB (!k)) : TD X B S (.UnaryOp .Not a pos) QB := fun σ W H r R k => by
  refine PT.w (pt_not wt_pt) ?_
  exact h σ W H r _ fun t W1 H1 s1 ok1 q1 => (k.step s1 ok1).now ok1 q1
/-- the truth of a datum -/
def Tru : D → Bool → Prop
  | .non, k => k = false
  | .bl b, k => k = b
  | .int i, k => k = (i != 0)
  | .str y, k => y.length ≤ sizeLine ∧ k = ((y.length : Int) != 0)
  | .lst l, k => k = !l.isEmpty
  | .tup l, k => k = !l.isEmpty
  | _, _ => False
/-! ### arguments -/
theorem ad_nil {Q : List Sl → Prop} (q : Q []) : AD X B S [] Q := fun σ W H r R k => PA.w pa_nil (k [] [] W H Stp.refl r.ok .nil q)
theorem ad_cons {Q : List Sl → Prop} (h : ED X B S e fun d => AD X B S es fun as => Q (.val d :: as)) (hs : starEach (e :: es) X.env = (false, eval e X.env) :: starEach es X.env := by rfl) : AD X B S (e :: es) Q := fun σ W H r R k => by
  refine PA.w (pa_cons we_pe wa_pa hs) ?_
  refine h σ W H r _ fun d v W1 H1 s1 ok1 n1 q1 => ?_
  refine q1 σ W1 H1 (r.step s1 ok1) _ fun as vs W2 H2 s2 ok2 n2 q2 => ?_
  exact k _ _ W2 H2 (s1.trans ok1 s2) ok2 (.cons (show Arg X.K W2 (.val d) v from n1.mono s2.I) n2) q2
theorem ad_pot {Q : List Sl → Prop} {x : Str} (i : Nat) (hN : X.N[i]? = some x) (h : S[i]? = some (some .pot)) (q : AD X B S es fun as => Q (.pot :: as)) (hv : Vis X.env.scope x := by first | exact Or.inl rfl | exact Or.inr (Or.inl rfl) | exact Or.inr (Or.inr rfl))
    (hd : (x == ("__debug__" : Str)) = false := by decide) (hcd : (x == ("__classdict__" : Str)) = false := by decide) (hs : starEach (.Name x pos :: es) X.env = (false, eval (.Name x pos) X.env) :: starEach es X.env := by rfl) : AD X B S (.Name x pos :: es) Q := fun σ W H r R k => by
  refine PA.w (pa_cons (pe_var hN hv hd hcd) wa_pa hs) ?_
  obtain ⟨v, e, p, ev, hp⟩ := r.sl i _ h
  refine ⟨v, e, ?_⟩
  refine q σ W H r _ fun as vs W2 H2 s2 ok2 n2 q2 => ?_
  exact k _ _ W2 H2 s2 ok2 (.cons (show Arg X.K W2 .pot v from ⟨p, ev, s2.P p hp⟩) n2) q2

/-! ### displays, items -/
theorem Args.vals {K : PySem.W.Frag} {W : Wd} : ∀ {ds : List D} {vs : List V}, Args K W (ds.map Sl.val) vs → Dns K W.I ds vs
  | [], _, .nil => .nil
  | _ :: _, _, .cons h r => .cons h (Args.vals r)
theorem ed_tup {k0} (h : AD X B S es fun as => ∃ ds, as = ds.map Sl.val ∧ ds.length ≤ 100000 ∧ Q (.tup ds)) : ED X B S (.Tuple es k0 pos) Q := fun σ W H r R k => by
  refine PE.w (pe_tup wa_pa) ?_
  refine h σ W H r _ fun as vs W1 H1 s1 ok1 n1 q1 => ?_
  obtain ⟨ds, rfl, hl, q1⟩ := q1
  have n := n1.vals
  refine ⟨Nat.le_trans (n.length ▸ hl) (by decide), fun p hp => ?_⟩
  have st := Stp.new (o := .tup vs) ok1 hp
  exact k (.tup ds) (.ref p) _ _ (s1.trans ok1 st) (ok1.new hp) (.tup (show upd W1.I p _ p = _ from upd_same) (n.mono st.I)) q1
theorem ed_lst (h : AD X B S es fun as => ∃ ds, as = ds.map Sl.val ∧ ds.length ≤ 100000 ∧ Q (.lst ds)) : ED X B S (.List es pos) Q := fun σ W H r R k => by
  refine PE.w (pe_lst wa_pa) ?_
  refine h σ W H r _ fun as vs W1 H1 s1 ok1 n1 q1 => ?_
  obtain ⟨ds, rfl, hl, q1⟩ := q1
  have n := n1.vals
  refine ⟨Nat.le_trans (n.length ▸ hl) (by decide), fun p hp => ?_⟩
  have st := Stp.new (o := .lst vs) ok1 hp
  exact k (.lst ds) (.ref p) _ _ (s1.trans ok1 st) (ok1.new hp) (.lst (show upd W1.I p _ p = _ from upd_same) (n.mono st.I)) q1
theorem Dns.at {K : PySem.W.Frag} {I : Hp} {l : List D} {xs : List V} {i : Int} {d : D} (h : Dns K I l xs) (e : atI l i = some d) : ∃ v, atI xs i = some v ∧ Dn K I d v := by
  unfold atI at e ⊢
  rw [← h.length]
  cases q : ixN l.length i with
  | none => rw [q] at e; cases e
  | some j =>
    rw [q, Option.bind_some] at e
    obtain ⟨v, h1, h2⟩ := h.get' e
    exact ⟨v, h1, h2⟩
theorem od_ixL {l : List D} {i : Int} {d : D} {σ : L2.St} {W : Wd} {H : Hp} {R : VK} {v u : V} (ok : Ok (gOf X) W H) (h1 : Dn X.K W.I (.lst l) v) (h2 : Dn X.K W.I (.int i) u) (e : atI l i = some d) (q : Q d) (k : Cont X.K (gOf X) W H Q R) : rIxL X.K v u H R := by
  cases h1 with
  | lst h z =>
    cases h2
    obtain ⟨v, e1, n⟩ := z.at e
    exact ⟨_, _, i, v, rfl, rfl, SqL.of (ok.ex _ _ h), e1, k.now ok n q⟩
/-- x[i] of a list, of a tuple -/
theorem ed_ix (h : ED X B S a fun x => ED X B S b fun y => ∃ l i d, (x = .lst l ∨ x = .tup l) ∧ y = .int i ∧ atI l i = some d ∧ Q d) (hs : PlainIx b := by exact fun _ _ => rfl) : ED X B S (.Subscript a b pos) Q := fun σ W H r R k => by
  refine PE.w (pe_ix ix_seq we_pe we_pe hs) ?_
  refine h σ W H r _ fun d v W1 H1 s1 ok1 n1 q1 => ?_
  refine q1 σ W1 H1 (r.step s1 ok1) _ fun d2 u W2 H2 s2 ok2 n2 q2 => ?_
  obtain ⟨l, i, d3, hx, rfl, e, q⟩ := q2
  have k2 := (k.step s1 ok1).step s2 ok2
  have n1' := n1.mono s2.I
  rcases hx with rfl | rfl
  · exact .inl (od_ixL (σ := σ) ok2 n1' n2 e q k2)
  · cases n1' with
    | tup h z =>
      cases n2
      obtain ⟨v, e1, n⟩ := z.at e
      exact .inr (.inl ⟨_, _, i, v, rfl, rfl, SqT.of (ok2.ex _ _ h), e1, k2.now ok2 n q⟩)
/-- p[0], p[1] of a pot: some int -/
theorem ed_potix {x : Str} {px : Pos} {j : Nat} {j2 pos2} (i : Nat) (hN : X.N[i]? = some x) (h : S[i]? = some (some .pot)) (hj : j < 2) (q : ∀ z : Int, (j = 1 → 0 ≤ z ∧ z < 2 ^ 31) → Q (.int z)) (hv : Vis X.env.scope x := by first | exact Or.inl rfl | exact Or.inr (Or.inl rfl) | exact Or.inr (Or.inr rfl))
    (hd : (x == ("__debug__" : Str)) = false := by decide) (hcd : (x == ("__classdict__" : Str)) = false := by decide) : ED X B S (.Subscript (.Name x px) (.Constant (.int (j : Int)) j2 pos2) pos) Q := fun σ W H r R k => by
  refine PE.w (pe_ix ix_list (pe_var hN hv hd hcd) pe_int (fun _ _ => rfl)) ?_
  obtain ⟨v, e, p, ev, hp⟩ := r.sl i _ h
  subst ev
  obtain ⟨n, y, z, hH, hb⟩ := r.ok.pot p hp
  refine ⟨_, e, p, _, (j : Int), if j = 0 then .int y else .int z, rfl, rfl, SqL.of hH, ?_, ?_⟩
  · match j, hj with
    | 0, _ => exact atI_nat (j := 0) rfl
    | 1, _ => exact atI_nat (j := 1) rfl
  · match j, hj with
    | 0, _ => exact k.now r.ok (.int y) (q y fun z => absurd z (by decide))
    | 1, _ => exact k.now r.ok (.int z) (q z fun _ => hb)
end

/-! ### what a def promises, on data -/
abbrev SpD := List Sl → (D → Prop) → Prop
def lift (K : PySem.W.Frag) (sp : SpD) : SpG := fun g vs H R => ∃ as W Q, Ok g W H ∧ Args K W as vs ∧ sp as Q ∧ Cont K g W H Q R
/-- the def that the module calls x: its level, its parameters, its promise -/
structure Df (P : Program) (w : World) (K : PySem.W.Frag) (mg : Str → Option Value) (base : Heap) (x : Str) (k : Nat) (n : Nat) (sp : SpD) : Prop where
  ex : ∃ f fd ps, GnOk P w K mg base k f fd ps (lift K sp) ∧ mg x = some (.ref f) ∧ PySem.W.keepIn K (.ref f) = true ∧ Binds K fd ps [] ∧ ps.length = n
section
variable {X : Cx} {B : Hp} {S : En} {pos p : Pos} {Q : D → Prop} {e : Expr} {es : List Expr} {x : Str} {k n : Nat} {sp : SpD}
theorem ed_call (F : Df X.prog X.w X.K X.mg X.base x k n sp) (hr : Room k X.A) (hG : X.A.guards = some (gOf X)) (h : AD X B S (e :: es) fun as => sp as Q) (hg : Gl X x := by rfl) (hdb : (x == ("__debug__" : Str)) = false := by decide)
    (he : starEach (e :: es) X.env = (false, eval e X.env) :: starEach es X.env := by rfl) (hpl : (backTo pos (starEach es X.env)).any (·.1) = false := by rfl) : ED X B S (.Call (.Name x p) (e :: es) [] pos) Q := fun σ W H r R c => by
  obtain ⟨f, fd, ps, F, hm, hk, hb, _⟩ := F.ex
  refine we_call F hr hG hg hm hk hb .nil ?_ hdb he hpl
  refine h σ W H r _ fun as vs W1 H1 s1 ok1 n1 q1 => ?_
  rw [List.append_nil]
  exact ⟨as, W1, Q, ok1, n1, q1, c.step s1 ok1⟩
/-- a call of a value on data -/
def CD (X : Cx) (f : Value) (as : List Sl) (Q : D → Prop) : Prop := ∀ vs W H, Ok (gOf X) W H → Args X.K W as vs → ∀ R, Cont X.K (gOf X) W H Q R → ∀ pins s σ us, Inv X pins σ H s → Vals vs us → wpAny (model X.prog X.w) X.A (call f us) (EP X pins σ R) X.xe s
def WC (X : Cx) (f : Value) : List V → Hp → VK → Prop := fun vs H R => ∀ pins s σ us, Inv X pins σ H s → Vals vs us → wpAny (model X.prog X.w) X.A (call f us) (EP X pins σ R) X.xe s
theorem wc_call {f : Value} : CallR X f (WC X f) := fun pins s σ _ _ us _ I r h => h pins s σ us I r
theorem cd_of {f : Value} {r : List V → Hp → VK → Prop} {as : List Sl} (hc : CallR X f r) (h : ∀ vs W H, Ok (gOf X) W H → Args X.K W as vs → ∀ R, Cont X.K (gOf X) W H Q R → r vs H R) : CD X f as Q := fun vs W H ok ha R c pins s σ us I rv =>
  hc pins s σ H vs us R I rv (h vs W H ok ha R c)
theorem ed_callB {id : String} (hm : X.mg x = none) (h : AD X B S (e :: es) fun as => CD X (.builtin id) as Q) (hv : bootBuiltins x = some (.builtin id) := by first | rfl | decide +kernel) (hg : Gl X x := by rfl) (hn : x ≠ "__name__" := by decide) (hdb : (x == ("__debug__" : Str)) = false := by decide)
    (he : starEach (e :: es) X.env = (false, eval e X.env) :: starEach es X.env := by rfl) (hpl : (backTo pos (starEach es X.env)).any (·.1) = false := by rfl) : ED X B S (.Call (.Name x p) (e :: es) [] pos) Q := fun σ W H r R c => by
  refine PE.w (pe_callB wc_call hg hm hv wa_pa hn hdb he hpl) ?_
  refine h σ W H r _ fun as vs W1 H1 s1 ok1 n1 q1 => ?_
  exact q1 vs W1 H1 ok1 n1 R (c.step s1 ok1)
theorem ed_callTy {T : String} (hm : X.mg x = none) (h : AD X B S (e :: es) fun as => CD X (.type T) as Q) (hv : bootBuiltins x = some (.type T) := by first | rfl | decide +kernel) (hg : Gl X x := by rfl) (hn : x ≠ "__name__" := by decide) (hdb : (x == ("__debug__" : Str)) = false := by decide)
    (he : starEach (e :: es) X.env = (false, eval e X.env) :: starEach es X.env := by rfl) (hpl : (backTo pos (starEach es X.env)).any (·.1) = false := by rfl) : ED X B S (.Call (.Name x p) (e :: es) [] pos) Q := fun σ W H r R c => by
  refine PE.w (pe_callTy wc_call hg hm hv wa_pa hn hdb he hpl) ?_
  refine h σ W H r _ fun as vs W1 H1 s1 ok1 n1 q1 => ?_
  exact q1 vs W1 H1 ok1 n1 R (c.step s1 ok1)
/-- a built-in function that the module imported -/
theorem one_arg {K : PySem.W.Frag} {W : Wd} {d : D} {vs : List V} (h : Args K W [.val d] vs) : ∃ v, vs = [v] ∧ Dn K W.I d v := by
  cases h with
  | cons h r => cases r; exact ⟨_, rfl, h⟩
theorem two_args {K : PySem.W.Frag} {W : Wd} {d d' : D} {vs : List V} (h : Args K W [.val d, .val d'] vs) : ∃ v u, vs = [v, u] ∧ Dn K W.I d v ∧ Dn K W.I d' u := by
  cases h with
  | cons h r => cases r with
    | cons h' r' => cases r'; exact ⟨_, _, rfl, h, h'⟩
theorem cd_abs {i : Int} (q : Q (.int (if i < 0 then -i else i))) : CD X (.builtin "abs") [.val (.int i)] Q := cd_of call_abs fun vs W H ok ha R c => by
  obtain ⟨v, rfl, h⟩ := one_arg ha
  cases h
  exact ⟨i, rfl, c.now ok (.int _) q⟩
theorem cd_int {i : Int} (q : Q (.int i)) : CD X (.type "int") [.val (.int i)] Q := cd_of call_int1 fun vs W H ok ha R c => by
  obtain ⟨v, rfl, h⟩ := one_arg ha
  cases h
  exact .inl ⟨i, rfl, c.now ok (.int _) q⟩
theorem cd_max {i j : Int} (hc : X.calm = true) (q : Q (.int (if j > i then j else i))) : CD X (.builtin "max") [.val (.int i), .val (.int j)] Q := cd_of (call_max2 hc) fun vs W H ok ha R c => by
  obtain ⟨v, u, rfl, h, h'⟩ := two_args ha
  cases h; cases h'
  exact ⟨i, j, rfl, c.now ok (.int _) q⟩
theorem cd_divmod {i j : Int} (hj : CDiv i j) (q : Q (.tup [.int (i / j), .int (i % j)])) : CD X (.builtin "divmod") [.val (.int i), .val (.int j)] Q := cd_of call_divmod fun vs W H ok ha R c => by
  obtain ⟨v, u, rfl, h, h'⟩ := two_args ha
  cases h; cases h'
  refine ⟨i, j, rfl, hj, fun p hp => ?_⟩
  have st := Stp.new (o := .tup [.int (i / j), .int (i % j)]) ok hp
  exact c _ _ _ _ st (ok.new hp) (.tup (show upd W.I p _ p = _ from upd_same) (.cons (.int _) (.cons (.int _) .nil))) q
theorem cd_len {x : D} {l : List D} (hx : x = .lst l ∨ x = .tup l) (q : Q (.int (l.length : Int))) : CD X (.builtin "len") [.val x] Q := cd_of call_len_seq fun vs W H ok ha R c => by
  obtain ⟨v, rfl, h⟩ := one_arg ha
  rcases hx with rfl | rfl
  · cases h with
    | lst h z => exact ⟨_, _, rfl, .inl (SqL.of (ok.ex _ _ h)), by rw [← z.length]; exact c.now ok (.int _) q⟩
  · cases h with
    | tup h z => exact ⟨_, _, rfl, .inr (SqT.of (ok.ex _ _ h)), by rw [← z.length]; exact c.now ok (.int _) q⟩
theorem cd_lenF {l : List Int} (q : Q (.int (l.length : Int))) : CD X (.builtin "len") [.val (.frl l)] Q := cd_of call_len_seq fun vs W H ok ha R c => by
  obtain ⟨v, rfl, h⟩ := one_arg ha
  cases h with
  | frl h => exact ⟨_, _, rfl, .inl (ok.ex.l h), by rw [List.length_map]; exact c.now ok (.int _) q⟩
end
end DL

set_option Elab.async false
set_option linter.all false
set_option maxRecDepth 100000
set_option maxHeartbeats 2000000
namespace DL
open PySem L2

/-! ### statements -/
structure Ends' where
  nx : En → Prop
  rt : D → Prop
  bk : En → Prop := fun _ => False
  ct : En → Prop := fun _ => False
structure Sub (K : PySem.W.Frag) (g : List Code) (B : Hp) (W0 : Wd) (I : Hp) (E : Ends') (D' : Ends) : Prop where
  nx : ∀ S σ W H, Rep K g B S σ W H → Stp W0 B W H → Ex I W.I → E.nx S → D'.nx σ H
  rt : ∀ d v W H, Ok g W H → Stp W0 B W H → Ex I W.I → Dn K W.I d v → E.rt d → D'.rt v H
  bk : ∀ S σ W H, Rep K g B S σ W H → Stp W0 B W H → Ex I W.I → E.bk S → D'.bk σ H
  ct : ∀ S σ W H, Rep K g B S σ W H → Stp W0 B W H → Ex I W.I → E.ct S → D'.ct σ H
theorem Sub.mono {K : PySem.W.Frag} {g : List Code} {B : Hp} {W0 : Wd} {I I' : Hp} {E : Ends'} {D' : Ends} (k : Sub K g B W0 I E D') (e : Ex I I') : Sub K g B W0 I' E D' :=
  ⟨fun S σ W H r z x => k.nx S σ W H r z (e.trans x), fun d v W H r z x => k.rt d v W H r z (e.trans x), fun S σ W H r z x => k.bk S σ W H r z (e.trans x), fun S σ W H r z x => k.ct S σ W H r z (e.trans x)⟩
def WG (X : Cx) (tg : Expr) : TG := fun v σ H Q => ∀ pins s u, Inv X pins σ H s → RelV v u → wpAny (model X.prog X.w) X.A (assign tg X.env u) (fun _ s' => ∃ σ' H', Inv X pins σ' H' s' ∧ Q σ' H') X.xe s
def WGs (X : Cx) (ts : List Expr) : TGs := fun vs σ H Q => ∀ pins s us, Inv X pins σ H s → Vals vs us → wpAny (model X.prog X.w) X.A (assignInOrder ((assignEach ts X.env).map (·.2)) us) (fun _ s' => ∃ σ' H', Inv X pins σ' H' s' ∧ Q σ' H') X.xe s
theorem wg_pg {X : Cx} {tg : Expr} : PG X tg (WG X tg) := ⟨fun pins s _ _ _ u _ I r h => h pins s u I r⟩
theorem wgs_pgs {X : Cx} {ts : List Expr} : PGs X ts (WGs X ts) := ⟨fun pins s _ _ _ us _ I r h => h pins s us I r⟩
theorem PG.w {X : Cx} {tg : Expr} {t : TG} (h : PG X tg t) {v : V} {σ : L2.St} {H : Hp} {Q : L2.St → Hp → Prop} (q : t v σ H Q) : WG X tg v σ H Q := fun pins s u I r => h.run pins s σ H v u Q I r q
theorem PGs.w {X : Cx} {ts : List Expr} {t : TGs} (h : PGs X ts t) {vs : List V} {σ : L2.St} {H : Hp} {Q : L2.St → Hp → Prop} (q : t vs σ H Q) : WGs X ts vs σ H Q := fun pins s us I r => h.run pins s σ H vs us Q I r q
section
variable (X : Cx) (B : Hp) (W0 : Wd) (S : En)
def SD (st : Stmt) (E : Ends') : Prop := ∀ σ W H, Rep X.K (gOf X) B S σ W H → Stp W0 B W H → ∀ D', Sub X.K (gOf X) B W0 W.I E D' → WS X st D' σ H
def SDs (sts : List Stmt) (E : Ends') : Prop := ∀ σ W H, Rep X.K (gOf X) B S σ W H → Stp W0 B W H → ∀ D', Sub X.K (gOf X) B W0 W.I E D' → WSs X sts D' σ H
def ContG (K : PySem.W.Frag) (g : List Code) (I : Hp) (Q : En → Prop) (R : L2.St → Hp → Prop) : Prop := ∀ S σ W H, Rep K g B S σ W H → Stp W0 B W H → Ex I W.I → Q S → R σ H
def GD (tg : Expr) (d : D) (Q : En → Prop) : Prop := ∀ σ W H v, Rep X.K (gOf X) B S σ W H → Stp W0 B W H → Dn X.K W.I d v → ∀ R, ContG B W0 X.K (gOf X) W.I Q R → WG X tg v σ H R
def GDs (ts : List Expr) (ds : List D) (Q : En → Prop) : Prop := ∀ σ W H vs, Rep X.K (gOf X) B S σ W H → Stp W0 B W H → Dns X.K W.I ds vs → ∀ R, ContG B W0 X.K (gOf X) W.I Q R → WGs X ts vs σ H R
end
section
variable {X : Cx} {B : Hp} {W0 : Wd} {S : En} {st : Stmt} {sts : List Stmt} {E : Ends'} {pos : Pos} {e a b : Expr} {Q : En → Prop}

/-! targets -/
theorem gd_name {x : Str} {d : D} (i : Nat) (hN : X.N.Nodup) (hi : X.N[i]? = some x) (q : Q (S.set i (some (.val d)))) (hx : Loc X.env.scope x := by first | exact Or.inl rfl | exact Or.inr rfl)
    (hf : X.fn x = true ∨ X.env.scope.names.lookup x = some .local := by first | exact .inl rfl | exact .inr rfl) : GD X B W0 S (.Name x pos) d Q := fun σ W H v r z n R k =>
  PG.w (pg_name hN hi hx hf) (k _ _ W H (r.set n) z (Ex.refl _) q)
theorem gds_nil (q : Q S) : GDs X B W0 S [] [] Q := fun σ W H vs r z n R k => by
  cases n
  exact PGs.w pgs_nil ⟨rfl, k _ _ W H r z (Ex.refl _) q⟩
theorem gds_cons {tg : Expr} {ts : List Expr} {d : D} {ds : List D} (h : GD X B W0 S tg d fun S' => GDs X B W0 S' ts ds Q) (hs : (assignEach (tg :: ts) X.env).map (·.2) = assign tg X.env :: (assignEach ts X.env).map (·.2) := by rfl) : GDs X B W0 S (tg :: ts) (d :: ds) Q := fun σ W H vs r z n R k => by
  cases n with
  | @cons _ v _ xs n1 n2 =>
    refine PGs.w (pgs_cons wg_pg wgs_pgs hs) ⟨_, _, rfl, ?_⟩
    exact h σ W H v r z n1 _ fun S' σ' W' H' r' z' e' q' => q' σ' W' H' xs r' z' (n2.mono e') R fun S2 σ2 W2 H2 r2 z2 e2 q2 => k S2 σ2 W2 H2 r2 z2 (e'.trans e2) q2
theorem gd_tup {es : List Expr} {k0 : Nat} {ds : List D} {n : Nat} (hc : X.calm = true) (h : GDs X B W0 S es ds Q) (hl : ds.length = n) (hn : (assignEach es X.env).length = n := by rfl) (hst : (assignEach es X.env).findIdx? (·.1) = none := by rfl) : GD X B W0 S (.Tuple es k0 pos) (.tup ds) Q := fun σ W H v r z m R k => by
  cases m with
  | tup hp m => exact PG.w (pg_tup hc wgs_pgs hn hst) ⟨_, _, rfl, SqT.of (r.ok.ex _ _ hp), by rw [← m.length]; exact hl, h σ W H _ r z m R k⟩
/-- p[j] = an int, p a pot -/
theorem gd_pot {x : Str} {px : Pos} {j : Nat} {j2 pos2} {m : Int} (i : Nat) (hN : X.N[i]? = some x) (h : S[i]? = some (some .pot)) (hj : j < 2) (hm : j = 1 → 0 ≤ m ∧ m < 2 ^ 31) (q : Q S) (hv : Vis X.env.scope x := by first | exact Or.inl rfl | exact Or.inr (Or.inl rfl) | exact Or.inr (Or.inr rfl))
    (hd : (x == ("__debug__" : Str)) = false := by decide) (hcd : (x == ("__classdict__" : Str)) = false := by decide)
    (ha : ∀ v, assign (.Subscript (.Name x px) (.Constant (.int (j : Int)) j2 pos2) pos) X.env v = (do
      let ov ← holding [v] (eval (.Name x px) X.env)
      let iv ← holding [v, ov] (eval (.Constant (.int (j : Int)) j2 pos2) X.env)
      standAt pos
      holding [v, ov, iv] (setItem ov iv v)
      release [v, ov, iv] []) := by intro _; rfl) : GD X B W0 S (.Subscript (.Name x px) (.Constant (.int (j : Int)) j2 pos2) pos) (.int m) Q := fun σ W H v r z n R k => by
  cases n
  obtain ⟨v, e, p, ev, hp⟩ := r.sl i _ h
  subst ev
  obtain ⟨ni, y, w, hH, hbb⟩ := r.ok.pot p hp
  refine PG.w (pg_sub (pe_var hN hv hd hcd) pe_int set_list ha) ⟨_, e, p, _, (j : Int), j, rfl, rfl, hH, ?_, ?_⟩
  · match j, hj with
    | 0, _ => rfl
    | 1, _ => rfl
  · have ht : ∃ y' w', ([V.int y, V.int w].set j (.int m)) = [V.int y', V.int w'] ∧ 0 ≤ w' ∧ w' < 2 ^ 31 := by
      match j, hj with
      | 0, _ => exact ⟨m, w, rfl, hbb⟩
      | 1, _ => exact ⟨y, m, rfl, hm rfl⟩
    obtain ⟨y', w', et, hw'⟩ := ht
    rw [et]
    have pn : ∀ b o, H b = some o → ¬ W.P b → b ≠ p := fun b o _ n z => n (z ▸ hp)
    have ok : Ok (gOf X) W (upd H p (.lst [.int y', .int w'])) := {
      gd := fun b hb => by
        obtain ⟨n1, n2⟩ := r.ok.gd b hb
        refine ⟨n1, ?_⟩
        by_cases q : b = p
        · subst q
          rw [upd_same]
          exact ⟨(fun z => by cases z), (fun _ z => by cases z)⟩
        · rw [upd_ne q]
          exact n2
      ex := fun b o hb => by
        rw [upd_ne (fun z => by rw [z, ni] at hb; cases hb)]
        exact r.ok.ex b o hb
      pot := fun b hb => by
        obtain ⟨nb, y2, w2, h2⟩ := r.ok.pot b hb
        refine ⟨nb, ?_⟩
        by_cases q : b = p
        · subst q
          exact ⟨y', w', upd_same, hw'⟩
        · exact ⟨y2, w2, by rw [upd_ne q]; exact h2⟩ }
    have st : Stp W H W (upd H p (.lst [.int y', .int w'])) := ⟨Ex.refl _, fun _ h => h, fun b o hb n => by rw [upd_ne (pn b o hb n)]; exact hb, fun _ _ _ _ h => h, fun _ _ _ h => h⟩
    exact k S σ W _ (r.step st ok) (z.trans r.ok st) (Ex.refl _) q

/-! blocks -/
theorem sds_nil (q : E.nx S) : SDs X B W0 S [] E := fun σ W H r z D' k => PSs.w pss_nil (k.nx S σ W H r z (Ex.refl _) q)
theorem sds_cons (h : SD X B W0 S st { E with nx := fun S' => SDs X B W0 S' sts E }) : SDs X B W0 S (st :: sts) E := fun σ W H r z D' k => by
  refine PSs.w (pss_cons ws_ps wss_pss) ?_
  exact h σ W H r z _ ⟨fun S' σ' W' H' r' z' x' q => q σ' W' H' r' z' D' (k.mono x'), k.rt, k.bk, k.ct⟩
theorem sd_ret (h : ED X B S e E.rt) : SD X B W0 S (.Return (some e) pos) E := fun σ W H r z D' k => PS.w (ps_ret we_pe) (h σ W H r _ fun d v W1 H1 s1 ok1 n1 q1 => k.rt d v W1 H1 ok1 (z.trans r.ok s1) s1.I n1 q1)
theorem sd_expr (h : ED X B S e fun _ => E.nx S) (hs : swapsWith e none pos.line X.env = pure false := by rfl) : SD X B W0 S (.Expr e pos) E := fun σ W H r z D' k =>
  PS.w (ps_expr we_pe hs) (h σ W H r _ fun d v W1 H1 s1 ok1 n1 q1 => k.nx S σ W1 H1 (r.step s1 ok1) (z.trans r.ok s1) s1.I q1)
theorem sd_if {c : Expr} {x y : List Stmt} (h : TD X B S c fun t => if t = true then SDs X B W0 S x E else SDs X B W0 S y E) : SD X B W0 S (.If c x y pos) E := fun σ W H r z D' k => by
  refine PS.w (ps_if wt_pt wss_pss wss_pss) ?_
  refine h σ W H r _ fun t W1 H1 s1 ok1 q1 => ?_
  cases t with
  | true => exact iteT ((show SDs X B W0 S x E by simpa using q1) σ W1 H1 (r.step s1 ok1) (z.trans r.ok s1) D' (k.mono s1.I))
  | false => exact iteF ((show SDs X B W0 S y E by simpa using q1) σ W1 H1 (r.step s1 ok1) (z.trans r.ok s1) D' (k.mono s1.I))
theorem sd_set {x : Str} {pos' : Pos} (i : Nat) (hN : X.N.Nodup) (hi : X.N[i]? = some x) (h : ED X B S e fun d => E.nx (S.set i (some (.val d)))) (hx : Loc X.env.scope x := by first | exact Or.inl rfl | exact Or.inr rfl)
    (hs : swapsWith e (some (.Name x pos')) pos.line X.env = pure false := by rfl) (hf : X.fn x = true ∨ X.env.scope.names.lookup x = some .local := by first | exact .inl rfl | exact .inr rfl) : SD X B W0 S (.Assign [.Name x pos'] e pos) E := fun σ W H r z D' k =>
  PS.w (ps_set hN hi hx we_pe hs hf) (h σ W H r _ fun d v W1 H1 s1 ok1 n1 q1 => k.nx _ _ W1 H1 ((r.step s1 ok1).set n1) (z.trans r.ok s1) s1.I q1)
theorem sd_asg {tg : Expr} (h : ED X B S e fun d => GD X B W0 S tg d E.nx) (hs : swapsWithSole [tg] e pos.line X.env = pure false := by rfl) (hw : swappedStores [tg] e X.env = pure none := by rfl)
    (h1 : (assignEach [tg] X.env).map (·.2) = [assign tg X.env] := by rfl) : SD X B W0 S (.Assign [tg] e pos) E := fun σ W H r z D' k =>
  PS.w (ps_asg we_pe wg_pg hs hw h1) (h σ W H r _ fun d v W1 H1 s1 ok1 n1 q1 => q1 σ W1 H1 v (r.step s1 ok1) (z.trans r.ok s1) n1 _ fun S2 σ2 W2 H2 r2 z2 e2 q2 => k.nx S2 σ2 W2 H2 r2 z2 (s1.I.trans e2) q2)
theorem sd_par {x y : Str} {px py pt : Pos} {kt k2 pt2} (i j : Nat) (hc : X.calm = true) (hN : X.N.Nodup) (hi : X.N[i]? = some x) (hj : X.N[j]? = some y) (hij : i ≠ j)
    (hx : X.env.scope.names.lookup x = some .local) (hy : X.env.scope.names.lookup y = some .local) (h : AD X B S [a, b] fun as => ∃ d d', as = [.val d, .val d'] ∧ E.nx ((S.set i (some (.val d))).set j (some (.val d'))))
    (hps : PS X (.Assign [.Tuple [.Name x px, .Name y py] kt pt] (.Tuple [a, b] k2 pt2) pos) (tPar i j (WA X [a, b])) := by exact ps_par rfl (by assumption) rfl rfl (by decide) rfl rfl DL.wa_pa (by rfl)) :
    SD X B W0 S (.Assign [.Tuple [.Name x px, .Name y py] kt pt] (.Tuple [a, b] k2 pt2) pos) E := fun σ W H r z D' k => by
  refine PS.w hps ?_
  refine h σ W H r _ fun as vs W1 H1 s1 ok1 n1 q1 => ?_
  obtain ⟨d, d', rfl, q1⟩ := q1
  obtain ⟨v, u, rfl, m, m'⟩ := two_args n1
  exact ⟨v, u, rfl, k.nx _ _ W1 H1 (((r.step s1 ok1).set m).set m') (z.trans r.ok s1) s1.I q1⟩
/-! loops -/
theorem sd_forL {tg iter : Expr} {body : List Stmt} {l : List D} (hp : PassesOwn (model X.prog X.w) X.A X.env X.xe) (hc : X.calm = true) (Inv : Nat → En → Prop) (h : ED X B S iter fun d => (d = .lst l) ∧ Inv 0 S)
    (hs : ∀ (i : Nat) d S', l[i]? = some d → Inv i S' → GD X B W0 S' tg d fun S2 => SDs X B W0 S2 body { nx := Inv (i + 1), rt := E.rt, bk := E.nx, ct := Inv (i + 1) })
    (hd : ∀ S', Inv l.length S' → E.nx S') (hf : ∀ x, foldedSetIterable iter X.env x = pure x := by intro _; rfl) : SD X B W0 S (.For tg iter body [] pos) E := fun σ W H r z D' k => by
  refine PS.w (ps_for hp hc (pi_list we_pe) wg_pg wss_pss hf) ?_
  refine h σ W H r _ fun d v W1 H1 s1 ok1 n1 q1 => ?_
  obtain ⟨rfl, i0⟩ := q1
  cases n1 with
  | @lst _ a xs ha m =>
    refine ⟨a, rfl, ⟨xs, SqL.of (ok1.ex _ _ ha)⟩, for_list (K := X.K) (a := a) (xs := xs) (fun i σ' H' => ∃ S' W', Rep X.K (gOf X) B S' σ' W' H' ∧ Stp W0 B W' H' ∧ Ex W1.I W'.I ∧ Inv i S') ⟨S, W1, r.step s1 ok1, z.trans r.ok s1, Ex.refl _, i0⟩
      (fun i σ' H' _ ⟨S', W', r', _, e', _⟩ => SqL.of (r'.ok.ex _ _ (e' _ _ ha))) ?_ ?_⟩
    · rintro i x σ' H' hx ⟨S', W', r', z', e', i'⟩
      obtain ⟨d, hd', nd⟩ := m.get hx
      refine hs i d S' hd' i' σ' W' H' x r' z' (nd.mono e') _ fun S2 σ2 W2 H2 r2 z2 e2 q2 => ?_
      exact q2 σ2 W2 H2 r2 z2 _ ⟨fun S3 σ3 W3 H3 r3 z3 e3 q3 => ⟨S3, W3, r3, z3, (e'.trans e2).trans e3, q3⟩, fun d3 v3 W3 H3 r3 z3 e3 n3 q3 => k.rt d3 v3 W3 H3 r3 z3 (((s1.I.trans e').trans e2).trans e3) n3 q3,
        fun S3 σ3 W3 H3 r3 z3 e3 q3 => k.nx S3 σ3 W3 H3 r3 z3 (((s1.I.trans e').trans e2).trans e3) q3, fun S3 σ3 W3 H3 r3 z3 e3 q3 => ⟨S3, W3, r3, z3, (e'.trans e2).trans e3, q3⟩⟩
    · rintro σ' H' ⟨S', W', r', z', e', i'⟩
      rw [← m.length] at i'
      exact k.nx S' σ' W' H' r' z' (s1.I.trans e') (hd S' i')
theorem sd_forT {tg iter : Expr} {body : List Stmt} {l : List D} (hp : PassesOwn (model X.prog X.w) X.A X.env X.xe) (hc : X.calm = true) (Inv : Nat → En → Prop) (h : ED X B S iter fun d => (d = .tup l) ∧ Inv 0 S)
    (hs : ∀ (i : Nat) d S', l[i]? = some d → Inv i S' → GD X B W0 S' tg d fun S2 => SDs X B W0 S2 body { nx := Inv (i + 1), rt := E.rt, bk := E.nx, ct := Inv (i + 1) })
    (hd : ∀ S', Inv l.length S' → E.nx S') (hf : ∀ x, foldedSetIterable iter X.env x = pure x := by intro _; rfl) : SD X B W0 S (.For tg iter body [] pos) E := fun σ W H r z D' k => by
  refine PS.w (ps_for hp hc (pi_tup we_pe) wg_pg wss_pss hf) ?_
  refine h σ W H r _ fun d v W1 H1 s1 ok1 n1 q1 => ?_
  obtain ⟨rfl, i0⟩ := q1
  cases n1 with
  | @tup _ a xs ha m =>
    refine ⟨a, rfl, ⟨xs, SqT.of (ok1.ex _ _ ha)⟩, for_tup (K := X.K) (a := a) (xs := xs) (fun i σ' H' => ∃ S' W', Rep X.K (gOf X) B S' σ' W' H' ∧ Stp W0 B W' H' ∧ Ex W1.I W'.I ∧ Inv i S') ⟨S, W1, r.step s1 ok1, z.trans r.ok s1, Ex.refl _, i0⟩
      (fun i σ' H' _ ⟨S', W', r', _, e', _⟩ => SqT.of (r'.ok.ex _ _ (e' _ _ ha))) ?_ ?_⟩
    · rintro i x σ' H' hx ⟨S', W', r', z', e', i'⟩
      obtain ⟨d, hd', nd⟩ := m.get hx
      refine hs i d S' hd' i' σ' W' H' x r' z' (nd.mono e') _ fun S2 σ2 W2 H2 r2 z2 e2 q2 => ?_
      exact q2 σ2 W2 H2 r2 z2 _ ⟨fun S3 σ3 W3 H3 r3 z3 e3 q3 => ⟨S3, W3, r3, z3, (e'.trans e2).trans e3, q3⟩, fun d3 v3 W3 H3 r3 z3 e3 n3 q3 => k.rt d3 v3 W3 H3 r3 z3 (((s1.I.trans e').trans e2).trans e3) n3 q3,
        fun S3 σ3 W3 H3 r3 z3 e3 q3 => k.nx S3 σ3 W3 H3 r3 z3 (((s1.I.trans e').trans e2).trans e3) q3, fun S3 σ3 W3 H3 r3 z3 e3 q3 => ⟨S3, W3, r3, z3, (e'.trans e2).trans e3, q3⟩⟩
    · rintro σ' H' ⟨S', W', r', z', e', i'⟩
      rw [← m.length] at i'
      exact k.nx S' σ' W' H' r' z' (s1.I.trans e') (hd S' i')
theorem sd_forR {tg : Expr} {p pos1 : Pos} {n : Int} {body : List Stmt} (hp : PassesOwn (model X.prog X.w) X.A X.env X.xe) (hc : X.calm = true) (hm : X.mg "range" = none) (Inv : Nat → En → Prop) (h : AD X B S [e] fun as => as = [.val (.int n)] ∧ n < 2 ^ 62 ∧ -(2 ^ 62) ≤ n ∧ Inv 0 S)
    (hs : ∀ (i : Nat) S', i < n.toNat → Inv i S' → GD X B W0 S' tg (.int i) fun S2 => SDs X B W0 S2 body { nx := Inv (i + 1), rt := E.rt, bk := E.nx, ct := Inv (i + 1) })
    (hd : ∀ S', Inv n.toNat S' → E.nx S') (hg : Gl X "range" := by rfl) (hst : starEach [e] X.env = [(false, eval e X.env)] := by rfl) (hf : ∀ x, foldedSetIterable (.Call (.Name "range" p) [e] [] pos1) X.env x = pure x := by intro _; rfl) : SD X B W0 S (.For tg (.Call (.Name "range" p) [e] [] pos1) body [] pos) E := fun σ W H r z D' k => by
  refine PS.w (ps_for hp hc (pi_range1 hg hm wa_pa hst) wg_pg wss_pss hf) ?_
  refine h σ W H r _ fun as vs W1 H1 s1 ok1 n1 q1 => ?_
  obtain ⟨rfl, hn, hn2, i0⟩ := q1
  obtain ⟨v, rfl, m⟩ := one_arg n1
  cases m
  refine ⟨n, rfl, hn2, hn, for_range (lo := 0) (n := n.toNat) (fun i σ' H' => ∃ S' W', Rep X.K (gOf X) B S' σ' W' H' ∧ Stp W0 B W' H' ∧ Ex W1.I W'.I ∧ Inv i S') ⟨S, W1, r.step s1 ok1, z.trans r.ok s1, Ex.refl _, i0⟩ ?_ ?_⟩
  · rintro i σ' H' hi ⟨S', W', r', z', e', i'⟩
    rw [Int.zero_add]
    refine hs i S' hi i' σ' W' H' _ r' z' (.int _) _ fun S2 σ2 W2 H2 r2 z2 e2 q2 => ?_
    exact q2 σ2 W2 H2 r2 z2 _ ⟨fun S3 σ3 W3 H3 r3 z3 e3 q3 => ⟨S3, W3, r3, z3, (e'.trans e2).trans e3, q3⟩, fun d3 v3 W3 H3 r3 z3 e3 n3 q3 => k.rt d3 v3 W3 H3 r3 z3 (((s1.I.trans e').trans e2).trans e3) n3 q3,
      fun S3 σ3 W3 H3 r3 z3 e3 q3 => k.nx S3 σ3 W3 H3 r3 z3 (((s1.I.trans e').trans e2).trans e3) q3, fun S3 σ3 W3 H3 r3 z3 e3 q3 => ⟨S3, W3, r3, z3, (e'.trans e2).trans e3, q3⟩⟩
  · rintro σ' H' ⟨S', W', r', z', e', i'⟩
    exact k.nx S' σ' W' H' r' z' (s1.I.trans e') (hd S' i')
theorem sd_while {c : Expr} {body : List Stmt} (hp : PassesOwn (model X.prog X.w) X.A X.env X.xe) (Inv : Nat → En → Prop) (m0 : Nat) (h0 : Inv m0 S)
    (hs : ∀ m S', Inv m S' → TD X B S' c fun t => if t = true then SDs X B W0 S' body { nx := fun S2 => ∃ m', m' < m ∧ Inv m' S2, rt := E.rt, bk := E.nx, ct := fun S2 => ∃ m', m' < m ∧ Inv m' S2 } else E.nx S') :
    SD X B W0 S (.While c body [] pos) E := fun σ W H r z D' k => by
  refine PS.w (ps_while hp wt_pt wss_pss) ⟨fun m σ' H' => ∃ S' W', Rep X.K (gOf X) B S' σ' W' H' ∧ Stp W0 B W' H' ∧ Ex W.I W'.I ∧ Inv m S', ⟨m0, S, W, r, z, Ex.refl _, h0⟩, ?_⟩
  rintro m σ1 H1 ⟨S1, W1, r1, z1, e1, i1⟩
  refine hs m S1 i1 σ1 W1 H1 r1 _ fun t W2 H2 s2 ok2 q2 => ?_
  cases t with
  | false => exact iteF (k.nx S1 σ1 W2 H2 (r1.step s2 ok2) (z1.trans r1.ok s2) (e1.trans s2.I) (by simpa using q2))
  | true =>
    have q2 : SDs X B W0 S1 body { nx := fun S2 => ∃ m', m' < m ∧ Inv m' S2, rt := E.rt, bk := E.nx, ct := fun S2 => ∃ m', m' < m ∧ Inv m' S2 } := by simpa using q2
    refine iteT ⟨fun σ' H' => ∃ m', m' < m ∧ ∃ S' W', Rep X.K (gOf X) B S' σ' W' H' ∧ Stp W0 B W' H' ∧ Ex W.I W'.I ∧ Inv m' S', fun σ' H' h => h, ?_⟩
    exact q2 σ1 W2 H2 (r1.step s2 ok2) (z1.trans r1.ok s2) _ ⟨fun S3 σ3 W3 H3 r3 z3 e3 ⟨m', hm, q3⟩ => ⟨m', hm, S3, W3, r3, z3, (e1.trans s2.I).trans e3, q3⟩, fun d3 v3 W3 H3 r3 z3 e3 n3 q3 => k.rt d3 v3 W3 H3 r3 z3 ((e1.trans s2.I).trans e3) n3 q3,
      fun S3 σ3 W3 H3 r3 z3 e3 q3 => k.nx S3 σ3 W3 H3 r3 z3 ((e1.trans s2.I).trans e3) q3, fun S3 σ3 W3 H3 r3 z3 e3 ⟨m', hm, q3⟩ => ⟨m', hm, S3, W3, r3, z3, (e1.trans s2.I).trans e3, q3⟩⟩
end

/-! ### a def by its body -/
def startE (N : List Str) (as : List Sl) : En := as.map some ++ List.replicate (N.length - as.length) none
theorem start_noT {K : PySem.W.Frag} {W : Wd} {N : List Str} {as : List Sl} {vs : List V} (h : Args K W as vs) (i : Nat) (l : List (List Key × D)) : (startE N as)[i]? ≠ some (some (.ownT l)) := by
  have key : ∀ {as : List Sl} {vs : List V} {n : Nat} {i : Nat}, Args K W as vs → (as.map some ++ List.replicate n none)[i]? = some (some (Sl.ownT l)) → False := by
    intro as vs n i h
    induction h generalizing i with
    | nil =>
      intro e
      simp only [List.map_nil, List.nil_append, List.getElem?_replicate] at e
      split at e <;> cases e
    | @cons a v as vs h1 _ ih =>
      intro e
      cases i with
      | zero =>
        simp only [List.map_cons, List.cons_append, List.getElem?_cons_zero, Option.some.injEq] at e
        subst e
        exact h1
      | succ i =>
        simp only [List.map_cons, List.cons_append, List.getElem?_cons_succ] at e
        exact ih e
  exact fun e => key h e
theorem rep_start {K : PySem.W.Frag} {g : List Code} {W : Wd} {H : Hp} {N : List Str} {as : List Sl} {vs : List V} (ok : Ok g W H) (h : Args K W as vs) : Rep K g H (startE N as) (L2.start N vs) W H := by
  have hl := Paired.length h
  refine ⟨ok, fun b hb => (ok.gd b hb).2.1, by unfold startE L2.start; simp [hl], fun i s e => ?_, fun i j l m p _ e => ?_, fun i j l m p _ e => absurd e (start_noT h i l)⟩
  · have key : ∀ {as : List Sl} {vs : List V} {n : Nat} {i : Nat} {s : Sl}, Args K W as vs → (as.map some ++ List.replicate n none)[i]? = some (some s) → ∃ v, (vs.map some ++ List.replicate n none)[i]? = some (some v) ∧ Arg K W s v := by
      intro as vs n i s h
      induction h generalizing i with
      | nil =>
        intro e
        simp only [List.map_nil, List.nil_append, List.getElem?_replicate] at e
        split at e <;> cases e
      | @cons a v as vs h1 _ ih =>
        intro e
        cases i with
        | zero =>
          simp only [List.map_cons, List.cons_append, List.getElem?_cons_zero, Option.some.injEq] at e
          subst e
          exact ⟨v, rfl, h1⟩
        | succ i =>
          simp only [List.map_cons, List.cons_append, List.getElem?_cons_succ] at e ⊢
          exact ih e
    unfold startE at e
    rw [show N.length - as.length = N.length - vs.length by rw [hl]] at e
    obtain ⟨v, e1, a1⟩ := key h e
    refine ⟨v, e1, ?_⟩
    cases s with
    | val d => exact a1
    | pot => exact a1
    | own l => exact a1.elim
    | inst _ _ _ _ => exact a1.elim
    | ownT _ => exact a1.elim
  · exfalso
    have key : ∀ {as : List Sl} {vs : List V} {n : Nat} {i : Nat}, Args K W as vs → (as.map some ++ List.replicate n none)[i]? = some (some (.own l)) → False := by
      intro as vs n i h
      induction h generalizing i with
      | nil =>
        intro e
        simp only [List.map_nil, List.nil_append, List.getElem?_replicate] at e
        split at e <;> cases e
      | @cons a v as vs h1 _ ih =>
        intro e
        cases i with
        | zero =>
          simp only [List.map_cons, List.cons_append, List.getElem?_cons_zero, Option.some.injEq] at e
          subst e
          exact h1
        | succ i =>
          simp only [List.map_cons, List.cons_append, List.getElem?_cons_succ] at e
          exact ih e
    exact key h e
section
variable {P : Program} {w : World} {K : PySem.W.Frag} {mg : Str → Option Value} {base : Heap}
theorem gOf_bx {N : List Str} {qual : Str} {st : Stmt} {f : Addr} {cdv : Value} {A : Around} {outer : List Env} {s : Shared} {H : Hp} {g : List Code} (h : A.guards = some g) : (Bx P w K mg base N qual st f cdv A outer s H).A.guards = some g ∧ gOf (Bx P w K mg base N qual st f cdv A outer s H) = g :=
  have e : (Bx P w K mg base N qual st f cdv A outer s H).A.guards = some g := deeper_guards h
  ⟨e, by unfold gOf; rw [e]; rfl⟩
theorem gn_dl {x qual : Str} {st : Stmt} {f : Addr} {fd : FuncData} {N ps : List Str} {k : Nat} {sp : SpD} (F : FunS K x qual st f fd) (hS : FnScope N ps (defScope st)) (len : ∀ as Q, sp as Q → as.length = ps.length)
    (body : ∀ cdv A outer s H, Room k (A.deeper (PyProof.Rows.envOfC qual (defScope st) s.heap.objs.size f cdv)) → (Bx P w K mg base N qual st f cdv A outer s H).A.guards = some (gOf (Bx P w K mg base N qual st f cdv A outer s H)) → ∀ W as Q, sp as Q → SDs (Bx P w K mg base N qual st f cdv A outer s H) H W (startE N as) (defBody st) { nx := fun _ => Q .non, rt := Q }) :
    GnOk P w K mg base (k + 1) f fd ps (lift K sp) := by
  refine gn_of F hS (fun g vs H Q h => ?_) (fun cdv A outer s H g vs R hr hG h => ?_)
  · obtain ⟨as, W, Qd, _, ha, hsp, _⟩ := h
    rw [← len _ _ hsp]
    exact (Paired.length ha).symm
  · obtain ⟨as, W, Qd, ok, ha, hsp, c⟩ := h
    obtain ⟨e1, e2⟩ := gOf_bx (P := P) (w := w) (K := K) (mg := mg) (base := base) (N := N) (qual := qual) (st := st) (f := f) (cdv := cdv) (outer := outer) (s := s) (H := H) hG
    refine ⟨WSs _ (defBody st), wss_pss, ?_⟩
    have bd := body cdv A outer s H hr (by rw [e2]; exact e1) W as Qd hsp
    refine bd (L2.start N vs) W H (by rw [e2]; exact rep_start ok ha) Stp.refl _ ?_
    rw [e2]
    exact ⟨fun S σ W' H' r z _ q => c .non .non W' H' z r.ok .non q, fun d v W' H' ok' z _ n q => c d v W' H' z ok' n q, fun _ _ _ _ _ _ _ q => q.elim, fun _ _ _ _ _ _ _ q => q.elim⟩
theorem df_of {x qual : Str} {st : Stmt} {f : Addr} {fd : FuncData} {ps : List Str} {k n : Nat} {sp : SpD} (F : FunS K x qual st f fd) (h : GnOk P w K mg base k f fd ps (lift K sp)) (hm : mg x = some (.ref f)) (hb : Binds K fd ps []) (hn : ps.length = n) : Df P w K mg base x k n sp :=
  ⟨f, fd, ps, h, hm, F.kp, hb, hn⟩
end
end DL

set_option Elab.async false
set_option linter.all false
set_option maxRecDepth 100000
set_option maxHeartbeats 2000000
namespace DL
open PySem L2

/-! ### lists that one name owns -/
theorem Ok.frz {g : List Code} {W : Wd} {H : Hp} {p : Addr} {o : HO} (ok : Ok g W H) (hp : H p = some o) (n : ¬ W.P p) (ng : ¬ InG g p) : Ok g (W.new p o) H where
  gd := fun b hb => by
    obtain ⟨n1, n2⟩ := ok.gd b hb
    refine ⟨?_, n2⟩
    show upd W.I p o b = none
    have ne : b ≠ p := fun z => ng (z ▸ hb)
    rw [upd_ne ne]
    exact n1
  ex := fun a u e => by
    have e' : upd W.I p o a = some u := e
    by_cases q : a = p
    · subst q
      rw [upd_same] at e'
      cases e'
      exact hp
    · rw [upd_ne q] at e'
      exact ok.ex a u e'
  pot := fun a pa => by
    obtain ⟨h, x⟩ := ok.pot a pa
    refine ⟨?_, x⟩
    show upd W.I p o a = none
    have ne : a ≠ p := fun z => n (z ▸ pa)
    rw [upd_ne ne]
    exact h
theorem Stp.frz {W W1 : Wd} {H H1 : Hp} {p : Addr} {o : HO} (a : Stp W H W1 H1) (hp : H p = none) (i : W1.I p = none) : Stp W H (W1.new p o) H1 where
  I := a.I.trans (Ex.new i)
  P := a.P
  keep := a.keep
  old := fun b u e t n => by
    show upd W1.I p o b = none
    rw [upd_ne (ne_of_none e hp)]
    exact a.old b u e t n
  oldP := a.oldP
/-- a new list, not yet part of what never changes -/
def ContF (K : PySem.W.Frag) (g : List Code) (W : Wd) (H : Hp) (Q : List D → Prop) (R : VK) : Prop := ∀ l p xs W' H', Stp W H W' H' → Ok g W' H' → H p = none → ¬ W'.P p → W'.I p = none → H' p = some (.lst xs) → Dns K W'.I l xs → Q l → R (.ref p) H'
def FD (X : Cx) (B : Hp) (S : En) (e : Expr) (Q : List D → Prop) : Prop := ∀ σ W H, Rep X.K (gOf X) B S σ W H → ∀ R, ContF X.K (gOf X) W H Q R → WE X e σ H R
/-- a tuple or a name: how an item comes to the names of a comprehension -/
def wipeE (S : En) : List Nat → En
  | [] => S
  | v :: vs => (wipeE S vs).set v none
theorem wipeE_some {S : En} {i : Nat} {x : Sl} : ∀ {vs : List Nat}, (wipeE S vs)[i]? = some (some x) → S[i]? = some (some x) ∧ i ∉ vs
  | [], h => ⟨h, by simp⟩
  | v :: vs, h => by
    unfold wipeE at h
    by_cases hi : v = i
    · subst hi
      by_cases hv : v < (wipeE S vs).length
      · rw [List.getElem?_set_self hv] at h; cases h
      · rw [List.getElem?_eq_none (by simpa using hv)] at h; cases h
    · rw [List.getElem?_set_ne hi] at h
      obtain ⟨h1, h2⟩ := wipeE_some h
      exact ⟨h1, by simp only [List.mem_cons, not_or]; exact ⟨fun e => hi e.symm, h2⟩⟩
theorem wipeE_length (S : En) : ∀ vs : List Nat, (wipeE S vs).length = S.length
  | [] => rfl
  | v :: vs => by unfold wipeE; rw [List.length_set, wipeE_length S vs]
theorem wipe_keep {σ : L2.St} {i : Nat} {x : V} : ∀ {vs : List Nat}, i ∉ vs → σ[i]? = some (some x) → (wipe σ vs)[i]? = some (some x)
  | [], _, h => h
  | v :: vs, hi, h => by
    unfold wipe
    simp only [List.mem_cons, not_or] at hi
    rw [List.getElem?_set_ne (fun e => hi.1 e.symm)]
    exact wipe_keep hi.2 h
theorem Rep.wipe {K : PySem.W.Frag} {g : List Code} {B : Hp} {S : En} {σ : L2.St} {W : Wd} {H : Hp} (r : Rep K g B S σ W H) (vs : List Nat) : Rep K g B (wipeE S vs) (L2.wipe σ vs) W H where
  ok := r.ok
  gb := r.gb
  len := by rw [wipeE_length, wipe_length]; exact r.len
  sl := fun i s e => by
    obtain ⟨e1, hi⟩ := wipeE_some e
    obtain ⟨v, e2, h⟩ := r.sl i s e1
    exact ⟨v, wipe_keep hi e2, h⟩
  dist := fun i j l m p n e1 e2 e3 => by
    obtain ⟨e1', _⟩ := wipeE_some e1
    obtain ⟨e2', hj⟩ := wipeE_some e2
    obtain ⟨e3', _⟩ := wipe_some e3
    intro e4
    obtain ⟨e4', _⟩ := wipe_some e4
    exact r.dist i j l m p n e1' e2' e3' e4'
  distT := fun i j l m p n e1 e2 e3 => by
    obtain ⟨e1', _⟩ := wipeE_some e1
    obtain ⟨e2', hj⟩ := wipeE_some e2
    obtain ⟨e3', _⟩ := wipe_some e3
    intro e4
    obtain ⟨e4', _⟩ := wipe_some e4
    exact r.distT i j l m p n e1' e2' e3' e4'
theorem wipe_set {σ : L2.St} {j : Nat} {x : Option V} : ∀ {vs : List Nat}, j ∈ vs → L2.wipe (σ.set j x) vs = L2.wipe σ vs
  | v :: vs, h => by
    unfold L2.wipe
    by_cases hv : j ∈ vs
    · rw [wipe_set hv]
    · have e : v = j := by
        rcases List.mem_cons.mp h with z | z
        · exact z.symm
        · exact absurd z hv
      subst e
      have key : ∀ ws : List Nat, v ∉ ws → L2.wipe (σ.set v x) ws = (L2.wipe σ ws).set v x := by
        intro ws
        induction ws with
        | nil => intro _; rfl
        | cons a ws ih =>
          intro hn
          simp only [List.mem_cons, not_or] at hn
          unfold L2.wipe
          rw [ih hn.2, List.set_comm _ _ (fun e => hn.1 e)]
      rw [key vs hv, List.set_set]
theorem wipe_wipe {σ : L2.St} {vs : List Nat} : L2.wipe (L2.wipe σ vs) vs = L2.wipe σ vs := by
  have key : ∀ ws : List Nat, (∀ w ∈ ws, w ∈ vs) → L2.wipe (L2.wipe σ ws) vs = L2.wipe σ vs := by
    intro ws
    induction ws with
    | nil => intro _; rfl
    | cons a ws ih =>
      intro h
      show L2.wipe ((L2.wipe σ ws).set a none) vs = _
      rw [wipe_set (h a List.mem_cons_self)]
      exact ih fun w hw => h w (List.mem_cons_of_mem _ hw)
  exact key vs fun _ h => h
/-- how the item d comes to the names in the slots vs: what the block then knows -/
def Pat (K : PySem.W.Frag) (g : TG) (vs : List Nat) (S : En) (d : D) (S' : En) : Prop := ∀ gs B σ W H v, Rep K gs B S σ W H → Dn K W.I d v → ∀ Q : L2.St → Hp → Prop, (∀ σ2, L2.wipe σ2 vs = L2.wipe σ vs → Rep K gs B S' σ2 W H → Q σ2 H) → g v (L2.wipe σ vs) H Q
theorem pat_name {K : PySem.W.Frag} {S : En} {d : D} {vs : List Nat} (j : Nat) (hj : j ∈ vs) : Pat K (gName j) vs S d ((wipeE S vs).set j (some (.val d))) := fun _ B σ W H v r n Q k =>
  k _ (by rw [wipe_set hj, wipe_wipe]) ((r.wipe vs).set n)
theorem pat_two {K : PySem.W.Frag} {S : En} {d d' : D} {vs : List Nat} (i j : Nat) (hi : i ∈ vs) (hj : j ∈ vs) : Pat K (gTup K 2 (gCons (gName i) (gCons (gName j) gNil))) vs S (.tup [d, d']) (((wipeE S vs).set i (some (.val d))).set j (some (.val d'))) := fun _ B σ W H v r n Q k => by
  cases n with
  | tup hp m =>
    cases m with
    | cons n1 m => cases m with
      | cons n2 m =>
        cases m
        exact ⟨_, _, rfl, SqT.of (r.ok.ex _ _ hp), rfl, _, _, rfl, _, _, rfl, rfl, k _ (by rw [wipe_set hj, wipe_set hi, wipe_wipe]) (((r.wipe vs).set n1).set n2)⟩
section
variable {X : Cx} {B : Hp} {W0 : Wd} {S : En} {e a b : Expr} {es : List Expr} {pos : Pos} {E : Ends'}
theorem ed_fd {Q : D → Prop} (h : FD X B S e fun l => Q (.lst l)) : ED X B S e Q := fun σ W H r R k => by
  refine h σ W H r R fun l p xs W' H' st ok hp n i hl d q => ?_
  exact k (.lst l) (.ref p) _ H' (st.frz hp i) (ok.frz hl n fun z => (r.ok.gd _ z).2.1 hp) (.lst (show upd W'.I p _ p = _ from upd_same) (d.mono (Ex.new i))) q
theorem fd_lst {Q : List D → Prop} (h : AD X B S es fun as => ∃ ds, as = ds.map Sl.val ∧ ds.length ≤ 100000 ∧ Q ds) : FD X B S (.List es pos) Q := fun σ W H r R k => by
  refine PE.w (pe_lst wa_pa) ?_
  refine h σ W H r _ fun as vs W1 H1 s1 ok1 n1 q1 => ?_
  obtain ⟨ds, rfl, hl, q1⟩ := q1
  have n := n1.vals
  refine ⟨Nat.le_trans (n.length ▸ hl) (by decide), fun p hp => ?_⟩
  exact k ds p vs W1 _ (s1.trans ok1 (Stp.own hp)) (ok1.own hp) (s1.free ok1 hp) (ok1.notP hp) (ok1.free hp) upd_same n q1
/-- x = a new list, which x owns -/
theorem Rep.setOwn {K : PySem.W.Frag} {g : List Code} {σ : L2.St} {W : Wd} {H : Hp} {i : Nat} {l : List D} {p : Addr} {xs : List V} (r : Rep K g B S σ W H) (hB : B p = none) (n : ¬ W.P p) (hi : W.I p = none) (hp : H p = some (.lst xs)) (d : Dns K W.I l xs)
    (new : ∀ (j : Nat) (m : List D), S[j]? = some (some (.own m)) → σ[j]? ≠ some (some (.ref p))) : Rep K g B (S.set i (some (.own l))) (σ.set i (some (.ref p))) W H where
  ok := r.ok
  gb := r.gb
  len := by simpa using r.len
  sl := fun j s e => by
    by_cases q : i = j
    · subst q
      by_cases z : i < S.length
      · rw [List.getElem?_set_self z] at e
        cases e
        exact ⟨_, List.getElem?_set_self (r.len ▸ z), p, xs, rfl, hB, n, hi, hp, d⟩
      · rw [List.getElem?_eq_none (by simpa using z)] at e
        cases e
    · rw [List.getElem?_set_ne q] at e ⊢
      exact r.sl j s e
  dist := fun a b la lb q ne e1 e2 e3 => by
    by_cases qa : i = a
    · subst qa
      have lt : i < σ.length := by
        rcases Nat.lt_or_ge i σ.length with z | z
        · exact z
        · rw [List.getElem?_eq_none (by simpa using z)] at e3; cases e3
      rw [List.getElem?_set_self lt] at e3
      cases e3
      rw [List.getElem?_set_ne ne] at e2 ⊢
      exact new b lb e2
    · rw [List.getElem?_set_ne qa] at e1 e3
      by_cases qb : i = b
      · subst qb
        intro e4
        have lt : i < σ.length := by
          rcases Nat.lt_or_ge i σ.length with z | z
          · exact z
          · rw [List.getElem?_eq_none (by simpa using z)] at e4; cases e4
        rw [List.getElem?_set_self lt] at e4
        cases e4
        exact new a la e1 e3
      · rw [List.getElem?_set_ne qb] at e2 ⊢
        exact r.dist a b la lb q ne e1 e2 e3
  distT := r.distT.set i fun l z => by cases z
theorem sd_own {x : Str} {pos' : Pos} (i : Nat) (hN : X.N.Nodup) (hi : X.N[i]? = some x) (h : FD X B S e fun l => E.nx (S.set i (some (.own l)))) (hx : Loc X.env.scope x := by first | exact Or.inl rfl | exact Or.inr rfl)
    (hs : swapsWith e (some (.Name x pos')) pos.line X.env = pure false := by rfl) (hf : X.fn x = true ∨ X.env.scope.names.lookup x = some .local := by first | exact .inl rfl | exact .inr rfl) : SD X B W0 S (.Assign [.Name x pos'] e pos) E := fun σ W H r z D' k =>
  PS.w (ps_set hN hi hx we_pe hs hf) (h σ W H r _ fun l p xs W1 H1 s1 ok1 hp n i1 hl d q1 => k.nx _ _ W1 H1 ((r.step s1 ok1).setOwn (z.free r.ok hp) n i1 hl d fun j m e1 e2 => by
    obtain ⟨v, e3, p2, ys, e4, _, _, _, h4, _⟩ := r.sl j _ e1
    rw [e2] at e3
    cases e3
    cases e4
    rw [hp] at h4
    cases h4) (z.trans r.ok s1) s1.I q1)
/-- x.append(e), x the owner of its list -/
theorem sd_append {x : Str} {px apos cpos : Pos} (i : Nat) (l : List D) (hN : X.N[i]? = some x) (h : S[i]? = some (some (.own l))) (hl : l.length < 100000) (he : ED X B S e fun d => E.nx (S.set i (some (.own (l ++ [d])))))
    (hv : Vis X.env.scope x := by first | exact Or.inl rfl | exact Or.inr (Or.inl rfl) | exact Or.inr (Or.inr rfl)) (hd : (x == ("__debug__" : Str)) = false := by decide) (hcd : (x == ("__classdict__" : Str)) = false := by decide)
    (hps : PE X (.Call (.Attribute (.Name x px) "append" apos) [e] [] cpos) (tBM X.K "list" rAppend (tVar i) (tCons (WE X e) tNil)) := by
      exact pe_bm PySem.F.plainAttrs_list PySem.F.slot_list_append PySem.F.type_list_append mt_append (pe_var (by rfl) (by first | exact Or.inl rfl | exact Or.inr (Or.inl rfl) | exact Or.inr (Or.inr rfl))) (pa_cons DL.we_pe pa_nil))
    (hs : swapsWith (.Call (.Attribute (.Name x px) "append" apos) [e] [] cpos) none pos.line X.env = pure false := by rfl) : SD X B W0 S (.Expr (.Call (.Attribute (.Name x px) "append" apos) [e] [] cpos) pos) E := fun σ W H r z D' k => by
  refine PS.w (ps_expr hps hs) ?_
  obtain ⟨v, e1, p, xs, ev, hB, n, hI, hH, d0⟩ := r.sl i _ h
  subst ev
  refine ⟨_, e1, .inl ⟨rfl, _, SqL.of hH⟩, ?_⟩
  refine he σ W H r _ fun d v W1 H1 s1 ok1 n1 q1 => ?_
  have hH1 : H1 p = some (.lst xs) := s1.keep _ _ hH n
  have nP : ¬ W1.P p := fun q => n (s1.oldP p _ hH q)
  have hI1 : W1.I p = none := s1.old p _ hH (fun _ z => by cases z) hI
  refine ⟨p, xs, v, rfl, rfl, hH1, Nat.lt_of_lt_of_le (d0.length ▸ hl) (by decide), ?_⟩
  have ok2 : Ok (gOf X) W1 (upd H1 p (.lst (xs ++ [v]))) := {
    gd := fun b hb => by
      obtain ⟨n1, n2⟩ := ok1.gd b hb
      refine ⟨n1, ?_⟩
      by_cases q : b = p
      · subst q
        rw [upd_same]
        exact ⟨(fun z => by cases z), (fun _ z => by cases z)⟩
      · rw [upd_ne q]
        exact n2
    ex := fun b o hb => by
      rw [upd_ne (fun y => by rw [y, hI1] at hb; cases hb)]
      exact ok1.ex b o hb
    pot := fun b hb => by
      obtain ⟨nb, y2, w2, h2⟩ := ok1.pot b hb
      have ne : b ≠ p := fun y => nP (y ▸ hb)
      exact ⟨nb, y2, w2, by rw [upd_ne ne]; exact h2⟩ }
  have z1 := z.trans r.ok s1
  have z2 : Stp W0 B W1 (upd H1 p (.lst (xs ++ [v]))) := ⟨z1.I, z1.P, fun b o hb hn => by rw [upd_ne (ne_of_none hb hB)]; exact z1.keep b o hb hn, z1.old, z1.oldP⟩
  have r1 := r.step s1 ok1
  have lt : i < S.length := (List.getElem?_eq_some_iff.mp h).1
  refine k.nx _ σ W1 _ ?_ z2 s1.I q1
  refine ⟨ok2, r.gb, by simpa using r.len, fun j s ej => ?_, fun a b la lb q ne e2 e3 e4 => ?_, r.distT.setS i fun l z => by cases z⟩
  · by_cases q : i = j
    · subst q
      rw [List.getElem?_set_self lt] at ej
      cases ej
      exact ⟨_, e1, p, _, rfl, hB, nP, hI1, upd_same, (d0.mono s1.I).append (.cons n1 .nil)⟩
    · rw [List.getElem?_set_ne q] at ej
      obtain ⟨v2, e2, h2⟩ := r1.sl j s ej
      refine ⟨v2, e2, ?_⟩
      cases s with
      | val d2 => exact h2
      | pot => exact h2
      | own m =>
        obtain ⟨p2, ys, rfl, b1, b2, b3, b4, b5⟩ := h2
        refine ⟨p2, ys, rfl, b1, b2, b3, ?_, b5⟩
        rw [upd_ne (fun y => by
          rw [y] at e2
          exact r.dist i j l m p q h ej e1 e2)]
        exact b4
      | ownT m =>
        obtain ⟨p2, ys, rfl, b1, b2, b3, b4, b5⟩ := h2
        refine ⟨p2, ys, rfl, b1, b2, b3, ?_, b5⟩
        rw [upd_ne (fun y => by rw [y, hH1] at b4; cases b4)]
        exact b4
      | inst C p2 dx fs =>
        obtain ⟨vs, rfl, b1, b2, b3, b4, b5, b6, b7, b8, b9, b10⟩ := h2
        refine ⟨vs, rfl, b1, b2, b3, b4, b5, b6, b7, ?_, ?_, b10⟩
        · rw [upd_ne (fun y => by rw [y, hH1] at b8; cases b8)]
          exact b8
        · rw [upd_ne (fun y => by rw [y, hH1] at b9; cases b9)]
          exact b9
  · have g : ∀ {c : Nat} {m : List D}, (S.set i (some (.own (l ++ [d]))))[c]? = some (some (.own m)) → ∃ m', S[c]? = some (some (.own m')) := fun {c m} ec => by
      by_cases q2 : i = c
      · subst q2
        exact ⟨l, h⟩
      · rw [List.getElem?_set_ne q2] at ec
        exact ⟨m, ec⟩
    obtain ⟨m1, g1⟩ := g e2
    obtain ⟨m2, g2⟩ := g e3
    exact r.dist a b m1 m2 q ne g1 g2 e4
/-- what a name owns is given away: from here on it never changes -/
theorem sds_frz {sts : List Stmt} (i : Nat) (l : List D) (h : S[i]? = some (some (.own l))) (k : SDs X B W0 (S.set i (some (.val (.lst l)))) sts E) : SDs X B W0 S sts E := fun σ W H r z D' q => by
  obtain ⟨v, e1, p, xs, ev, hB, n, hI, hH, d0⟩ := r.sl i _ h
  subst ev
  have st : Stp W0 B (W.new p (.lst xs)) H := z.frz hB hI
  have ok := r.ok.frz hH n fun z => r.gb _ z hB
  have lt : i < S.length := (List.getElem?_eq_some_iff.mp h).1
  refine k σ (W.new p (.lst xs)) H ?_ st D' (q.mono (Ex.new hI))
  refine ⟨ok, r.gb, by simpa using r.len, fun j s ej => ?_, fun a b la lb c ne e2 e3 e4 => ?_, r.distT.setS i fun l z => by cases z⟩
  · by_cases y : i = j
    · subst y
      rw [List.getElem?_set_self lt] at ej
      cases ej
      exact ⟨_, e1, .lst (show upd W.I p _ p = _ from upd_same) (d0.mono (Ex.new hI))⟩
    · rw [List.getElem?_set_ne y] at ej
      obtain ⟨v2, e2, h2⟩ := r.sl j s ej
      refine ⟨v2, e2, ?_⟩
      cases s with
      | val d2 => exact Dn.mono (Ex.new hI) h2
      | pot => exact h2
      | own m =>
        obtain ⟨p2, ys, rfl, b1, b2, b3, b4, b5⟩ := h2
        refine ⟨p2, ys, rfl, b1, b2, ?_, b4, b5.mono (Ex.new hI)⟩
        show upd W.I p _ p2 = none
        rw [upd_ne (fun y2 => by
          rw [y2] at e2
          exact r.dist i j l m p y h ej e1 e2)]
        exact b3
      | ownT m =>
        obtain ⟨p2, ys, rfl, b1, b2, b3, b4, b5⟩ := h2
        refine ⟨p2, ys, rfl, b1, b2, ?_, b4, b5.mono (Ex.new hI)⟩
        show upd W.I p _ p2 = none
        rw [upd_ne (fun y2 => by rw [y2, hH] at b4; cases b4)]
        exact b3
      | inst C p2 dx fs =>
        obtain ⟨vs, rfl, b1, b2, b3, b4, b5, b6, b7, b8, b9, b10⟩ := h2
        refine ⟨vs, rfl, b1, b2, b3, b4, b5, ?_, ?_, b8, b9, b10.mono (Ex.new hI)⟩
        · show upd W.I p _ p2 = none
          rw [upd_ne (fun y => by rw [y, hH] at b8; cases b8)]
          exact b6
        · show upd W.I p _ dx = none
          rw [upd_ne (fun y => by rw [y, hH] at b9; cases b9)]
          exact b7
  · have g : ∀ {c : Nat} {m : List D}, (S.set i (some (.val (.lst l))))[c]? = some (some (.own m)) → S[c]? = some (some (.own m)) := fun {c m} ec => by
      by_cases q2 : i = c
      · subst q2
        rw [List.getElem?_set_self lt] at ec
        cases ec
      · rw [List.getElem?_set_ne q2] at ec
        exact ec
    exact r.dist a b la lb c ne (g e2) (g e3) e4

/-! ### comprehensions -/
/-- the weakest reading over all blocks -/
def WEb (X : Cx) (scope : Scope) (e : Expr) : TE := fun σ H Q => ∀ (s : Shared) (H0 : Hp) (C : Addr) (cl : List (Str × Addr)) (fp : List Addr), WE (X.blk s H0 scope (compEnvC scope cl C X.env) fp) e σ H Q
def WTb (X : Cx) (scope : Scope) (e : Expr) : TT := fun σ H Q => ∀ (s : Shared) (H0 : Hp) (C : Addr) (cl : List (Str × Addr)) (fp : List Addr), WT (X.blk s H0 scope (compEnvC scope cl C X.env) fp) e σ H Q
theorem web_pe {scope : Scope} (s : Shared) (H0 : Hp) (C : Addr) (cl : List (Str × Addr)) (fp : List Addr) : PE (X.blk s H0 scope (compEnvC scope cl C X.env) fp) e (WEb X scope e) := ⟨fun pins s2 _ _ _ I h => h s H0 C cl fp pins s2 I⟩
theorem wtb_pt {scope : Scope} (s : Shared) (H0 : Hp) (C : Addr) (cl : List (Str × Addr)) (fp : List Addr) : PT (X.blk s H0 scope (compEnvC scope cl C X.env) fp) e (WTb X scope e) := ⟨fun pins s2 _ _ _ I h => h s H0 C cl fp pins s2 I⟩
/-- at an address of one's own: the list so far -/
structure Mid (K : PySem.W.Frag) (g : List Code) (W1 : Wd) (H1 : Hp) (p : Addr) (l : List D) (W : Wd) (H : Hp) : Prop where
  st : Stp W1 H1 W H
  ok : Ok g W H
  n : ¬ W.P p
  i : W.I p = none
  h : ∃ xs, H p = some (.lst xs) ∧ Dns K W.I l xs
theorem Mid.step {K : PySem.W.Frag} {g : List Code} {W1 W W2 : Wd} {H1 H H2 : Hp} {p : Addr} {l : List D} (m : Mid K g W1 H1 p l W H) (a : Stp W H W2 H2) (ok : Ok g W2 H2) : Mid K g W1 H1 p l W2 H2 := by
  obtain ⟨xs, hp, d⟩ := m.h
  exact ⟨m.st.trans m.ok a, ok, fun z => m.n (a.oldP p _ hp z), a.old p _ hp (fun _ z => by cases z) m.i, xs, a.keep p _ hp m.n, d.mono a.I⟩
theorem Mid.more {K : PySem.W.Frag} {g : List Code} {W1 W : Wd} {H1 H : Hp} {p : Addr} {l : List D} {d : D} {v : V} (hp0 : H1 p = none) (m : Mid K g W1 H1 p l W H) (hd : Dn K W.I d v) (hl : l.length < 100000) :
    ∃ acc, H p = some (.lst acc) ∧ acc.length < sizeLine ∧ Mid K g W1 H1 p (l ++ [d]) W (upd H p (.lst (acc ++ [v]))) := by
  obtain ⟨xs, hp, ds⟩ := m.h
  refine ⟨xs, hp, Nat.lt_of_lt_of_le (ds.length ▸ hl) (by decide), ?_, ?_, m.n, m.i, _, upd_same, ds.append (.cons hd .nil)⟩
  · exact ⟨m.st.I, m.st.P, fun b o hb hn => by rw [upd_ne (ne_of_none hb hp0)]; exact m.st.keep b o hb hn, m.st.old, m.st.oldP⟩
  · exact {
      gd := fun b hb => by
        obtain ⟨n1, n2⟩ := m.ok.gd b hb
        refine ⟨n1, ?_⟩
        by_cases q : b = p
        · subst q
          rw [upd_same]
          exact ⟨(fun z => by cases z), (fun _ z => by cases z)⟩
        · rw [upd_ne q]
          exact n2
      ex := fun b o hb => by
        rw [upd_ne (fun y => by rw [y, m.i] at hb; cases hb)]
        exact m.ok.ex b o hb
      pot := fun b hb => by
        obtain ⟨nb, y2, w2, h2⟩ := m.ok.pot b hb
        have ne : b ≠ p := fun y => m.n (y ▸ hb)
        exact ⟨nb, y2, w2, by rw [upd_ne ne]; exact h2⟩ }
/-- [elt for g in a list], without a test -/
theorem fd_lcL {elt tg iter : Expr} {scope : Scope} {own : List (Str × Nat)} {g : TG} {l : List D} {Q : List D → Prop} (J : Nat → List D → Prop) (S' : D → En) (hc : X.calm = true) (hN : X.N.Nodup) (ok : BlkOk X.N X.env.scope scope own)
    (hg : ∀ (s : Shared) (H : Hp) (C : Addr) (cl : List (Str × Addr)) (fp : List Addr), PG (X.blk s H scope (compEnvC scope cl C X.env) fp) tg g)
    (h : ED X B S iter fun d => d = .lst l ∧ l.length ≤ 50000 ∧ J 0 []) (hp : ∀ d ∈ l, Pat X.K g (own.map (·.2)) S d (S' d))
    (he : ∀ (i : Nat) d acc, l[i]? = some d → acc.length = i → J i acc → ∀ (s : Shared) (H0 : Hp) (C : Addr) (cl : List (Str × Addr)) (fp : List Addr), ED (X.blk s H0 scope (compEnvC scope cl C X.env) fp) B (S' d) elt fun y => J (i + 1) (acc ++ [y]))
    (hd : ∀ acc, acc.length = l.length → J l.length acc → Q acc) (hs : ∀ x, foldedSetIterable iter X.env x = pure x := by intro _; rfl) : FD X B S (.ListComp elt [⟨tg, iter, [], 0⟩] scope pos) Q := fun σ W H r R k => by
  refine PE.w (pe_lc (te := WEb X scope elt) hc hN (pi_list we_pe) ok hg (fun _ _ _ _ _ => pts_nil) web_pe hs) ?_
  refine h σ W H r _ fun d v W1 H1 s1 ok1 n1 q1 => ?_
  obtain ⟨rfl, hz, j0⟩ := q1
  cases n1 with
  | @lst _ a xs ha m =>
    refine ⟨a, rfl, ⟨xs, SqL.of (ok1.ex _ _ ha)⟩, fun p hp0 => ?_⟩
    have r1 := r.step s1 ok1
    refine lc_list (K := X.K) (a := a) (xs := xs) (fun i H' => ∃ acc W', Mid X.K (gOf X) W1 H1 p acc W' H' ∧ acc.length = i ∧ J i acc) ⟨[], W1, ⟨Stp.own hp0, ok1.own hp0, ok1.notP hp0, ok1.free hp0, [], upd_same, .nil⟩, rfl, j0⟩
      (fun i H' _ ⟨acc, W', mm, _⟩ => SqL.of (mm.ok.ex _ _ (mm.st.I _ _ ha))) ?_ ?_
    · rintro i x H' hx ⟨acc, W', mm, hl, j⟩
      obtain ⟨d, hd', nd⟩ := m.get hx
      have r2 := r1.step mm.st mm.ok
      refine hp d (List.mem_of_getElem? hd') (gOf X) B σ W' H' x r2 (nd.mono mm.st.I) _ fun σ2 e2 r3 => ⟨e2, ?_⟩
      show WEb X scope elt σ2 H' _
      intro s H0 C cl fp
      refine he i d acc hd' hl j s H0 C cl fp σ2 W' H' r3 _ fun y v W2 H2 s2 ok2 n2 q2 => ?_
      have lt : i < l.length := (List.getElem?_eq_some_iff.mp hd').1
      obtain ⟨xs', e1, e3, m3⟩ := (mm.step s2 ok2).more hp0 n2 (by omega)
      exact ⟨xs', e1, e3, _, W2, m3, by simp [hl], q2⟩
    · rintro H' ⟨acc, W', mm, hl, j⟩
      obtain ⟨ys, hH, ds⟩ := mm.h
      rw [← m.length] at hl j
      exact k acc p ys W' H' (s1.trans ok1 mm.st) mm.ok (s1.free ok1 hp0) mm.n mm.i hH ds (hd acc hl j)
/-- .. over a range -/
theorem fd_lcR {elt tg : Expr} {p1 pos1 : Pos} {scope : Scope} {own : List (Str × Nat)} {n : Int} {Q : List D → Prop} (J : Nat → List D → Prop) (S' : D → En) {g : TG} (hc : X.calm = true) (hN : X.N.Nodup) (hm : X.mg "range" = none) (ok : BlkOk X.N X.env.scope scope own)
    (hg : ∀ (s : Shared) (H : Hp) (C : Addr) (cl : List (Str × Addr)) (fp : List Addr), PG (X.blk s H scope (compEnvC scope cl C X.env) fp) tg g)
    (h : AD X B S [e] fun as => as = [.val (.int n)] ∧ -(2 ^ 62) ≤ n ∧ n ≤ 50000 ∧ J 0 []) (hp : ∀ d, Pat X.K g (own.map (·.2)) S d (S' d))
    (he : ∀ (i : Nat) acc, (i : Int) < n → acc.length = i → J i acc → ∀ (s : Shared) (H0 : Hp) (C : Addr) (cl : List (Str × Addr)) (fp : List Addr), ED (X.blk s H0 scope (compEnvC scope cl C X.env) fp) B (S' (.int i)) elt fun y => J (i + 1) (acc ++ [y]))
    (hd : ∀ acc, acc.length = n.toNat → J n.toNat acc → Q acc) (hgl : Gl X "range" := by rfl) (hst : starEach [e] X.env = [(false, eval e X.env)] := by rfl)
    (hs : ∀ x, foldedSetIterable (.Call (.Name "range" p1) [e] [] pos1) X.env x = pure x := by intro _; rfl) : FD X B S (.ListComp elt [⟨tg, .Call (.Name "range" p1) [e] [] pos1, [], 0⟩] scope pos) Q := fun σ W H r R k => by
  refine PE.w (pe_lc (te := WEb X scope elt) hc hN (pi_range1 hgl hm wa_pa hst) ok hg (fun _ _ _ _ _ => pts_nil) web_pe hs) ?_
  refine h σ W H r _ fun as vs W1 H1 s1 ok1 n1 q1 => ?_
  obtain ⟨rfl, hz, hz2, j0⟩ := q1
  obtain ⟨v, rfl, m⟩ := one_arg n1
  cases m
  refine ⟨n, rfl, hz, by omega, fun p hp0 => ?_⟩
  have r1 := r.step s1 ok1
  refine lc_range (lo := 0) (n := n.toNat) (fun i H' => ∃ acc W', Mid X.K (gOf X) W1 H1 p acc W' H' ∧ acc.length = i ∧ J i acc) ⟨[], W1, ⟨Stp.own hp0, ok1.own hp0, ok1.notP hp0, ok1.free hp0, [], upd_same, .nil⟩, rfl, j0⟩ ?_ ?_
  · rintro i H' hi ⟨acc, W', mm, hl, j⟩
    rw [Int.zero_add]
    have r2 := r1.step mm.st mm.ok
    refine hp (.int i) (gOf X) B σ W' H' _ r2 (.int _) _ fun σ2 e2 r3 => ⟨e2, ?_⟩
    show WEb X scope elt σ2 H' _
    intro s H0 C cl fp
    refine he i acc (by omega) hl j s H0 C cl fp σ2 W' H' r3 _ fun y v W2 H2 s2 ok2 n2 q2 => ?_
    obtain ⟨xs', e1, e3, m3⟩ := (mm.step s2 ok2).more hp0 n2 (by omega)
    exact ⟨xs', e1, e3, _, W2, m3, by simp [hl], q2⟩
  · rintro H' ⟨acc, W', mm, hl, j⟩
    obtain ⟨ys, hH, ds⟩ := mm.h
    exact k acc p ys W' H' (s1.trans ok1 mm.st) mm.ok (s1.free ok1 hp0) mm.n mm.i hH ds (hd acc hl j)
end
end DL

set_option Elab.async false
set_option linter.all false
set_option maxRecDepth 100000
set_option maxHeartbeats 4000000
/-! operators of own classes, also with ints on either side -/
namespace OwnOps
open PySem PySem.W PySem.Calls
section
variable {prog : Program} {w : World} {A : Around} {E : Value → Shared → Prop} {s : Shared} {K : Frag} {x C f g : Addr} {ox : Obj} {od : Option Obj} {op : Operator} {i : Int} {t : Tok}
end
end OwnOps
namespace OwnOps
open PySem PySem.W PySem.Calls
section
variable {prog : Program} {w : World} {A : Around} {E : Value → Shared → Prop} {s : Shared} {K : Frag} {x C f g L : Addr} {ox : Obj} {od : Option Obj} {i : Int} {t : Tok} {h₀ : Heap} {m : Str → Option Value} {b tb : Value}
/-- where the right one need not be asked first, the left one's answer is the comparison's -/
theorem one_way {op : CmpOp} {Q : Value → Shared → Prop} (hu : A.units < cLine) (X : K.In s.heap) (I : InstAt s.heap x ox C od) (hb : Looks (model prog w) s.heap (typeOf b) tb) (hn : notFirst K C tb = true)
    (one : wpAny (model prog w) A (tryCompare (.ref x) (cmpInfo op).2.1 b) (fun r s' => ∃ v, r = some v ∧ Q v s') E s) : wpAny (model prog w) A (richCompare op (.ref x) b) Q E s := by
  unfold richCompare
  rw [show oneThing? op (.ref x) b = none from oneThing_ref ..]
  refine wpAny_holding (wpAny_bind (wpAny_cRoomFor hu (wpAny_bind (I.type.here (wpAny_bind (hb.here ?_))))))
  by_cases q : (Value.ref C != tb) = true
  · have e : subIn K tb (.ref C) = some false := (Bool.or_eq_true_iff.mp hn).elim (fun e => absurd q (by rw [beq_iff_eq.mp e]; simp)) fun e => beq_iff_eq.mp e
    rw [if_pos q]
    refine wpAny_bind ((looks_subIn X e).here ?_)
    dsimp only
    rw [if_neg Bool.false_ne_true]
    exact wpAny_bind (wpAny_mono one (fun _ _ ⟨_, e, q⟩ => e ▸ wpAny_pure q) fun _ _ h => h)
  · rw [if_neg q]
    refine wpAny_bind (wpAny_pure ?_)
    dsimp only
    rw [if_neg Bool.false_ne_true]
    exact wpAny_bind (wpAny_mono one (fun _ _ ⟨_, e, q⟩ => e ▸ wpAny_pure q) fun _ _ h => h)
theorem ne_bind (self : Value) : bindSpecial (.builtin "object.__ne__") self = pure (.builtin "object.__ne__", [self]) := by kernel_rfl
theorem ne_plain : plainId "object.__ne__" = true := by decide +kernel
/-- a != b by an own __eq__ -/
theorem ne_K {Q : Value → Shared → Prop} (hu : A.units + 1 < cLine) (X : K.In s.heap) (I : InstAt s.heap x ox C od) (hb : Looks (model prog w) s.heap (typeOf b) tb) (hn : notFirst K C tb = true)
    (hne : findIn K (.ref C) "__ne__" = some (some (.builtin "object.__ne__"))) (hs : findIn K (.ref C) "__eq__" = some (some (.ref f))) (hf : isFn K (.ref f) = true) (hob : subIn K (.ref C) (.type "object") = some true)
    (h : wpAny (model prog w) A.in1 (call (.ref f) [.ref x, b]) (fun v s' => ∃ k, v = .bool k ∧ Q (.bool (!k)) s') E s) : wpAny (model prog w) A (richCompare .NotEq (.ref x) b) Q E s := by
  have one : wpAny (model prog w) A (tryCompare (.ref x) "__ne__" b) (fun r s' => ∃ v, r = some v ∧ Q v s') E s := by
    unfold tryCompare
    refine wpAny_bind ?_
    simp only [callSpecialIfBound?, bindSpecialIfBound?]
    refine wpAny_holding (wpAny_bind (wpAny_bind (wpAny_bind (I.type.here ((looks_findIn X hne).here ?_)))))
    have fin : wpAny (model prog w) A (call (.builtin "object.__ne__") ([.ref x] ++ [b]) >>= fun v => pure (some v)) (fun r s' => wpAny (model prog w) A (match r with | some .notImplemented | none => pure none | some v => pure (some v)) (fun r s' => ∃ v, r = some v ∧ Q v s') E s') E s := by
      refine wpAny_bind (wpAny_call (codeAny_call_builtin ne_plain PySem.F.cmpEntry_ne (check_slot PySem.F.cmpKind_ne PySem.F.cmpSplit_ne (I.type.andThen (looks_subIn X hob)) (PySem.F.cmpArgs_ne _ _) ?_)))
      unfold Builtin.«object.__ne__»
      refine wpAny_bind (wpAny_of_eq rfl ?_)
      refine wpAny_bind (wpAny_cRoomFor hu ?_)
      refine wpAny_bind (ifBound_K X I hs hf (wpAny_mono h (fun v s' hv => ?_) fun _ _ e => e))
      obtain ⟨k, rfl, q⟩ := hv
      refine wpAny_bind (wpAny_truthy_bool ?_)
      refine wpAny_pure ?_
      exact wpAny_pure (wpAny_pure ⟨_, rfl, q⟩)
    refine wpAny_bind (wpAny_askSetting (wpAny_ite ?_))
    split
    · exact wpAny_bind ((Looks.of_pure (ne_bind _)).here (wpAny_pure (by exact fin)))
    · exact wpAny_tryCatch (wpAny_bind ((Looks.of_pure (ne_bind _)).here (wpAny_pure (by exact fin))))
  exact one_way (Nat.lt_of_succ_lt hu) X I hb hn one
end
end OwnOps

set_option Elab.async false
set_option linter.all false
set_option maxRecDepth 100000
set_option maxHeartbeats 2000000
namespace DL
open PySem L2

/-! ### objects -/
/-- a method of the class at C -/
structure Mt (P : Program) (w : World) (K : PySem.W.Frag) (mg : Str → Option Value) (base : Heap) (C : Addr) (m : Str) (k : Nat) (sp : SpD) : Prop where
  ex : ∃ f fd ps, GnOk P w K mg base k f fd ps (lift K sp) ∧ Meth K C m f ∧ Binds K fd ps []
/-- a property of the class at C -/
structure Pr (P : Program) (w : World) (K : PySem.W.Frag) (mg : Str → Option Value) (base : Heap) (C : Addr) (m : Str) (k : Nat) (sp : SpD) : Prop where
  ex : ∃ p f fd ps, GnOk P w K mg base k f fd ps (lift K sp) ∧ PropOf K C m p f ∧ Binds K fd ps []
section
variable {X : Cx} {B : Hp} {S : En} {pos p apos : Pos} {Q : D → Prop} {e o : Expr} {es : List Expr} {x m f : Str} {k n : Nat} {sp : SpD} {C : Addr}
theorem ed_fld (c : Cls X.K C) (na : NoAttr X.K C f) (h : ED X B S o fun x => ∃ fs d, x = .obj C fs ∧ fs.lookup f = some d ∧ Q d) (hb : attributeBase o f X.env (eval o X.env) = eval o X.env := by rfl) : ED X B S (.Attribute o f pos) Q := fun σ W H r R k => by
  refine PE.w (pe_fld we_pe hb) ?_
  refine h σ W H r _ fun d v W1 H1 s1 ok1 n1 q1 => ?_
  obtain ⟨fs, d', rfl, l, q1⟩ := q1
  cases n1 with
  | obj ha m =>
    obtain ⟨v', e1, n2⟩ := m.look l
    exact ⟨_, C, _, _, v', rfl, ok1.ex _ _ ha, c, na, e1, (k.step s1 ok1).now ok1 n2 q1⟩
theorem ed_prop (c : Cls X.K C) (F : Pr X.prog X.w X.K X.mg X.base C f k sp) (hr : Room (k + 1) X.A) (hG : X.A.guards = some (gOf X)) (h : ED X B S o fun x => ∃ fs, x = .obj C fs ∧ sp [.val x] Q) (hb : attributeBase o f X.env (eval o X.env) = eval o X.env := by rfl) : ED X B S (.Attribute o f pos) Q := fun σ W H r R c' => by
  obtain ⟨pp, g, fd, ps, F, hp, bb⟩ := F.ex
  refine we_prop c hp F hr hG bb .nil ?_ hb
  refine h σ W H r _ fun d v W1 H1 s1 ok1 n1 q1 => ?_
  obtain ⟨fs, rfl, q1⟩ := q1
  cases id n1 with
  | obj ha m => exact ⟨_, _, _, rfl, ok1.ex _ _ ha, [.val (.obj C fs)], W1, Q, ok1, .cons n1 .nil, q1, c'.step s1 ok1⟩
theorem ed_meth {pl : Sem Bool} (c : Cls X.K C) (F : Mt X.prog X.w X.K X.mg X.base C m k sp) (hr : Room k X.A) (hG : X.A.guards = some (gOf X)) (h : ED X B S o fun x => ∃ fs, x = .obj C fs ∧ fs.lookup m = none ∧ AD X B S (e :: es) fun as => sp (.val x :: as) Q)
    (hst : starEach (e :: es) X.env = (false, eval e X.env) :: starEach es X.env := by rfl) (hpl : (backTo pos (starEach es X.env)).any (·.1) = false := by rfl)
    (ht : eval (.Call (.Attribute o m apos) (e :: es) [] pos) X.env = (do
      let ov ← eval o X.env
      standAt apos.atName
      let (f, first) ← holding [ov] (getMethod ov m pl)
      callWith pos f first (backTo pos (starEach (e :: es) X.env)) (backToKw pos (keywordEach [] X.env))) := by rfl) : ED X B S (.Call (.Attribute o m apos) (e :: es) [] pos) Q := fun σ W H r R c' => by
  obtain ⟨f, fd, ps, F, M, bb⟩ := F.ex
  refine we_meth c M F hr hG bb .nil ?_ hst hpl ht
  refine h σ W H r _ fun d v W1 H1 s1 ok1 n1 q1 => ?_
  obtain ⟨fs, rfl, l, q1⟩ := q1
  cases id n1 with
  | obj ha mm =>
    refine ⟨_, _, _, rfl, ok1.ex _ _ ha, mm.nolook l, ?_⟩
    refine q1 σ W1 H1 (r.step s1 ok1) _ fun as vs W2 H2 s2 ok2 n2 q2 => ?_
    rw [List.append_nil]
    exact ⟨.val (.obj C fs) :: as, W2, Q, ok2, .cons (show Arg X.K W2 (.val (.obj C fs)) _ from n1.mono s2.I) n2, q2, (c'.step s1 ok1).step s2 ok2⟩
theorem ed_meth0 {pl : Sem Bool} (c : Cls X.K C) (F : Mt X.prog X.w X.K X.mg X.base C m k sp) (hr : Room k X.A) (hG : X.A.guards = some (gOf X)) (h : ED X B S o fun x => ∃ fs, x = .obj C fs ∧ fs.lookup m = none ∧ sp [.val x] Q)
    (ht : eval (.Call (.Attribute o m apos) [] [] pos) X.env = (do
      let ov ← eval o X.env
      standAt apos.atName
      let (f, first) ← holding [ov] (getMethod ov m pl)
      callWith pos f first (backTo pos (starEach [] X.env)) (backToKw pos (keywordEach [] X.env))) := by rfl) : ED X B S (.Call (.Attribute o m apos) [] [] pos) Q := fun σ W H r R c' => by
  obtain ⟨f, fd, ps, F, M, bb⟩ := F.ex
  refine we_meth0 c M F hr hG bb .nil ?_ ht
  refine h σ W H r _ fun d v W1 H1 s1 ok1 n1 q1 => ?_
  obtain ⟨fs, rfl, l, q1⟩ := q1
  cases id n1 with
  | obj ha mm =>
    refine ⟨_, _, _, rfl, ok1.ex _ _ ha, mm.nolook l, ?_⟩
    show lift X.K sp (gOf X) (V.ref _ :: []) H1 R
    exact ⟨[.val (.obj C fs)], W1, Q, ok1, .cons n1 .nil, q1, c'.step s1 ok1⟩
end

/-! ### objects made -/
abbrev SpI := List Sl → (List (Str × D) → Prop) → Prop
def liftI (K : PySem.W.Frag) (C : Addr) (sp : SpI) : SpG := fun g vs H R => ∃ (p dx : Addr) (us : List V) (H1 : Hp) (W : Wd) (as : List Sl) (Q : List (Str × D) → Prop), vs = .ref p :: us ∧ H = upd (upd H1 dx (.own p)) p (.ins C dx []) ∧ H1 p = none ∧ H1 dx = none ∧ dx ≠ p ∧
  Ok g W H1 ∧ Args K W as us ∧ sp as Q ∧ ∀ fs vs2 W' H', Stp W H1 W' H' → Ok g W' H' → ¬ W'.P p → W'.I p = none → H' p = some (.ins C dx vs2) → Dnf K W'.I fs vs2 → Q fs → R .non H'
/-- the class that the module calls x, at C; ds: what its last parameters are without arguments -/
structure Kl (P : Program) (w : World) (K : PySem.W.Frag) (mg : Str → Option Value) (base : Heap) (x : Str) (C : Addr) (k : Nat) (dds : List D) (sp : SpI) : Prop where
  ex : ∃ f fd ps dvs ds, GnOk P w K mg base k f fd ps (liftI K C sp) ∧ Mk K C f ∧ mg x = some (.ref C) ∧ Binds K fd ps ds ∧ Vals dvs ds ∧ ∀ I, Dns K I dds dvs
section
variable {X : Cx} {B : Hp} {S : En} {pos p apos : Pos} {Q : D → Prop} {e o : Expr} {es : List Expr} {x m f : Str} {k n : Nat} {sp : SpI} {C : Addr} {dds : List D}
theorem Args.data {K : PySem.W.Frag} {W : Wd} : ∀ {ds : List D} {vs : List V}, Dns K W.I ds vs → Args K W (ds.map Sl.val) vs
  | _, _, .nil => .nil
  | _, _, .cons h r => .cons h (Args.data r)
theorem Args.append {K : PySem.W.Frag} {W : Wd} : ∀ {as bs : List Sl} {vs us : List V}, Args K W as vs → Args K W bs us → Args K W (as ++ bs) (vs ++ us)
  | _, _, _, _, .nil, s => s
  | _, _, _, _, .cons h r, s => .cons h (Args.append r s)
theorem cont_make {K : PySem.W.Frag} {g : List Code} {W : Wd} {H : Hp} {R : VK} (c : Cont K g W H Q R) {as : List Sl} {vs : List V} (ok : Ok g W H) (n : Args K W as vs) (q : sp as fun fs => Q (.obj C fs)) : ∀ x dx, H x = none → H dx = none → dx ≠ x → liftI K C sp g (.ref x :: vs) (upd (upd H dx (.own x)) x (.ins C dx [])) (fun v H2 => v = .non ∧ R (.ref x) H2) := fun x dx hx hdx ne =>
  ⟨x, dx, vs, H, W, as, _, rfl, rfl, hx, hdx, ne, ok, n, q, fun fs vs2 W' H' st ok' nP i hp d q2 => ⟨rfl, c (.obj C fs) (.ref x) _ H' (st.frz hx i) (ok'.frz hp nP fun z => (ok.gd _ z).2.1 hx) (.obj (show upd W'.I x _ x = _ from upd_same) (d.mono (Ex.new i))) q2⟩⟩
/-- C(e, ..), the rest of its parameters as they are without arguments -/
theorem ed_make (F : Kl X.prog X.w X.K X.mg X.base x C k dds sp) (hr : Room (k + 1) X.A) (hG : X.A.guards = some (gOf X)) (h : AD X B S (e :: es) fun as => sp (as ++ dds.map Sl.val) fun fs => Q (.obj C fs)) (hg : Gl X x := by rfl) (hdb : (x == ("__debug__" : Str)) = false := by decide)
    (he : starEach (e :: es) X.env = (false, eval e X.env) :: starEach es X.env := by rfl) (hpl : (backTo pos (starEach es X.env)).any (·.1) = false := by rfl) : ED X B S (.Call (.Name x p) (e :: es) [] pos) Q := fun σ W H r R c => by
  obtain ⟨f, fd, ps, dvs, ds, F, M, hm, hb, hd, hD⟩ := F.ex
  refine we_make M F hr hG hg hm hb hd ?_ hdb he hpl
  refine h σ W H r _ fun as vs W1 H1 s1 ok1 n1 q1 => ?_
  intro y dy hy hdy ne
  exact cont_make (c.step s1 ok1) ok1 (n1.append (Args.data (hD W1.I))) q1 y dy hy hdy ne
/-- C(e, ..), all parameters given -/
theorem ed_makeA {sp : SpI} (F : Kl X.prog X.w X.K X.mg X.base x C k [] sp) (hr : Room (k + 1) X.A) (hG : X.A.guards = some (gOf X)) (h : AD X B S (e :: es) fun as => sp as fun fs => Q (.obj C fs)) (hg : Gl X x := by rfl) (hdb : (x == ("__debug__" : Str)) = false := by decide)
    (he : starEach (e :: es) X.env = (false, eval e X.env) :: starEach es X.env := by rfl) (hpl : (backTo pos (starEach es X.env)).any (·.1) = false := by rfl) : ED X B S (.Call (.Name x p) (e :: es) [] pos) Q :=
  ed_make F hr hG (by simpa using h) hg hdb he hpl
end
/-! __init__ -/
def putD (f : Str) (d : D) : List (Str × D) → List (Str × D)
  | [] => [(f, d)]
  | (g, e) :: r => if g = f then (g, d) :: r else (g, e) :: putD f d r
theorem Dnf.put {K : PySem.W.Frag} {I : Hp} {f : Str} {d : D} {v : V} (h : Dn K I d v) : ∀ {fs : List (Str × D)} {vs : List (Str × V)}, Dnf K I fs vs → Dnf K I (putD f d fs) (putF f v vs)
  | _, _, .nil => .cons h .nil
  | _, _, .cons (f := g) q r => by
    unfold putD putF
    by_cases e : g = f
    · rw [if_pos e, if_pos e]
      exact .cons h r
    · rw [if_neg e, if_neg e]
      exact .cons q (Dnf.put h r)
theorem Dnf.length {K : PySem.W.Frag} {I : Hp} : ∀ {fs : List (Str × D)} {vs : List (Str × V)}, Dnf K I fs vs → fs.length = vs.length
  | _, _, .nil => rfl
  | _, _, .cons _ r => congrArg (· + 1) (Dnf.length r)
def notInst : Option Sl → Bool
  | some (.inst _ _ _ _) => false
  | _ => true
section
variable {X : Cx} {B : Hp} {W0 : Wd} {S : En} {e : Expr} {pos p p1 : Pos} {E : Ends'} {x f : Str} {C : Addr}
/-- self.f = e, self the object that is being made -/
theorem sd_fld {q dx : Addr} (i : Nat) (fs : List (Str × D)) (c : Cls X.K C) (na : NoAttr X.K C f) (hN : X.N[i]? = some x) (h : S[i]? = some (some (.inst C q dx fs))) (hl : fs.length < 1000) (one : (S.set i none).all notInst = true) (he : ED X B S e fun d => E.nx (S.set i (some (.inst C q dx (putD f d fs)))))
    (hv : Vis X.env.scope x := by first | exact Or.inl rfl | exact Or.inr (Or.inl rfl) | exact Or.inr (Or.inr rfl)) (hd : (x == ("__debug__" : Str)) = false := by decide) (hcd : (x == ("__classdict__" : Str)) = false := by decide)
    (hs : swapsWith e (some (.Attribute (.Name x p) f p1)) pos.line X.env = pure false := by rfl) : SD X B W0 S (.Assign [.Attribute (.Name x p) f p1] e pos) E := fun σ W H r z D' k => by
  refine PS.w (ps_fld (pe_var hN hv hd hcd) we_pe hs) ?_
  refine he σ W H r _ fun d v W1 H1 s1 ok1 n1 q1 => ?_
  have r1 := r.step s1 ok1
  obtain ⟨v0, e1, vs, ev, b1, b2, ne, n, n2, i1, i2, hp, hdx, dn⟩ := r1.sl i _ h
  subst ev
  refine ⟨_, e1, q, C, dx, vs, rfl, hp, c, na, dn.length ▸ hl, ?_⟩
  have ok2 : Ok (gOf X) W1 (upd H1 q (.ins C dx (putF f v vs))) := {
    gd := fun b hb => by
      obtain ⟨n1, n2⟩ := ok1.gd b hb
      refine ⟨n1, ?_⟩
      by_cases y : b = q
      · subst y
        rw [upd_same]
        exact ⟨(fun z => by cases z), (fun _ z => by cases z)⟩
      · rw [upd_ne y]
        exact n2
    ex := fun b o hb => by
      rw [upd_ne (fun y => by rw [y, i1] at hb; cases hb)]
      exact ok1.ex b o hb
    pot := fun b hb => by
      obtain ⟨nb, y2, w2, h2⟩ := ok1.pot b hb
      have ne : b ≠ q := fun y => n (y ▸ hb)
      exact ⟨nb, y2, w2, by rw [upd_ne ne]; exact h2⟩ }
  have z1 := z.trans r.ok s1
  have z2 : Stp W0 B W1 (upd H1 q (.ins C dx (putF f v vs))) := ⟨z1.I, z1.P, fun b o hb hn => by rw [upd_ne (ne_of_none hb b1)]; exact z1.keep b o hb hn, z1.old, z1.oldP⟩
  have lt : i < S.length := (List.getElem?_eq_some_iff.mp h).1
  refine k.nx _ σ W1 _ ?_ z2 s1.I q1
  refine ⟨ok2, r.gb, by simpa using r.len, fun j s ej => ?_, fun a b la lb c ne e2 e3 e4 => ?_, r1.distT.setS i fun l z => by cases z⟩
  · by_cases y : i = j
    · subst y
      rw [List.getElem?_set_self lt] at ej
      cases ej
      exact ⟨_, e1, _, rfl, b1, b2, ne, n, n2, i1, i2, upd_same, by rw [upd_ne ne]; exact hdx, dn.put n1⟩
    · rw [List.getElem?_set_ne y] at ej
      obtain ⟨v2, e2, h2⟩ := r1.sl j s ej
      refine ⟨v2, e2, ?_⟩
      cases s with
      | val d2 => exact h2
      | pot => exact h2
      | own m =>
        obtain ⟨p2, ys, rfl, c1, c2, c3, c4, c5⟩ := h2
        refine ⟨p2, ys, rfl, c1, c2, c3, ?_, c5⟩
        rw [upd_ne (fun y => by rw [y, hp] at c4; cases c4)]
        exact c4
      | ownT m =>
        obtain ⟨p2, ys, rfl, c1, c2, c3, c4, c5⟩ := h2
        refine ⟨p2, ys, rfl, c1, c2, c3, ?_, c5⟩
        rw [upd_ne (fun y => by rw [y, hp] at c4; cases c4)]
        exact c4
      | inst C' q' dx' fs' =>
        exfalso
        have e5 : (S.set i none)[j]? = some (some (.inst C' q' dx' fs')) := by rw [List.getElem?_set_ne y]; exact ej
        have := List.all_eq_true.mp one _ (List.mem_of_getElem? e5)
        cases this
  · have g : ∀ {c : Nat} {m : List D}, (S.set i (some (.inst C q dx (putD f d fs))))[c]? = some (some (.own m)) → S[c]? = some (some (.own m)) := fun {c m} ec => by
      by_cases q2 : i = c
      · subst q2
        rw [List.getElem?_set_self lt] at ec
        cases ec
      · rw [List.getElem?_set_ne q2] at ec
        exact ec
    exact r1.dist a b la lb c ne (g e2) (g e3) e4
end
section
variable {P : Program} {w : World} {K : PySem.W.Frag} {mg : Str → Option Value} {base : Heap}
/-- an __init__ by its body: self is slot 0 -/
theorem init_dl {x qual : Str} {st : Stmt} {f C : Addr} {fd : FuncData} {N ps : List Str} {k : Nat} {sp : SpI} (F : FunS K x qual st f fd) (hS : FnScope N ps (defScope st)) (len : ∀ as Q, sp as Q → as.length + 1 = ps.length)
    (body : ∀ cdv A outer s H, Room k (A.deeper (PyProof.Rows.envOfC qual (defScope st) s.heap.objs.size f cdv)) → (Bx P w K mg base N qual st f cdv A outer s H).A.guards = some (gOf (Bx P w K mg base N qual st f cdv A outer s H)) → ∀ W B as Q p dx, sp as Q → SDs (Bx P w K mg base N qual st f cdv A outer s H) B W (startE N (.inst C p dx [] :: as)) (defBody st) { nx := fun S' => ∃ fs, S'[0]? = some (some (.inst C p dx fs)) ∧ Q fs, rt := fun _ => False }) :
    GnOk P w K mg base (k + 1) f fd ps (liftI K C sp) := by
  refine gn_of F hS (fun g vs H Q h => ?_) (fun cdv A outer s H g vs R hr hG h => ?_)
  · obtain ⟨p, dx, us, H1, W, as, Qd, rfl, _, _, _, _, _, ha, hsp, _⟩ := h
    rw [← len _ _ hsp, List.length_cons, Paired.length ha]
  · obtain ⟨p, dx, us, H1, W, as, Qd, rfl, eH, hp, hdx, ne, ok, ha, hsp, c⟩ := h
    refine ⟨WSs _ (defBody st), wss_pss, ?_⟩
    obtain ⟨g1, g2⟩ := gOf_bx (P := P) (w := w) (K := K) (mg := mg) (base := base) (N := N) (qual := qual) (st := st) (f := f) (cdv := cdv) (outer := outer) (s := s) (H := H) hG
    have st1 : Stp W H1 W H := by
      rw [eH]
      exact (Stp.own hdx).trans (ok.own hdx) (Stp.own (by rw [upd_ne (Ne.symm ne)]; exact hp))
    have ok1 : Ok g W H := by
      rw [eH]
      exact (ok.own hdx).own (by rw [upd_ne (Ne.symm ne)]; exact hp)
    have rep : Rep K g H1 (startE N (.inst C p dx [] :: as)) (L2.start N (.ref p :: us)) W H := by
      have r0 := rep_start (N := N.tail) ok1 (ha.step st1)
      have hN : N.length = N.tail.length + 1 := by
        have h1 := hS.pre
        have h2 := len _ _ hsp
        have h3 : ps.length ≤ N.length := by
          have := congrArg List.length h1
          rw [List.length_take] at this
          omega
        rw [List.length_tail]
        omega
      have e1 : startE N (.inst C p dx [] :: as) = some (.inst C p dx []) :: startE N.tail as := by
        unfold startE
        rw [hN]
        simp [Nat.add_sub_add_right]
      have e2 : L2.start N (.ref p :: us) = some (.ref p) :: L2.start N.tail us := by
        unfold L2.start
        rw [hN]
        simp [Nat.add_sub_add_right]
      rw [e1, e2]
      refine ⟨ok1, fun b hb => (ok.gd b hb).2.1, by simp [r0.len], fun i s e => ?_, fun i j l m q n a1 a2 a3 => ?_, fun i j l m q n a1 a2 a3 => ?_⟩
      · cases i with
        | zero =>
          cases e
          refine ⟨_, rfl, [], rfl, hp, hdx, ne, ok.notP hp, ok.notP hdx, ok.free hp, ok.free hdx, ?_, ?_, .nil⟩
          · rw [eH]; exact upd_same
          · rw [eH, upd_ne ne]; exact upd_same
        | succ i =>
          obtain ⟨v, a1, a2⟩ := r0.sl i s e
          refine ⟨v, a1, ?_⟩
          cases s with
          | val d => exact a2
          | pot => exact a2
          | own l =>
            exfalso
            have key : ∀ {as : List Sl} {vs : List V} {n : Nat} {i : Nat}, Args K W as vs → (as.map some ++ List.replicate n none)[i]? = some (some (.own l)) → False := by
              intro as vs n i h
              induction h generalizing i with
              | nil =>
                intro e
                simp only [List.map_nil, List.nil_append, List.getElem?_replicate] at e
                split at e <;> cases e
              | @cons a v as vs h1 _ ih =>
                intro e
                cases i with
                | zero =>
                  simp only [List.map_cons, List.cons_append, List.getElem?_cons_zero, Option.some.injEq] at e
                  subst e
                  exact h1
                | succ i =>
                  simp only [List.map_cons, List.cons_append, List.getElem?_cons_succ] at e
                  exact ih e
            exact key ha e
          | ownT l =>
            exact absurd e (start_noT (ha.step st1) i l)
          | inst C' q' dx' fs =>
            exfalso
            have key : ∀ {as : List Sl} {vs : List V} {n : Nat} {i : Nat}, Args K W as vs → (as.map some ++ List.replicate n none)[i]? = some (some (.inst C' q' dx' fs)) → False := by
              intro as vs n i h
              induction h generalizing i with
              | nil =>
                intro e
                simp only [List.map_nil, List.nil_append, List.getElem?_replicate] at e
                split at e <;> cases e
              | @cons a v as vs h1 _ ih =>
                intro e
                cases i with
                | zero =>
                  simp only [List.map_cons, List.cons_append, List.getElem?_cons_zero, Option.some.injEq] at e
                  subst e
                  exact h1
                | succ i =>
                  simp only [List.map_cons, List.cons_append, List.getElem?_cons_succ] at e
                  exact ih e
            exact key ha e
      · cases i with
        | zero => cases a1
        | succ i => cases j with
          | zero => cases a2
          | succ j => exact r0.dist i j l m q (fun z => n (congrArg (· + 1) z)) a1 a2 a3
      · cases i with
        | zero => cases a1
        | succ i => cases j with
          | zero => cases a2
          | succ j => exact r0.distT i j l m q (fun z => n (congrArg (· + 1) z)) a1 a2 a3
    refine body cdv A outer s H hr (by rw [g2]; exact g1) W H1 as Qd p dx hsp (L2.start N (.ref p :: us)) W H (by rw [g2]; exact rep) st1 _ ?_
    rw [g2]
    refine ⟨fun S σ W' H' r z _ q => ?_, fun d v W' H' ok' z _ n q => q.elim, fun _ _ _ _ _ _ _ q => q.elim, fun _ _ _ _ _ _ _ q => q.elim⟩
    obtain ⟨fs, e, q⟩ := q
    obtain ⟨v, _, vs2, _, _, _, _, n1, _, i1, _, hp', _, dn⟩ := r.sl 0 _ e
    exact c fs vs2 W' H' z r.ok n1 i1 hp' dn q
end
end DL

set_option Elab.async false
set_option linter.all false
set_option maxRecDepth 100000
set_option maxHeartbeats 4000000
namespace DL
open PySem L2

/-! ### isinstance -/
/-- the class at C, as isinstance asks -/
structure Isi (K : PySem.W.Frag) (C : Addr) : Prop where
  cl : Cls K C
  ca : PySem.W.findIn K (.ref C) "__class__" = some (some (.builtin "object.__class__"))
  cn : PySem.W.specialIn K (.builtin "object.__class__") "__get__" = some (some (.builtin "getset_descriptor.__get__"))
  ct : PySem.W.takesIn K (.builtin "object.__class__") = some true
  cm : PySem.W.mroIn K C (.type "object") = some true
/-- the type of a datum -/
inductive TyD (K : PySem.W.Frag) : D → Value → Prop
  | non : TyD K .non (.type "NoneType")
  | bl (b) : TyD K (.bl b) (.type "bool")
  | int (i) : TyD K (.int i) (.type "int")
  | str (s) : TyD K (.str s) (.type "str")
  | tup (l) : TyD K (.tup l) (.type "tuple")
  | lst (l) : TyD K (.lst l) (.type "list")
  | obj {C} (fs) (h : Isi K C) : TyD K (.obj C fs) (.ref C)
  | dct : TyD K .dct (.type "dict")
  | dcK (l) : TyD K (.dcK l) (.type "dict")
theorem TyD.x {K : PySem.W.Frag} {W : Wd} {H : Hp} {d : D} {v : V} {t : Value} (h : TyD K d t) (ok : Ok g W H) (n : Dn K W.I d v) : TyX K H v t := by
  cases h with
  | non => cases n; exact .base .non
  | bl b => cases n; exact .base (.bl b)
  | int i => cases n; exact .base (.int i)
  | str s => cases n; exact .base (.str s)
  | tup l => cases n with | tup h _ => exact .base (.tup (ok.ex _ _ h))
  | lst l => cases n with | lst h _ => exact .base (.lst (ok.ex _ _ h))
  | obj fs i => cases n with | obj h _ => exact .base (.ins (ok.ex _ _ h) i.cl i.ca i.cn i.ct i.cm)
  | dct => cases n with | dct h => exact .base (.dK (ok.ex _ _ h))
  | dcK l => cases n with | dcK h _ => exact .base (.dK (ok.ex _ _ h))
/-- a class as a datum -/
inductive ClD : D → Value → Prop
  | ty (n) : ClD (.ty n) (.type n)
  | cls (C) : ClD (.cls C) (.ref C)
theorem ClD.v {K : PySem.W.Frag} {I : Hp} {d : D} {v : V} {u : Value} (h : ClD d u) (n : Dn K I d v) : ClsV v u := by
  cases h with
  | ty m => cases n; exact .ty m
  | cls C => cases n; exact .own C
section
variable {X : Cx} {B : Hp} {S : En} {pos p apos : Pos} {Q : D → Prop} {e o a b : Expr} {es : List Expr} {x m f : Str}
theorem ed_ty {n : String} (hm : X.mg x = none) (q : Q (.ty n)) (hv : bootBuiltins x = some (.type n) := by first | rfl | decide +kernel) (hg : Gl X x := by rfl) (hn : x ≠ "__name__" := by decide) (hd : (x == ("__debug__" : Str)) = false := by decide) : ED X B S (.Name x pos) Q := fun σ W H r R k =>
  PE.w (pe_bltn (v := .ty n) hg hm hv rfl hn hd) (k.now r.ok (.ty n) q)
theorem ed_cls {C : Addr} (hm : X.mg x = some (.ref C)) (q : Q (.cls C)) (hg : Gl X x := by rfl) (hd : (x == ("__debug__" : Str)) = false := by decide) : ED X B S (.Name x pos) Q := fun σ W H r R k =>
  PE.w (pe_glob (v := .ref C) hg hm rfl hd) (k.now r.ok (.cls C) q)
theorem ed_gint {i : Int} {t : Tok} (hm : X.mg x = some (.int i t)) (q : Q (.int i)) (hg : Gl X x := by rfl) (hd : (x == ("__debug__" : Str)) = false := by decide) : ED X B S (.Name x pos) Q := fun σ W H r R k =>
  PE.w (pe_glob (v := .int i) hg hm ⟨t, rfl⟩ hd) (k.now r.ok (.int i) q)
theorem cd_isi {d c : D} {t u : Value} {k : Bool} (ht : TyD X.K d t) (hc : ClD c u) (hk : PySem.W.kitOne X.K t u = some k) (q : Q (.bl k)) : CD X (.builtin "isinstance") [.val d, .val c] Q := cd_of call_isi fun vs W H ok ha R cc => by
  obtain ⟨v, w, rfl, h, h'⟩ := two_args ha
  exact ⟨v, w, t, u, k, rfl, hc.v h', ht.x ok h, hk, cc.now ok (.bl k) q⟩
theorem cd_isi2 {d c c' : D} {t u u' : Value} {k : Bool} (ht : TyD X.K d t) (hc : ClD c u) (hc' : ClD c' u') (hk : PySem.W.kitAny X.K t [u, u'] = some k) (q : Q (.bl k)) : CD X (.builtin "isinstance") [.val d, .val (.tup [c, c'])] Q := cd_of call_isiT fun vs W H ok ha R cc => by
  obtain ⟨v, w, rfl, h, h'⟩ := two_args ha
  cases h' with
  | tup hp m =>
    cases m with
    | cons h1 m => cases m with
      | cons h2 m =>
        cases m
        exact ⟨v, _, _, t, [u, u'], k, rfl, ok.ex _ _ hp, .cons (hc.v h1) (.cons (hc'.v h2) .nil), ht.x ok h, hk, cc.now ok (.bl k) q⟩
theorem cd_gcd {i j : Int} (q : Q (.int ((Nat.gcd i.natAbs j.natAbs : Nat) : Int))) : CD X (.builtin "math.gcd") [.val (.int i), .val (.int j)] Q := cd_of cr_gcd fun vs W H ok ha R c => by
  obtain ⟨v, u, rfl, h, h'⟩ := two_args ha
  cases h; cases h'
  exact ⟨i, j, rfl, c.now ok (.int _) q⟩
/-- a built-in function that the module imported -/
theorem ed_callM {id : String} (hm : X.mg x = some (.builtin id)) (h : AD X B S (e :: es) fun as => CD X (.builtin id) as Q) (hg : Gl X x := by rfl) (hdb : (x == ("__debug__" : Str)) = false := by decide)
    (he : starEach (e :: es) X.env = (false, eval e X.env) :: starEach es X.env := by rfl) (hpl : (backTo pos (starEach es X.env)).any (·.1) = false := by rfl) : ED X B S (.Call (.Name x p) (e :: es) [] pos) Q := fun σ W H r R c => by
  refine PE.w (pe_callBfun wc_call hg hm wa_pa hdb he hpl) ?_
  refine h σ W H r _ fun as vs W1 H1 s1 ok1 n1 q1 => ?_
  exact q1 vs W1 H1 ok1 n1 R (c.step s1 ok1)

/-! ### numbers of any size, texts -/
def CDivG (i j : Int) : Prop := j ≠ 0 ∧ j.natAbs.log2 < 9000
theorem op_fdivG : OpR X (binaryOp .FloorDiv) (rI CDivG fun i j => .int (i.fdiv j)) := opI fun i j _ _ _ _ _ hc q => PyProof.Rows.floordiv_int hc.1 q (.inl (PyProof.noPylong_of_log2 hc.2))
theorem od_fdiv {i j : Int} (hc : CDivG i j) (q : Q (.int (i.fdiv j))) : OD X (binaryOp .FloorDiv) (.int i) (.int j) Q := od_I op_fdivG hc (fun _ _ => .int _) q
theorem od_mul {i j : Int} (hc : CMulX i j) (q : Q (.int (i * j))) : OD X (binaryOp .Mult) (.int i) (.int j) Q := od_I op_mulX hc (fun _ _ => .int _) q
theorem od_mulS {i j : Int} (hc : (-(2 ^ 64) < i ∧ i < 2 ^ 64) ∨ (-(2 ^ 64) < j ∧ j < 2 ^ 64)) (q : Q (.int (i * j))) : OD X (binaryOp .Mult) (.int i) (.int j) Q := od_I op_mul hc (fun _ _ => .int _) q
theorem od_mod {i j : Int} (hc : 0 < j) (q : Q (.int (i % j))) : OD X (binaryOp .Mod) (.int i) (.int j) Q := od_I op_mod hc (fun _ _ => .int _) q
theorem od_pow {i j : Int} (hc : CPow i j) (q : Q (.int (i ^ j.toNat))) : OD X (binaryOp .Pow) (.int i) (.int j) Q := od_I op_pow hc (fun _ _ => .int _) q
/-- == and != of ints, of texts, of bools, of None -/
def scD : D → D → Bool
  | .int _, .int _ => true
  | .str _, .str _ => true
  | .bl _, .bl _ => true
  | _, _ => false
theorem od_eqi {i j : Int} (q : Q (.bl (decide (i = j)))) : OD X (compareOp .Eq) (.int i) (.int j) Q := by
  refine od_of op_eq fun v u W H ok h1 h2 R c => ?_
  cases h1; cases h2
  refine ⟨rfl, c.now ok (.bl _) ?_⟩
  have e : decide (V.int i = V.int j) = decide (i = j) := by by_cases z : i = j <;> simp [z]
  rw [e]
  exact q
theorem od_nei {i j : Int} (q : Q (.bl (!decide (i = j)))) : OD X (compareOp .NotEq) (.int i) (.int j) Q := by
  refine od_of op_ne fun v u W H ok h1 h2 R c => ?_
  cases h1; cases h2
  refine ⟨rfl, c.now ok (.bl _) ?_⟩
  have e : decide (V.int i = V.int j) = decide (i = j) := by by_cases z : i = j <;> simp [z]
  rw [e]
  exact q
theorem od_eqs {i j : Str} (q : Q (.bl (decide (i = j)))) : OD X (compareOp .Eq) (.str i) (.str j) Q := by
  refine od_of op_eq fun v u W H ok h1 h2 R c => ?_
  cases h1; cases h2
  refine ⟨rfl, c.now ok (.bl _) ?_⟩
  have e : decide (V.str i = V.str j) = decide (i = j) := by by_cases z : i = j <;> simp [z]
  rw [e]
  exact q
theorem od_nes {i j : Str} (q : Q (.bl (!decide (i = j)))) : OD X (compareOp .NotEq) (.str i) (.str j) Q := by
  refine od_of op_ne fun v u W H ok h1 h2 R c => ?_
  cases h1; cases h2
  refine ⟨rfl, c.now ok (.bl _) ?_⟩
  have e : decide (V.str i = V.str j) = decide (i = j) := by by_cases z : i = j <;> simp [z]
  rw [e]
  exact q
theorem od_isN {x : D} (q : Q (.bl (match x with | .non => true | _ => false))) : OD X (compareOp .Is) x .non Q := by
  refine od_of op_isN fun v u W H ok h1 h2 R c => ?_
  cases h2
  refine ⟨rfl, c.now ok (.bl _) ?_⟩
  cases h1 <;> exact q
/-- lists joined, repeated -/
theorem od_catL {l m : List D} (hl : l.length + m.length ≤ 100000) (q : Q (.lst (l ++ m))) : OD X (binaryOp .Add) (.lst l) (.lst m) Q := by
  refine od_of op_cat fun v u W H ok h1 h2 R c => ?_
  cases h1 with
  | @lst _ _ xs a1 d1 => cases h2 with
    | @lst _ _ ys a2 d2 =>
      refine ⟨_, _, _, _, rfl, rfl, ok.ex _ _ a1, ok.ex _ _ a2, Nat.le_trans (by rw [← d1.length, ← d2.length]; exact hl) (by decide), fun p hp => ?_⟩
      have st := Stp.new (o := .lst (xs ++ ys)) ok hp
      exact c (.lst (l ++ m)) (.ref p) _ _ st (ok.new hp) (.lst (show upd W.I p _ p = _ from upd_same) ((d1.append d2).mono st.I)) q
end
end DL

set_option Elab.async false
set_option linter.all false
set_option maxRecDepth 100000
set_option maxHeartbeats 4000000
namespace DL
open PySem L2

/-! ### == and != of plain data -/
mutual
inductive PyD : D → PyData → Prop
  | non : PyD .non .none
  | bl (b) : PyD (.bl b) (.bool b)
  | int (i) : PyD (.int i) (.int i)
  | str (s) : PyD (.str s) (.str s)
  | lst {l ds} : PyDs l ds → PyD (.lst l) (.list ds)
  | tup {l ds} : PyDs l ds → PyD (.tup l) (.tuple ds)
inductive PyDs : List D → List PyData → Prop
  | nil : PyDs [] []
  | cons {d l p ps} : PyD d p → PyDs l ps → PyDs (d :: l) (p :: ps)
end
section
variable {K : PySem.W.Frag} {g : List Code} {W : Wd} {H : Hp}
mutual
theorem PyD.dp (ok : Ok g W H) : ∀ {d : D} {p : PyData} {v : V}, PyD d p → Dn K W.I d v → Dp K H v p
  | _, _, _, .non, .non => .non
  | _, _, _, .bl b, .bl _ => .bl b
  | _, _, _, .int i, .int _ => .int i
  | _, _, _, .str s, .str _ => .str s
  | _, _, _, .lst h, .lst a n => .lst (SqL.of (ok.ex _ _ a)) (PyDs.dp ok h n)
  | _, _, _, .tup h, .tup a n => .tup (SqT.of (ok.ex _ _ a)) (PyDs.dp ok h n)
theorem PyDs.dp (ok : Ok g W H) : ∀ {l : List D} {ps : List PyData} {xs : List V}, PyDs l ps → Dns K W.I l xs → DpAll K H xs ps
  | _, _, _, .nil, .nil => .nil
  | _, _, _, .cons h r, .cons n m => .cons (PyD.dp ok h n) (PyDs.dp ok r m)
end
end
section
variable {X : Cx} {B : Hp} {S : En} {pos p apos : Pos} {Q : D → Prop} {x y : D} {d e : PyData}
theorem od_ned (hu : X.A.units + 64 < cLine) (h1 : PyD x d) (h2 : PyD y e) (s1 : SeqAt.shaped d = true) (s2 : SeqAt.shaped e = true) (q : Q (.bl (!PyData.eqv d e))) : OD X (compareOp .NotEq) x y Q :=
  od_of (op_neD hu) fun v u W H ok n1 n2 R c => ⟨d, e, h1.dp ok n1, h2.dp ok n2, s1, s2, c.now ok (.bl _) q⟩
end

/-! ### operators of own classes -/
theorem back {X : Cx} {pins : List (Addr × Obj)} {σ : L2.St} {R : VK} {v : Value} {s : Shared} (h : EP X pins σ R v s) : PySem.W.CmpBack (EP X pins σ R) v s := by
  obtain ⟨z, H, I, r, q⟩ := id h
  cases z with
  | non => cases (show v = Value.none from r); exact h
  | bl b => cases (show v = Value.bool b from r); exact h
  | int i => obtain ⟨t, e⟩ := (show ∃ t, v = Value.int i t from r); cases e; exact h
  | str x => obtain ⟨t, e⟩ := (show ∃ t, v = Value.str x t from r); cases e; exact h
  | byt b => obtain ⟨t, e⟩ := (show ∃ t, v = Value.bytes b t from r); cases e; exact h
  | flt b => obtain ⟨t, e⟩ := (show ∃ t, v = Value.float b t from r); cases e; exact h
  | ref a => cases (show v = Value.ref a from r); exact h
  | ty n => cases (show v = Value.type n from r); exact h
/-- a class whose instances stand beside ints -/
structure Num (K : PySem.W.Frag) (C : Addr) : Prop where
  cl : Cls K C
  sf : PySem.W.selfFirst K C = true
  nf : PySem.W.notFirst K C (.ref C) = true
  ni : PySem.W.notFirst K C (.type "int") = true
  si : PySem.W.subIn K (.type "int") (.ref C) = some false
  is : PySem.W.subIn K (.ref C) (.type "int") = some false
  ob : PySem.W.subIn K (.ref C) (.type "object") = some true
/-- a special method of the class at C -/
structure Sm (P : Program) (w : World) (K : PySem.W.Frag) (mg : Str → Option Value) (base : Heap) (C : Addr) (m : Str) (k : Nat) (sp : SpD) : Prop where
  ex : ∃ f fd ps, GnOk P w K mg base k f fd ps (lift K sp) ∧ PySem.W.findIn K (.ref C) m = some (some (.ref f)) ∧ PySem.W.isFn K (.ref f) = true ∧ Binds K fd ps []
section
variable {X : Cx} {B : Hp} {S : En} {pos p apos : Pos} {Q : D → Prop} {C : Addr} {k k' : Nat} {sp sp' : SpD} {fs gs : List (Str × D)}
theorem inst_at {pins : List (Addr × Obj)} {σ : L2.St} {H : Hp} {s : Shared} {a dx : Addr} {vs : List (Str × V)} (I : Inv X pins σ H s) (ha : H a = some (.ins C dx vs)) : ∃ ox od, PySem.W.InstAt s.heap a ox C (some od) := by
  obtain ⟨mA, O, _⟩ := ins_get I.hok ha
  obtain ⟨od, J, _⟩ := O.look
  exact ⟨_, od, J⟩
theorem args2 {K : PySem.W.Frag} {W : Wd} {d d' : D} {v u : V} (h : Dn K W.I d v) (h' : Dn K W.I d' u) : Args K W [.val d, .val d'] [v, u] := .cons h (.cons h' .nil)
theorem vals2 {v u : V} {v' u' : Value} (h : RelV v v') (h' : RelV u u') : Vals [v, u] [v', u'] := .cons h (.cons h' .nil)
/-- the def of a special method runs -/
theorem run_sm {m : Str} (F : Sm X.prog X.w X.K X.mg X.base C m k sp) (hr : Room k X.A) (hG : X.A.guards = some (gOf X)) {as : List Sl} {W : Wd} {H : Hp} (ok : Ok (gOf X) W H) {vs : List V} {us : List Value} (n : Args X.K W as vs) (q : sp as Q) {R : VK} (c : Cont X.K (gOf X) W H Q R)
    {pins : List (Addr × Obj)} {σ : L2.St} {s : Shared} (I : Inv X pins σ H s) (r : Vals vs us) : ∃ f, PySem.W.findIn X.K (.ref C) m = some (some (.ref f)) ∧ PySem.W.isFn X.K (.ref f) = true ∧ wpAny (model X.prog X.w) X.A (call (.ref f) us) (EP X pins σ R) X.xe s := by
  obtain ⟨f, fd, ps, F, hf, hi, hb⟩ := F.ex
  refine ⟨f, hf, hi, call_gn F hr hG hb .nil I r ?_⟩
  rw [List.append_nil]
  exact ⟨as, W, Q, ok, n, q, c⟩
/-- both of the class -/
theorem od_oo {op : Operator} (N : Num X.K C) (F : Sm X.prog X.w X.K X.mg X.base C (PySem.dunder op.info.2) k sp) (hr : Room k X.A) (hG : X.A.guards = some (gOf X)) (q : sp [.val (.obj C fs), .val (.obj C gs)] Q) : OD X (binaryOp op) (.obj C fs) (.obj C gs) Q := fun v u W H ok h1 h2 R c pins s σ v' u' I r1 r2 => by
  have aa := args2 h1 h2
  have rr := vals2 r1 r2
  cases id h1 with
  | obj a1 _ => cases id h2 with
    | obj a2 _ =>
      cases (show v' = Value.ref _ from r1)
      cases (show u' = Value.ref _ from r2)
      obtain ⟨ox, od, J⟩ := inst_at I (ok.ex _ _ a1)
      obtain ⟨oy, oe, J2⟩ := inst_at I (ok.ex _ _ a2)
      obtain ⟨f, hf, hi, hw⟩ := run_sm F hr hG ok aa q c I rr
      obtain ⟨mm, hF⟩ := I.fr
      exact PySem.W.binop_K hF I.ok.mod.kin J J2.type N.sf hf hi (wpAny_mono hw (fun _ _ h => back h) fun _ _ h => h)
end
end DL

set_option Elab.async false
set_option linter.all false
set_option maxRecDepth 100000
set_option maxHeartbeats 4000000
namespace DL
open PySem L2
section
variable {X : Cx} {B : Hp} {S : En} {pos p apos : Pos} {Q : D → Prop} {C : Addr} {k k' : Nat} {sp sp' : SpD} {fs gs : List (Str × D)} {e a : Expr} {es : List Expr} {x m : Str}
/-- == by an own __eq__ -/
theorem od_eqO (N : Num X.K C) (F : Sm X.prog X.w X.K X.mg X.base C "__eq__" k sp) (hr : Room k X.A) (hG : X.A.guards = some (gOf X)) (q : sp [.val (.obj C fs), .val (.obj C gs)] Q) : OD X (compareOp .Eq) (.obj C fs) (.obj C gs) Q := fun v u W H ok h1 h2 R c pins s σ v' u' I r1 r2 => by
  have aa := args2 h1 h2
  have rr := vals2 r1 r2
  cases id h1 with
  | obj a1 _ => cases id h2 with
    | obj a2 _ =>
      cases (show v' = Value.ref _ from r1)
      cases (show u' = Value.ref _ from r2)
      obtain ⟨ox, od, J⟩ := inst_at I (ok.ex _ _ a1)
      obtain ⟨oy, oe, J2⟩ := inst_at I (ok.ex _ _ a2)
      obtain ⟨f, hf, hi, hw⟩ := run_sm F hr hG ok aa q c I rr
      obtain ⟨mm, hF⟩ := I.fr
      show wpAny _ _ (richCompare .Eq _ _) _ _ _
      exact PySem.W.cmp_K hr.units0 hF I.ok.mod.kin J J2.type N.nf hf hi (wpAny_mono hw (fun _ _ h => back h) fun _ _ h => h)
/-- != by an own __eq__ -/
theorem od_neO (N : Num X.K C) (hne : PySem.W.findIn X.K (.ref C) "__ne__" = some (some (.builtin "object.__ne__"))) (F : Sm X.prog X.w X.K X.mg X.base C "__eq__" k sp) (hr : Room (k + 1) X.A) (hG : X.A.guards = some (gOf X)) (q : sp [.val (.obj C fs), .val (.obj C gs)] fun d => ∃ b, d = .bl b ∧ Q (.bl (!b))) : OD X (compareOp .NotEq) (.obj C fs) (.obj C gs) Q := fun v u W H ok h1 h2 R c pins s σ v' u' I r1 r2 => by
  have aa := args2 h1 h2
  have rr := vals2 r1 r2
  cases id h1 with
  | @obj _ _ p1 _ _ a1 _ => cases id h2 with
    | @obj _ _ p2 _ _ a2 _ =>
      cases (show v' = Value.ref _ from r1)
      cases (show u' = Value.ref _ from r2)
      obtain ⟨ox, od, J⟩ := inst_at I (ok.ex _ _ a1)
      obtain ⟨oy, oe, J2⟩ := inst_at I (ok.ex _ _ a2)
      obtain ⟨f, fd, ps, F, hf, hi, hb⟩ := F.ex
      have hsp : lift X.K sp (gOf X) [.ref p1, .ref p2] H (fun z H' => ∃ b, z = .bl b ∧ R (.bl (!b)) H') := by
        refine ⟨_, W, _, ok, aa, q, fun d v2 W' H' st ok' n' q' => ?_⟩
        obtain ⟨b, rfl, q'⟩ := q'
        cases n'
        exact ⟨b, rfl, c (.bl (!b)) _ W' H' st ok' (.bl _) q'⟩
      show wpAny _ _ (richCompare .NotEq _ _) _ _ _
      refine OwnOps.ne_K (by have := hr.un; omega) I.kIn J J2.type N.nf hne hf hi N.ob ?_
      have hl : [Value.ref p1, Value.ref p2].length = ps.length := by rw [← F.len _ _ _ _ hsp]; rfl
      refine wpAny_call (run_gn (A := X.A.in1) F hr.in1 hG I.env0.in1 hb .nil I rr (by rw [List.append_nil]; exact hsp) fun u s' hv => ?_)
      obtain ⟨z, H', I3, rv, b, e, q3⟩ := hv
      subst e
      cases (show u = Value.bool b from rv)
      exact ⟨b, rfl, .bl (!b), H', I3, rfl, q3⟩
end
end DL

set_option Elab.async false
set_option linter.all false
set_option maxRecDepth 100000
set_option maxHeartbeats 2000000
/-! calls by keywords, class methods, calls of a class that a local name holds, the guards known -/
namespace DL
open PySem PySem.Spec PyProof.Rows L2 ClX
section
variable {X : Cx} {k n : Nat} {f C p0 : Addr} {fd : FuncData} {ps ks : List Str} {sp : SpG} {x m : Str} {p pos apos : Pos} {e o : Expr} {es : List Expr} {kws : List Keyword} {g : List Code} {gf : List Value → List Value → List Value} {gV : List V → List V → List V} {mc : Value}
/-- the weakest reading of keywords -/
def WK (X : Cx) (kws : List Keyword) : TA := fun σ H Q => ∀ pos pins s, Inv X pins σ H s → wpAny (model X.prog X.w) X.A (evalAll ((backToKw pos (keywordEach kws X.env)).map (·.2))) (AP X pins σ Q) X.xe s
theorem wk_pk : PK X kws (WK X kws) := ⟨fun pos pins s _ _ _ I h => h pos pins s I⟩
theorem PK.w {t : TA} (h : PK X kws t) {σ : L2.St} {H : Hp} {Q : List V → Hp → Prop} (q : t σ H Q) : WK X kws σ H Q := fun pos pins s I => h.run pos pins s σ H Q I q
end
end DL

set_option Elab.async false
set_option linter.all false
set_option maxRecDepth 100000
set_option maxHeartbeats 4000000
namespace DL
open PySem L2

/-! ### keywords -/
def KD (X : Cx) (B : Hp) (S : En) (kws : List Keyword) (Q : List Sl → Prop) : Prop := ∀ σ W H, Rep X.K (gOf X) B S σ W H → ∀ R, ContA X.K (gOf X) W H Q R → WK X kws σ H R
/-- C's __init__ by keywords ks alone: mid brings their values, and the defaults, into the parameters' order -/
structure KlK (P : Program) (w : World) (K : PySem.W.Frag) (mg : Str → Option Value) (base : Heap) (x : Str) (C : Addr) (k : Nat) (ks : List Str) (midD : List Sl → List Sl) (sp : SpI) : Prop where
  ex : ∃ f fd ps gf, ∃ mid : List V → List V, GnOk P w K mg base k f fd ps (liftI K C sp) ∧ Mk K C f ∧ mg x = some (.ref C) ∧ KBn K fd ps 1 ks gf (fun vs zs => vs ++ mid zs) ∧ ∀ W bs zs, Args K W bs zs → Args K W (midD bs) (mid zs)
structure MtK (P : Program) (w : World) (K : PySem.W.Frag) (mg : Str → Option Value) (base : Heap) (C : Addr) (m : Str) (k : Nat) (ks : List Str) (midD : List Sl → List Sl) (sp : SpD) : Prop where
  ex : ∃ f fd ps gf, ∃ mid : List V → List V, GnOk P w K mg base k f fd ps (lift K sp) ∧ Meth K C m f ∧ KBn K fd ps 1 ks gf (fun vs zs => vs ++ mid zs) ∧ ∀ W bs zs, Args K W bs zs → Args K W (midD bs) (mid zs)
/-- a class method -/
structure Cm (P : Program) (w : World) (K : PySem.W.Frag) (mg : Str → Option Value) (base : Heap) (C : Addr) (m : Str) (k : Nat) (sp : SpD) : Prop where
  ex : ∃ f fd ps p0 mc, GnOk P w K mg base k f fd ps (lift K sp) ∧ ClX.CRead K C mc ∧ ClX.CMet K C mc m p0 f ∧ Binds K fd ps []
structure CmK (P : Program) (w : World) (K : PySem.W.Frag) (mg : Str → Option Value) (base : Heap) (C : Addr) (m : Str) (k : Nat) (ks : List Str) (midD : List Sl → List Sl) (sp : SpD) : Prop where
  ex : ∃ f fd ps p0 mc gf, ∃ mid : List V → List V, GnOk P w K mg base k f fd ps (lift K sp) ∧ ClX.CRead K C mc ∧ ClX.CMet K C mc m p0 f ∧ KBn K fd ps 1 ks gf (fun vs zs => vs ++ mid zs) ∧ ∀ W bs zs, Args K W bs zs → Args K W (midD bs) (mid zs)
section
variable {X : Cx} {B : Hp} {S : En} {pos p apos kpos : Pos} {Q : D → Prop} {e o : Expr} {es : List Expr} {kws : List Keyword} {x m : Str} {nm : Option Str} {k : Nat} {C : Addr} {ks : List Str} {midD : List Sl → List Sl}
theorem kd_nil {Q : List Sl → Prop} (q : Q []) : KD X B S [] Q := fun σ W H r R c => PK.w pk_nil (c [] [] W H Stp.refl r.ok .nil q)
theorem kd_cons {Q : List Sl → Prop} (h : ED X B S e fun d => KD X B S kws fun as => Q (.val d :: as)) : KD X B S (⟨nm, e, kpos⟩ :: kws) Q := fun σ W H r R c => by
  refine PK.w (pk_cons we_pe wk_pk) ?_
  refine h σ W H r _ fun d v W1 H1 s1 ok1 n1 q1 => ?_
  refine q1 σ W1 H1 (r.step s1 ok1) _ fun as vs W2 H2 s2 ok2 n2 q2 => ?_
  exact c (.val d :: as) (v :: vs) W2 H2 (s1.trans ok1 s2) ok2 (.cons (show Arg X.K W2 (.val d) v from n1.mono s2.I) n2) q2
end

/-! ### texts of data -/
open Classical in
/-- the heap cut down to what never changes -/
noncomputable def cut (I : Hp) (h : Heap) : Heap := { h with objs := h.objs.mapIdx fun i o => if I i = none then { o with data := .freed } else o }
section
variable {X : Cx} {pins : List (Addr × Obj)} {σ : L2.St} {W : Wd} {H : Hp} {s : Shared} {g : List Code}
end
section
variable {X : Cx} {B : Hp} {S : En} {pos p apos : Pos} {Q : D → Prop} {e o : Expr} {es : List Expr} {C : Addr} {k : Nat} {sp : SpD} {fs : List (Str × D)}
/-- repr of an object by its own __repr__ -/
theorem cd_reprO (F : Sm X.prog X.w X.K X.mg X.base C "__repr__" k sp) (hr : Room (k + 1) X.A) (hG : X.A.guards = some (gOf X)) (q : sp [.val (.obj C fs)] fun d => ∃ t, d = .str t ∧ Q d) : CD X (.builtin "repr") [.val (.obj C fs)] Q := fun vs W H ok ha R c pins s σ us I rv => by
  obtain ⟨v, rfl, n⟩ := one_arg ha
  obtain ⟨f, fd, ps, F, hf, hi, hb⟩ := F.ex
  cases id n with
  | @obj _ _ p1 _ _ a1 _ =>
    cases rv with
    | cons r1 r2 =>
      cases r2
      have r1' := r1
      cases (show _ = Value.ref p1 from r1)
      obtain ⟨ox, od, J⟩ := inst_at I (ok.ex _ _ a1)
      obtain ⟨mm, hF⟩ := I.fr
      have hsp : lift X.K sp (gOf X) [.ref p1] H (fun z H' => ∃ t, z = .str t ∧ R (.str t) H') := by
        refine ⟨_, W, _, ok, ha, q, fun d v2 W' H' st ok' n' q' => ?_⟩
        obtain ⟨t, rfl, q'⟩ := q'
        cases n'
        exact ⟨t, rfl, c (.str t) _ W' H' st ok' (.str _) q'⟩
      refine PySem.W.repr_K hr.in1.units0 hF I.ok.mod.kin J hf hi ?_
      refine wpAny_call (run_gn (A := X.A.in1) (us := [.ref p1]) (vs := [.ref p1]) F hr.in1 hG I.env0.in1 hb .nil I (.cons r1' .nil) hsp fun u s' hv => ?_)
      obtain ⟨z, H', I3, rz, t, e, q3⟩ := hv
      subst e
      obtain ⟨tk, rfl⟩ := (show ∃ tk, u = Value.str t tk from rz)
      exact ⟨.str t, H', I3, ⟨tk, rfl⟩, q3⟩
end
end DL

set_option Elab.async false
set_option linter.all false
set_option maxRecDepth 100000
set_option maxHeartbeats 4000000
namespace DL
open PySem L2
section
variable {X : Cx} {B : Hp} {S : En} {pos p apos : Pos} {Q : D → Prop} {e o : Expr} {es : List Expr} {C : Addr} {k : Nat} {sp : SpD} {fs : List (Str × D)}
open Builtin Builtin.Str in
/-- f'..' -/
theorem ed_fmt (h : ED X B S e fun d => (∃ y, d = .str y ∧ y.length ≤ sizeLine ∧ Q (.str y)) ∨ ∃ i : Int, d = .int i ∧ i.natAbs.log2 < 1920 ∧ Q (.str (toString i))) : ED X B S (.FormattedValue e (-1) none pos) Q := fun σ W H r R c => by
  refine PE.w (pe_fmt we_pe) ?_
  refine h σ W H r _ fun d v W1 H1 s1 ok1 n1 q1 => ?_
  have c1 := c.step s1 ok1
  rcases q1 with ⟨y, rfl, l, q⟩ | ⟨i, rfl, l, q⟩
  · cases n1
    exact .inl ⟨y, rfl, l, c1.now ok1 (.str _) q⟩
  · cases n1
    exact .inr ⟨i, rfl, l, c1.now ok1 (.str _) q⟩
def JD (X : Cx) (B : Hp) (S : En) : List Expr → Str → (D → Prop) → Prop
  | [], acc, Q => Q (.str acc)
  | e :: es, acc, Q => ED X B S e fun d => ∃ y, d = .str y ∧ (acc ++ y).length ≤ sizeLine ∧ JD X B S es (acc ++ y) Q
theorem pj_all : ∀ es : List Expr, PJ X es (es.map (WE X))
  | [] => .nil
  | _ :: es => .cons we_pe (pj_all es)
theorem jd_run {σ : L2.St} {R : VK} : ∀ (es : List Expr) (acc : Str) (W : Wd) (H : Hp), JD X B S es acc Q → Rep X.K (gOf X) B S σ W H → Cont X.K (gOf X) W H Q R → tJs (es.map (WE X)) acc σ H fun out H1 => R (.str out) H1
  | [], acc, W, H, h, r, c => c.now r.ok (.str acc) h
  | e :: es, acc, W, H, h, r, c => by
    show WE X e σ H _
    refine h σ W H r _ fun d v W1 H1 s1 ok1 n1 q1 => ?_
    obtain ⟨y, rfl, l, q1⟩ := q1
    cases n1
    exact ⟨y, rfl, l, jd_run es (acc ++ y) W1 H1 q1 (r.step s1 ok1) (c.step s1 ok1)⟩
theorem ed_join {e1 e2 : Expr} (h : JD X B S (e1 :: e2 :: es) Str.empty Q) : ED X B S (.JoinedStr (e1 :: e2 :: es) pos) Q := fun σ W H r R c =>
  PE.w (pe_joined (pj_all _)) (jd_run _ _ W H h r c)
/-- tuple(x) of a list, of a tuple -/
theorem cd_tuple {l : List D} (q : Q (.tup l)) : CD X (.type "tuple") [.val (.lst l)] Q := cd_of call_tuple_of fun vs W H ok ha R c => by
  obtain ⟨v, rfl, h⟩ := one_arg ha
  cases h with
  | @lst _ a xs h m =>
    refine ⟨_, _, rfl, .inl ⟨SqL.of (ok.ex _ _ h), fun p hp => ?_⟩⟩
    have st := Stp.new (o := .tup xs) ok hp
    exact c (.tup l) (.ref p) _ _ st (ok.new hp) (.tup (show upd W.I p _ p = _ from upd_same) (m.mono st.I)) q
end

/-! ### a new list handed back; pots -/
abbrev SpN := List Sl → (List D → Prop) → Prop
def liftN (K : PySem.W.Frag) (sp : SpN) : SpG := fun g vs H R => ∃ as W Q, Ok g W H ∧ Args K W as vs ∧ sp as Q ∧ ContF K g W H Q R
structure Nf (P : Program) (w : World) (K : PySem.W.Frag) (mg : Str → Option Value) (base : Heap) (x : Str) (k : Nat) (sp : SpN) : Prop where
  ex : ∃ f fd ps, GnOk P w K mg base k f fd ps (liftN K sp) ∧ mg x = some (.ref f) ∧ PySem.W.keepIn K (.ref f) = true ∧ Binds K fd ps []
section
variable {X : Cx} {B : Hp} {W0 : Wd} {S : En} {pos p apos : Pos} {e o : Expr} {es : List Expr} {x : Str} {k : Nat}
theorem ContF.step {K : PySem.W.Frag} {g : List Code} {W W1 : Wd} {H H1 : Hp} {Q : List D → Prop} {R : VK} (c : ContF K g W H Q R) (a : Stp W H W1 H1) (ok : Ok g W1 H1) : ContF K g W1 H1 Q R := fun l p xs W' H' s ok' hp n i hl d q => c l p xs W' H' (a.trans ok s) ok' (a.free ok hp) n i hl d q
theorem fd_callN {sp : SpN} {Q : List D → Prop} (F : Nf X.prog X.w X.K X.mg X.base x k sp) (hr : Room k X.A) (hG : X.A.guards = some (gOf X)) (h : AD X B S (e :: es) fun as => sp as Q) (hg : Gl X x := by rfl) (hdb : (x == ("__debug__" : Str)) = false := by decide)
    (he : starEach (e :: es) X.env = (false, eval e X.env) :: starEach es X.env := by rfl) (hpl : (backTo pos (starEach es X.env)).any (·.1) = false := by rfl) : FD X B S (.Call (.Name x p) (e :: es) [] pos) Q := fun σ W H r R c => by
  obtain ⟨f, fd, ps, F, hm, hk, hb⟩ := F.ex
  refine we_call F hr hG hg hm hk hb .nil ?_ hdb he hpl
  refine h σ W H r _ fun as vs W1 H1 s1 ok1 n1 q1 => ?_
  rw [List.append_nil]
  exact ⟨as, W1, Q, ok1, n1, q1, c.step s1 ok1⟩
/-- two ints in a list of one's own: a pot -/
theorem Ok.pot2 {g : List Code} {W : Wd} {H : Hp} {q : Addr} {x y : Int} (ok : Ok g W H) (i : W.I q = none) (h : H q = some (.lst [.int x, .int y])) (hy : 0 ≤ y ∧ y < 2 ^ 31) : Ok g ⟨W.I, fun b => W.P b ∨ b = q⟩ H :=
  ⟨ok.gd, ok.ex, fun a pa => pa.elim (ok.pot a) fun z => by subst z; exact ⟨i, x, y, h, hy⟩⟩
theorem Stp.pot2 {W W1 : Wd} {H H1 : Hp} {q : Addr} (a : Stp W H W1 H1) (hq : H q = none) : Stp W H ⟨W1.I, fun b => W1.P b ∨ b = q⟩ H1 :=
  ⟨a.I, fun b h => .inl (a.P b h), a.keep, a.old, fun b o hb z => z.elim (a.oldP b o hb) fun e => by rw [e, hq] at hb; cases hb⟩
theorem dns_two {K : PySem.W.Frag} {I : Hp} {a b : Int} {xs : List V} (h : Dns K I [.int a, .int b] xs) : xs = [.int a, .int b] := by
  cases h with
  | cons h r => cases h; cases r with
    | cons h r => cases h; cases r; rfl
theorem ad_newpot {Q : List Sl → Prop} (h : FD X B S e fun l => ∃ a b : Int, l = [.int a, .int b] ∧ (0 ≤ b ∧ b < 2 ^ 31) ∧ AD X B S es fun as => Q (.pot :: as)) (hs : starEach (e :: es) X.env = (false, eval e X.env) :: starEach es X.env := by rfl) : AD X B S (e :: es) Q := fun σ W H r R k => by
  refine PA.w (pa_cons we_pe wa_pa hs) ?_
  refine h σ W H r _ fun l q xs W1 H1 s1 ok1 hp n i hl d q1 => ?_
  obtain ⟨a, b, rfl, hab, q1⟩ := q1
  rw [dns_two d] at hl
  have ok2 := ok1.pot2 i hl hab
  have st2 := s1.pot2 hp
  refine q1 σ _ H1 (r.step st2 ok2) _ fun as vs W3 H3 s3 ok3 n3 q3 => ?_
  exact k (.pot :: as) (.ref q :: vs) W3 H3 (st2.trans ok2 s3) ok3 (.cons ⟨q, rfl, s3.P q (.inr rfl)⟩ n3) q3
end
/-- a block that ends by handing a new list back -/
def SN (X : Cx) (B : Hp) (W0 : Wd) (S : En) (sts : List Stmt) (Q : List D → Prop) : Prop := ∀ σ W H, Rep X.K (gOf X) B S σ W H → Stp W0 B W H → ∀ R, ContF X.K (gOf X) W0 B Q R → WSs X sts { nx := fun _ H' => R .non H', rt := R } σ H
section
variable {X : Cx} {B : Hp} {W0 : Wd} {S : En} {pos : Pos} {e : Expr} {st : Stmt} {sts : List Stmt} {Q : List D → Prop}
theorem sn_ret (h : FD X B S e Q) : SN X B W0 S [.Return (some e) pos] Q := fun σ W H r z R c => by
  refine PSs.w (pss_cons (ps_ret we_pe) pss_nil) ?_
  exact h σ W H r R fun l p xs W2 H2 s2 ok2 hp n i hl d q2 => c l p xs W2 H2 (z.trans r.ok s2) ok2 (z.free r.ok hp) n i hl d q2
theorem sn_cons (h : SD X B W0 S st { nx := fun S' => SN X B W0 S' sts Q, rt := fun _ => False }) : SN X B W0 S (st :: sts) Q := fun σ W H r z R c => by
  refine PSs.w (pss_cons ws_ps wss_pss) ?_
  exact h σ W H r z _ ⟨fun S' σ' W' H' r' z' _ q => q σ' W' H' r' z' R c, fun _ _ _ _ _ _ _ _ q => q.elim, fun _ _ _ _ _ _ _ q => q.elim, fun _ _ _ _ _ _ _ q => q.elim⟩
end
section
variable {P : Program} {w : World} {K : PySem.W.Frag} {mg : Str → Option Value} {base : Heap}
/-- a def that ends by handing a new list back -/
theorem gn_new {x qual : Str} {st : Stmt} {f : Addr} {fd : FuncData} {N ps : List Str} {k : Nat} {sp : SpN} (F : FunS K x qual st f fd) (hS : FnScope N ps (defScope st)) (len : ∀ as Q, sp as Q → as.length = ps.length)
    (body : ∀ cdv A outer s H, Room k (A.deeper (PyProof.Rows.envOfC qual (defScope st) s.heap.objs.size f cdv)) → (Bx P w K mg base N qual st f cdv A outer s H).A.guards = some (gOf (Bx P w K mg base N qual st f cdv A outer s H)) → ∀ W as Q, sp as Q →
      SN (Bx P w K mg base N qual st f cdv A outer s H) H W (startE N as) (defBody st) Q) : GnOk P w K mg base (k + 1) f fd ps (liftN K sp) := by
  refine gn_of F hS (fun g vs H Q h => ?_) (fun cdv A outer s H g vs R hr hG h => ?_)
  · obtain ⟨as, W, Qd, _, ha, hsp, _⟩ := h
    rw [← len _ _ hsp]
    exact (Paired.length ha).symm
  · obtain ⟨as, W, Qd, ok, ha, hsp, c⟩ := h
    obtain ⟨e1, e2⟩ := gOf_bx (P := P) (w := w) (K := K) (mg := mg) (base := base) (N := N) (qual := qual) (st := st) (f := f) (cdv := cdv) (outer := outer) (s := s) (H := H) hG
    refine ⟨WSs _ _, wss_pss, body cdv A outer s H hr (by rw [e2]; exact e1) W as Qd hsp (L2.start N vs) W H (by rw [e2]; exact rep_start ok ha) Stp.refl R ?_⟩
    rw [e2]
    exact c
end
section
variable {X : Cx} {B : Hp} {W0 : Wd} {S : En} {e a b : Expr} {es : List Expr} {pos : Pos} {E : Ends'}
end
/-- x[j], x the script -/
theorem ed_ixF {X : Cx} {B : Hp} {S : En} {a b : Expr} {pos : Pos} {Q : D → Prop} (h : ED X B S a fun x => ED X B S b fun y => ∃ (l : List Int) (j : Nat) (z : Int), x = .frl l ∧ y = .int (j : Int) ∧ l[j]? = some z ∧ Q (.int z)) (hs : PlainIx b := by exact fun _ _ => rfl) : ED X B S (.Subscript a b pos) Q := fun σ W H r R k => by
  refine PE.w (pe_ix ix_list we_pe we_pe hs) ?_
  refine h σ W H r _ fun d v W1 H1 s1 ok1 n1 q1 => ?_
  refine q1 σ W1 H1 (r.step s1 ok1) _ fun d2 u W2 H2 s2 ok2 n2 q2 => ?_
  obtain ⟨l, j, z, rfl, rfl, e, q⟩ := q2
  have k2 := (k.step s1 ok1).step s2 ok2
  cases n2
  cases n1 with
  | frl h => exact ⟨_, _, (j : Int), .int z, rfl, rfl, ok2.ex.l (s2.I.l h), atI_nat (by rw [List.getElem?_map, e]; rfl), k2.now ok2 (.int z) q⟩
end DL

set_option Elab.async false
set_option linter.all false
set_option maxRecDepth 100000
set_option maxHeartbeats 4000000
/-! a comprehension whose list goes to a name at once -/
namespace DL
open PySem L2
def LC (X : Cx) (B : Hp) (S : En) (t : TE) (Q : List D → Prop) : Prop := ∀ σ W H, Rep X.K (gOf X) B S σ W H → ∀ R, ContF X.K (gOf X) W H Q R → t σ H R
section
variable {X : Cx} {B : Hp} {W0 : Wd} {S : En} {e a b : Expr} {es : List Expr} {pos : Pos} {E : Ends'}
end
end DL

set_option Elab.async false
set_option linter.all false
set_option maxRecDepth 100000
set_option maxHeartbeats 4000000
/-! all, any; defs called by keywords; comprehensions with a test, with two ranges -/
namespace DL
open PySem PySem.Spec PyProof.Rows L2
theorem Dns.bls {K : PySem.W.Frag} {I : Hp} : ∀ {bs : List Bool} {xs : List V}, Dns K I (bs.map D.bl) xs → xs = bs.map V.bl
  | [], _, .nil => rfl
  | b :: bs, _, .cons (.bl _) r => by rw [List.map_cons, Dns.bls r]
theorem Dns.ints {K : PySem.W.Frag} {I : Hp} : ∀ {bs : List Int} {xs : List V}, Dns K I (bs.map D.int) xs → xs = bs.map V.int
  | [], _, .nil => rfl
  | b :: bs, _, .cons (.int _) r => by rw [List.map_cons, Dns.ints r]
section
variable {X : Cx} {B : Hp} {S : En} {pos p : Pos} {Q : D → Prop} {e : Expr} {es : List Expr} {x : Str} {k n : Nat} {kws : List Keyword}
theorem cd_all {bs : List Bool} (hc : X.calm = true) (q : Q (.bl (bs.all id))) : CD X (.builtin "all") [.val (.lst (bs.map D.bl))] Q := cd_of (cr_all hc) fun vs W H ok ha R c => by
  obtain ⟨v, rfl, h⟩ := one_arg ha
  cases h with
  | lst h z => exact ⟨_, bs, rfl, by rw [← z.bls]; exact SqL.of (ok.ex _ _ h), c.now ok (.bl _) q⟩
/-! a def called by keywords alone -/
structure DfK (P : Program) (w : World) (K : PySem.W.Frag) (mg : Str → Option Value) (base : Heap) (x : Str) (k : Nat) (ks : List Str) (midD : List Sl → List Sl) (sp : SpD) : Prop where
  ex : ∃ f fd ps gf, ∃ mid : List V → List V, GnOk P w K mg base k f fd ps (lift K sp) ∧ mg x = some (.ref f) ∧ PySem.W.keepIn K (.ref f) = true ∧ KBn K fd ps 0 ks gf (fun vs zs => vs ++ mid zs) ∧ ∀ W bs zs, Args K W bs zs → Args K W (midD bs) (mid zs)
/-! comprehensions with a test -/
/-- [elt for g in a list if c] -/
theorem fd_lcLI {elt tg iter c : Expr} {scope : Scope} {own : List (Str × Nat)} {g : TG} {l : List D} {Q : List D → Prop} (J : Nat → List D → Prop) (S' : D → En) (hc : X.calm = true) (hN : X.N.Nodup) (ok : BlkOk X.N X.env.scope scope own)
    (hg : ∀ (s : Shared) (H : Hp) (C : Addr) (cl : List (Str × Addr)) (fp : List Addr), PG (X.blk s H scope (compEnvC scope cl C X.env) fp) tg g)
    (h : ED X B S iter fun d => d = .lst l ∧ l.length ≤ 50000 ∧ J 0 []) (hp : ∀ d ∈ l, Pat X.K g (own.map (·.2)) S d (S' d))
    (he : ∀ (i : Nat) d acc, l[i]? = some d → acc.length ≤ i → J i acc → ∀ (s : Shared) (H0 : Hp) (C : Addr) (cl : List (Str × Addr)) (fp : List Addr), TD (X.blk s H0 scope (compEnvC scope cl C X.env) fp) B (S' d) c fun b =>
      if b = true then ∀ (s : Shared) (H0 : Hp) (C : Addr) (cl : List (Str × Addr)) (fp : List Addr), ED (X.blk s H0 scope (compEnvC scope cl C X.env) fp) B (S' d) elt fun y => J (i + 1) (acc ++ [y]) else J (i + 1) acc)
    (hd : ∀ acc, acc.length ≤ l.length → J l.length acc → Q acc) (hs : ∀ x, foldedSetIterable iter X.env x = pure x := by intro _; rfl) : FD X B S (.ListComp elt [⟨tg, iter, [c], 0⟩] scope pos) Q := fun σ W H r R k => by
  refine PE.w (pe_lc (te := WEb X scope elt) (tt := WTb X scope c) hc hN (pi_list we_pe) ok hg (fun s H C cl fp => pts_one (wtb_pt s H C cl fp)) web_pe hs) ?_
  refine h σ W H r _ fun d v W1 H1 s1 ok1 n1 q1 => ?_
  obtain ⟨rfl, hz, j0⟩ := q1
  cases n1 with
  | @lst _ a xs ha m =>
    refine ⟨a, rfl, ⟨xs, SqL.of (ok1.ex _ _ ha)⟩, fun p hp0 => ?_⟩
    have r1 := r.step s1 ok1
    refine lc_list (K := X.K) (a := a) (xs := xs) (fun i H' => ∃ acc W', Mid X.K (gOf X) W1 H1 p acc W' H' ∧ acc.length ≤ i ∧ J i acc) ⟨[], W1, ⟨Stp.own hp0, ok1.own hp0, ok1.notP hp0, ok1.free hp0, [], upd_same, .nil⟩, Nat.le_refl _, j0⟩
      (fun i H' _ ⟨acc, W', mm, _⟩ => SqL.of (mm.ok.ex _ _ (mm.st.I _ _ ha))) ?_ ?_
    · rintro i x H' hx ⟨acc, W', mm, hl, j⟩
      obtain ⟨d, hd', nd⟩ := m.get hx
      have r2 := r1.step mm.st mm.ok
      refine hp d (List.mem_of_getElem? hd') (gOf X) B σ W' H' x r2 (nd.mono mm.st.I) _ fun σ2 e2 r3 => ?_
      refine ⟨e2, ?_⟩
      show WTb X scope c σ2 H' _
      intro s H0 C cl fp
      have lt : i < l.length := (List.getElem?_eq_some_iff.mp hd').1
      refine he i d acc hd' hl j s H0 C cl fp σ2 W' H' r3 _ fun b W2 H2 s2 ok2 q2 => ?_
      cases b with
      | false => exact iteF ⟨acc, W2, mm.step s2 ok2, Nat.le_succ_of_le hl, by simpa using q2⟩
      | true =>
        refine iteT ?_
        show WEb X scope elt σ2 H2 _
        intro s H0 C cl fp
        refine (show ∀ (s : Shared) (H0 : Hp) (C : Addr) (cl : List (Str × Addr)) (fp : List Addr), ED (X.blk s H0 scope (compEnvC scope cl C X.env) fp) B (S' d) elt fun y => J (i + 1) (acc ++ [y]) by simpa using q2) s H0 C cl fp σ2 W2 H2 (r3.step s2 ok2) _ fun y v W3 H3 s3 ok3 n3 q3 => ?_
        obtain ⟨xs', e1, e3, m3⟩ := ((mm.step s2 ok2).step s3 ok3).more hp0 n3 (by omega)
        exact ⟨xs', e1, e3, _, W3, m3, by simp only [List.length_append, List.length_singleton]; omega, q3⟩
    · rintro H' ⟨acc, W', mm, hl, j⟩
      obtain ⟨ys, hH, ds⟩ := mm.h
      rw [← m.length] at hl j
      exact k acc p ys W' H' (s1.trans ok1 mm.st) mm.ok (s1.free ok1 hp0) mm.n mm.i hH ds (hd acc hl j)
/-- .. of a tuple -/
theorem fd_lcTI {elt tg iter c : Expr} {scope : Scope} {own : List (Str × Nat)} {g : TG} {l : List D} {Q : List D → Prop} (J : Nat → List D → Prop) (S' : D → En) (hc : X.calm = true) (hN : X.N.Nodup) (ok : BlkOk X.N X.env.scope scope own)
    (hg : ∀ (s : Shared) (H : Hp) (C : Addr) (cl : List (Str × Addr)) (fp : List Addr), PG (X.blk s H scope (compEnvC scope cl C X.env) fp) tg g)
    (h : ED X B S iter fun d => d = .tup l ∧ l.length ≤ 50000 ∧ J 0 []) (hp : ∀ d ∈ l, Pat X.K g (own.map (·.2)) S d (S' d))
    (he : ∀ (i : Nat) d acc, l[i]? = some d → acc.length ≤ i → J i acc → ∀ (s : Shared) (H0 : Hp) (C : Addr) (cl : List (Str × Addr)) (fp : List Addr), TD (X.blk s H0 scope (compEnvC scope cl C X.env) fp) B (S' d) c fun b =>
      if b = true then ∀ (s : Shared) (H0 : Hp) (C : Addr) (cl : List (Str × Addr)) (fp : List Addr), ED (X.blk s H0 scope (compEnvC scope cl C X.env) fp) B (S' d) elt fun y => J (i + 1) (acc ++ [y]) else J (i + 1) acc)
    (hd : ∀ acc, acc.length ≤ l.length → J l.length acc → Q acc) (hs : ∀ x, foldedSetIterable iter X.env x = pure x := by intro _; rfl) : FD X B S (.ListComp elt [⟨tg, iter, [c], 0⟩] scope pos) Q := fun σ W H r R k => by
  refine PE.w (pe_lc (te := WEb X scope elt) (tt := WTb X scope c) hc hN (pi_tup we_pe) ok hg (fun s H C cl fp => pts_one (wtb_pt s H C cl fp)) web_pe hs) ?_
  refine h σ W H r _ fun d v W1 H1 s1 ok1 n1 q1 => ?_
  obtain ⟨rfl, hz, j0⟩ := q1
  cases n1 with
  | @tup _ a xs ha m =>
    refine ⟨a, rfl, ⟨xs, SqT.of (ok1.ex _ _ ha)⟩, fun p hp0 => ?_⟩
    have r1 := r.step s1 ok1
    refine lc_tup (K := X.K) (a := a) (xs := xs) (fun i H' => ∃ acc W', Mid X.K (gOf X) W1 H1 p acc W' H' ∧ acc.length ≤ i ∧ J i acc) ⟨[], W1, ⟨Stp.own hp0, ok1.own hp0, ok1.notP hp0, ok1.free hp0, [], upd_same, .nil⟩, Nat.le_refl _, j0⟩
      (fun i H' _ ⟨acc, W', mm, _⟩ => SqT.of (mm.ok.ex _ _ (mm.st.I _ _ ha))) ?_ ?_
    · rintro i x H' hx ⟨acc, W', mm, hl, j⟩
      obtain ⟨d, hd', nd⟩ := m.get hx
      have r2 := r1.step mm.st mm.ok
      refine hp d (List.mem_of_getElem? hd') (gOf X) B σ W' H' x r2 (nd.mono mm.st.I) _ fun σ2 e2 r3 => ?_
      refine ⟨e2, ?_⟩
      show WTb X scope c σ2 H' _
      intro s H0 C cl fp
      have lt : i < l.length := (List.getElem?_eq_some_iff.mp hd').1
      refine he i d acc hd' hl j s H0 C cl fp σ2 W' H' r3 _ fun b W2 H2 s2 ok2 q2 => ?_
      cases b with
      | false => exact iteF ⟨acc, W2, mm.step s2 ok2, Nat.le_succ_of_le hl, by simpa using q2⟩
      | true =>
        refine iteT ?_
        show WEb X scope elt σ2 H2 _
        intro s H0 C cl fp
        refine (show ∀ (s : Shared) (H0 : Hp) (C : Addr) (cl : List (Str × Addr)) (fp : List Addr), ED (X.blk s H0 scope (compEnvC scope cl C X.env) fp) B (S' d) elt fun y => J (i + 1) (acc ++ [y]) by simpa using q2) s H0 C cl fp σ2 W2 H2 (r3.step s2 ok2) _ fun y v W3 H3 s3 ok3 n3 q3 => ?_
        obtain ⟨xs', e1, e3, m3⟩ := ((mm.step s2 ok2).step s3 ok3).more hp0 n3 (by omega)
        exact ⟨xs', e1, e3, _, W3, m3, by simp only [List.length_append, List.length_singleton]; omega, q3⟩
    · rintro H' ⟨acc, W', mm, hl, j⟩
      obtain ⟨ys, hH, ds⟩ := mm.h
      rw [← m.length] at hl j
      exact k acc p ys W' H' (s1.trans ok1 mm.st) mm.ok (s1.free ok1 hp0) mm.n mm.i hH ds (hd acc hl j)
/-- [elt for g in a tuple] -/
theorem fd_lcT {elt tg iter : Expr} {scope : Scope} {own : List (Str × Nat)} {g : TG} {l : List D} {Q : List D → Prop} (J : Nat → List D → Prop) (S' : D → En) (hc : X.calm = true) (hN : X.N.Nodup) (ok : BlkOk X.N X.env.scope scope own)
    (hg : ∀ (s : Shared) (H : Hp) (C : Addr) (cl : List (Str × Addr)) (fp : List Addr), PG (X.blk s H scope (compEnvC scope cl C X.env) fp) tg g)
    (h : ED X B S iter fun d => d = .tup l ∧ l.length ≤ 50000 ∧ J 0 []) (hp : ∀ d ∈ l, Pat X.K g (own.map (·.2)) S d (S' d))
    (he : ∀ (i : Nat) d acc, l[i]? = some d → acc.length = i → J i acc → ∀ (s : Shared) (H0 : Hp) (C : Addr) (cl : List (Str × Addr)) (fp : List Addr), ED (X.blk s H0 scope (compEnvC scope cl C X.env) fp) B (S' d) elt fun y => J (i + 1) (acc ++ [y]))
    (hd : ∀ acc, acc.length = l.length → J l.length acc → Q acc) (hs : ∀ x, foldedSetIterable iter X.env x = pure x := by intro _; rfl) : FD X B S (.ListComp elt [⟨tg, iter, [], 0⟩] scope pos) Q := fun σ W H r R k => by
  refine PE.w (pe_lc (te := WEb X scope elt) hc hN (pi_tup we_pe) ok hg (fun _ _ _ _ _ => pts_nil) web_pe hs) ?_
  refine h σ W H r _ fun d v W1 H1 s1 ok1 n1 q1 => ?_
  obtain ⟨rfl, hz, j0⟩ := q1
  cases n1 with
  | @tup _ a xs ha m =>
    refine ⟨a, rfl, ⟨xs, SqT.of (ok1.ex _ _ ha)⟩, fun p hp0 => ?_⟩
    have r1 := r.step s1 ok1
    refine lc_tup (K := X.K) (a := a) (xs := xs) (fun i H' => ∃ acc W', Mid X.K (gOf X) W1 H1 p acc W' H' ∧ acc.length = i ∧ J i acc) ⟨[], W1, ⟨Stp.own hp0, ok1.own hp0, ok1.notP hp0, ok1.free hp0, [], upd_same, .nil⟩, rfl, j0⟩
      (fun i H' _ ⟨acc, W', mm, _⟩ => SqT.of (mm.ok.ex _ _ (mm.st.I _ _ ha))) ?_ ?_
    · rintro i x H' hx ⟨acc, W', mm, hl, j⟩
      obtain ⟨d, hd', nd⟩ := m.get hx
      have r2 := r1.step mm.st mm.ok
      refine hp d (List.mem_of_getElem? hd') (gOf X) B σ W' H' x r2 (nd.mono mm.st.I) _ fun σ2 e2 r3 => ?_
      refine ⟨e2, ?_⟩
      show WEb X scope elt σ2 H' _
      intro s H0 C cl fp
      have lt : i < l.length := (List.getElem?_eq_some_iff.mp hd').1
      refine he i d acc hd' hl j s H0 C cl fp σ2 W' H' r3 _ fun y v W2 H2 s2 ok2 n2 q2 => ?_
      obtain ⟨xs', e1, e3, m3⟩ := (mm.step s2 ok2).more hp0 n2 (by omega)
      exact ⟨xs', e1, e3, _, W2, m3, by simp [hl], q2⟩
    · rintro H' ⟨acc, W', mm, hl, j⟩
      obtain ⟨ys, hH, ds⟩ := mm.h
      rw [← m.length] at hl j
      exact k acc p ys W' H' (s1.trans ok1 mm.st) mm.ok (s1.free ok1 hp0) mm.n mm.i hH ds (hd acc hl j)
end
end DL

set_option Elab.async false
set_option linter.all false
set_option maxRecDepth 100000
set_option maxHeartbeats 2000000
/-! zip of a list or a tuple with a list or a tuple, whichever each is -/
namespace ZX
open PySem PySem.Spec PyProof.Rows
/-- an iterator at `it` that goes through the items of what stands at `l` -/
structure Feed where
  it : Addr
  l : Addr
  xs : Array Value
  st : Nat → Heap → Prop
  src : Heap → Prop
  stE : ∀ {h h' : Heap} {b : Addr} {k : Nat}, st k h → Heap.ExtBut b h h' → it ≠ b → st k h'
  srcE : ∀ {h h' : Heap} {b : Addr}, src h → Heap.ExtBut b h h' → l ≠ b → src h'
  item : ∀ {p : Program} {w : World} {A : Around} {E : Value → Shared → Prop} {s : Shared} {k : Nat} {x : Value} {Q : Value → Shared → Prop}, st k s.heap → src s.heap → xs[k]? = some x →
    (∀ h', st (k + 1) h' → Heap.SameBut it s.heap h' → Q x { s with heap := h' }) → wpAny (model p w) A (Builtin.SmallTypes.nextOf (.ref it)) Q E s
  done : ∀ {p : Program} {w : World} {A : Around} {E : Value → Shared → Prop} {s : Shared} {k : Nat} {Q : Value → Shared → Prop}, A.handled = none → st k s.heap → src s.heap → xs[k]? = none →
    (∀ h' e, Heap.ExtBut it s.heap h' → (∃ o, h'.get? e = some o ∧ o.cls = .type "StopIteration") → E (.ref e) { s with heap := h' }) → wpAny (model p w) A (Builtin.SmallTypes.nextOf (.ref it)) Q E s
  obj : ∀ {h : Heap} {k : Nat}, st k h → ∃ o, h.get? it = some o ∧ ∀ v, o.data ≠ .cell v
  same : ∀ {h h' : Heap} {k : Nat}, st k h → (∀ o, h.get? it = some o → h'.get? it = some o) → st k h'
def feedL (it l : Addr) (xs : Array Value) : Feed where
  it := it
  l := l
  xs := xs
  st := fun k h => h.IsListIter it l k
  src := fun h => h.IsList l xs
  stE := fun a b c => a.extBut b c
  srcE := fun a b c => a.extBut b c
  item := fun a b c d => wpAny_nextOf_list_item a b c d
  done := fun a b c d e => wpAny_nextOf_list_end a b c d e
  obj := fun ⟨o, e, _, d⟩ => ⟨o, e, fun v q => by rw [d] at q; cases q⟩
  same := fun a b => a.at b
def feedT (it l : Addr) (xs : Array Value) : Feed where
  it := it
  l := l
  xs := xs
  st := fun k h => h.IsTupleIter it l k
  src := fun h => h.IsTuple l xs
  stE := fun a b c => a.extBut b c
  srcE := fun a b c => a.extBut b c
  item := fun a b c d => RZ.nextOf_tuple_item a b c d
  done := fun a b c d e => RZ.nextOf_tuple_end a b c d e
  obj := fun ⟨o, e, _, d⟩ => ⟨o, e, fun v q => by rw [d] at q; cases q⟩
  same := fun a b => a.at b
section
variable {p : Program} {w : World} {A : Around} {E : Value → Shared → Prop} {s : Shared} {M N : Feed} {z TI TO : Addr} {i j : Nat} {a b : Value}
/-- how the zip stands ahead of a turn -/
structure Stands (M N : Feed) (z TI TO : Addr) (i j : Nat) (h : Heap) : Prop where
  z : IsZip h z TI TO .none
  ti : IsPair h TI (.ref M.it) (.ref N.it)
  to : ∃ a b, IsPair h TO a b
  f : M.st i h
  g : N.st j h
theorem next_item {x y : Value} {Q : Value → Shared → Prop} (D : ZipApart z TI TO M.it N.it M.l N.l) (st : Stands M N z TI TO i j s.heap) (sf : M.src s.heap) (sg : N.src s.heap) (hx : M.xs[i]? = some x) (hy : N.xs[j]? = some y)
    (hQ : ∀ h', IsZip h' z TI TO (rawInt s.heap.objs.size) → IsPair h' TO x y → M.st (i + 1) h' → N.st (j + 1) h' → IsPair h' s.heap.objs.size x y → h'.objs.size = s.heap.objs.size + 1 →
      (∀ c o, c ≠ z → c ≠ TO → c ≠ M.it → c ≠ N.it → s.heap.get? c = some o → h'.get? c = some o) → Q (.ref s.heap.objs.size) { s with heap := h' }) :
    wpAny (model p w) A (Builtin.«zip.__next__» ⟨[.ref z], []⟩) (fun fin s' => ∃ v, fin = .done (.ret v) ∧ Q v s') E s := by
  obtain ⟨hz, hTI, ⟨a, b, hTO⟩, f0, g0⟩ := st
  show wpAny _ _ (field (.ref z) 2 >>= _) _ _ _
  refine wpAny_bind (wpAny_field hz rfl (x := .bool false) rfl ?_); show wpAny _ _ (field (.ref z) 3 >>= _) _ _ _
  refine wpAny_bind (wpAny_field hz rfl (x := .ref TI) rfl ?_); refine wpAny_bind (wpAny_seqItems hTI rfl ?_)
  show wpAny _ _ (Builtin.SmallTypes.ownedTupleIsFree (.ref z) >>= _) _ _ _
  refine wpAny_bind ?_; unfold Builtin.SmallTypes.ownedTupleIsFree
  refine wpAny_bind (wpAny_field hz rfl (x := .none) rfl (wpAny_pure ?_)); simp only [if_true]
  refine wpAny_bind (wpAny_rule ?_); refine wpAny_bind (wpAny_field hz rfl (x := .ref TO) rfl ?_)
  refine wpAny_bind (wpAny_setField_rec hz (by simp) fun m1 z1 e1 => ?_)
  have z1' : IsZip m1 z TI TO .ellipsis := z1
  refine wpAny_bind ?_; simp only [List.zipIdx_cons, List.zipIdx_nil, List.forIn_cons, List.forIn_nil]
  have x1 := e1.extBut
  refine wpAny_bind (wpAny_bind (wpAny_onRaise ?_)); show wpAny _ _ (Builtin.SmallTypes.nextOf (.ref M.it) >>= _) _ _ _
  refine wpAny_bind (M.item (M.stE f0 x1 D.i1z) (M.srcE sf x1 D.l1z) hx fun m2 f2 e2 => wpAny_pure ?_)
  have x2 := e2.extBut
  have t2 : IsPair m2 TO a b := x2 _ _ D.TOi1 (x1 _ _ D.TOz hTO)
  refine wpAny_bind (wpAny_seqItems t2 rfl ?_); refine wpAny_bind (wpAny_updateSeq_pair t2 fun m3 t3 e3 => ?_)
  have x3 := e3.extBut
  have t3' : IsPair m3 TO x b := t3
  refine wpAny_bind (wpAny_letGo (wpAny_pure ?_)); refine wpAny_bind (wpAny_bind (wpAny_onRaise ?_))
  show wpAny _ _ (Builtin.SmallTypes.nextOf (.ref N.it) >>= _) _ _ _
  refine wpAny_bind (N.item (N.stE (N.stE (N.stE g0 x1 D.i2z) x2 D.i12.symm) x3 D.TOi2.symm) (N.srcE (N.srcE (N.srcE sg x1 D.l2z) x2 D.l2i1) x3 D.l2TO) hy fun m4 g4 e4 => wpAny_pure ?_)
  have x4 := e4.extBut
  have t4 : IsPair m4 TO x b := x4 _ _ D.TOi2 t3'
  refine wpAny_bind (wpAny_seqItems t4 rfl ?_); refine wpAny_bind (wpAny_updateSeq_pair t4 fun m5 t5 e5 => ?_)
  have x5 := e5.extBut
  have t5' : IsPair m5 TO x y := t5
  refine wpAny_bind (wpAny_letGo (wpAny_pure (wpAny_pure ?_))); refine wpAny_bind (wpAny_seqItems t5' rfl ?_)
  refine wpAny_bind (wpAny_newTuple ?_)
  have size5 : m5.objs.size = s.heap.objs.size := by rw [e5.1, e4.1, e3.1, e2.1, e1.1]
  have z5 : IsZip m5 z TI TO .ellipsis := x5 _ _ D.TOz.symm (x4 _ _ D.i2z.symm (x3 _ _ D.TOz.symm (x2 _ _ D.i1z.symm z1')))
  have old5 : ∀ c o, c ≠ z → c ≠ TO → c ≠ M.it → c ≠ N.it → s.heap.get? c = some o → m5.get? c = some o := fun c o n1 n2 n3 n4 e => x5 _ _ n2 (x4 _ _ n4 (x3 _ _ n2 (x2 _ _ n3 (x1 _ _ n1 e))))
  have f5 : M.st (i + 1) m5 := M.stE (M.stE (M.stE f2 x3 D.TOi1.symm) x4 D.i12) x5 D.TOi1.symm
  have g5 : N.st (j + 1) m5 := N.stE g4 x5 D.TOi2.symm
  have zlt : z < m5.objs.size := Heap.lt_size z5
  show wpAny _ _ (Builtin.SmallTypes.ownedTupleHandOut (.ref z) (.ref m5.objs.size) >>= _) _ _ _
  refine wpAny_bind ?_; unfold Builtin.SmallTypes.ownedTupleHandOut
  have z6 : IsZip (m5.push { cls := .type "tuple", data := .seq #[x, y] }) z TI TO .ellipsis := Heap.get?_push_of_some _ z5
  refine wpAny_bind (wpAny_setField_rec z6 (by simp) fun m7 z7 e7 => ?_)
  have z7' : IsZip m7 z TI TO (rawInt m5.objs.size) := z7
  refine wpAny_setField_rec z7' (by simp) fun m8 z8 e8 => ?_
  have z8' : IsZip m8 z TI TO (rawInt m5.objs.size) := z8
  have up : ∀ c o, c ≠ z → m5.get? c = some o → m8.get? c = some o := fun c o n e => e8.extBut _ _ n (e7.extBut _ _ n (Heap.get?_push_of_some _ e))
  have nz : m5.objs.size ≠ z := Nat.ne_of_gt zlt
  have T8 : IsPair m8 m5.objs.size x y := e8.extBut _ _ nz (e7.extBut _ _ nz (Heap.get?_push_size _ rfl))
  have size8 : m8.objs.size = m5.objs.size + 1 := by rw [e8.1, e7.1, Heap.size_push]
  rw [size5] at z8' T8 size8
  refine wpAny_pure ⟨_, rfl, ?_⟩
  show Q (.ref m5.objs.size) _
  rw [size5]
  exact hQ m8 z8' (up _ _ D.TOz t5') (M.same f5 fun o e => up _ o D.i1z e) (N.same g5 fun o e => up _ o D.i2z e) T8 size8 fun c o n1 n2 n3 n4 e => up c o n1 (old5 c o n1 n2 n3 n4 e)
theorem next_end {Q : Fin → Shared → Prop} (hh : A.handled = none) (D : ZipApart z TI TO M.it N.it M.l N.l) (st : Stands M N z TI TO i j s.heap) (sf : M.src s.heap) (sg : N.src s.heap) (hend : M.xs[i]? = none ∨ N.xs[j]? = none)
    (hE : ∀ h' e, (∀ c o, c ≠ z → c ≠ TO → c ≠ M.it → c ≠ N.it → s.heap.get? c = some o → h'.get? c = some o) → (∃ o, h'.get? e = some o ∧ o.cls = .type "StopIteration") → E (.ref e) { s with heap := h' }) :
    wpAny (model p w) A (Builtin.«zip.__next__» ⟨[.ref z], []⟩) Q E s := by
  obtain ⟨hz, hTI, ⟨a, b, hTO⟩, f0, g0⟩ := st
  show wpAny _ _ (field (.ref z) 2 >>= _) _ _ _
  refine wpAny_bind (wpAny_field hz rfl (x := .bool false) rfl ?_); show wpAny _ _ (field (.ref z) 3 >>= _) _ _ _
  refine wpAny_bind (wpAny_field hz rfl (x := .ref TI) rfl ?_); refine wpAny_bind (wpAny_seqItems hTI rfl ?_)
  show wpAny _ _ (Builtin.SmallTypes.ownedTupleIsFree (.ref z) >>= _) _ _ _
  refine wpAny_bind ?_; unfold Builtin.SmallTypes.ownedTupleIsFree
  refine wpAny_bind (wpAny_field hz rfl (x := .none) rfl (wpAny_pure ?_)); simp only [if_true]
  refine wpAny_bind (wpAny_rule ?_); refine wpAny_bind (wpAny_field hz rfl (x := .ref TO) rfl ?_)
  refine wpAny_bind (wpAny_setField_rec hz (by simp) fun m1 z1 e1 => ?_)
  have z1' : IsZip m1 z TI TO .ellipsis := z1
  refine wpAny_bind ?_; simp only [List.zipIdx_cons, List.zipIdx_nil, List.forIn_cons, List.forIn_nil]
  have x1 := e1.extBut
  refine wpAny_bind (wpAny_bind (wpAny_onRaise ?_)); show wpAny _ _ (Builtin.SmallTypes.nextOf (.ref M.it) >>= _) _ _ _
  cases hx : M.xs[i]? with
  | none =>
    refine wpAny_bind (M.done hh (M.stE f0 x1 D.i1z) (M.srcE sf x1 D.l1z) hx fun m2 e x2 he => ?_)
    obtain ⟨oe, h1, h2⟩ := he
    have z2 : IsZip m2 z TI TO .ellipsis := x2 _ _ D.i1z.symm z1'
    have ez : e ≠ z := fun q => by rw [q, z2] at h1; cases h1; simp at h2
    exact wpAny_setField_rec z2 (by simp) fun m3 _ e3 => hE m3 e (fun c o n1 _ n3 _ q => e3.extBut _ _ n1 (x2 _ _ n3 (x1 _ _ n1 q))) ⟨oe, e3.extBut _ _ ez h1, h2⟩
  | some x =>
    have hy : N.xs[j]? = none := by rcases hend with h | h; rw [hx] at h; cases h; exact h
    refine wpAny_bind (M.item (M.stE f0 x1 D.i1z) (M.srcE sf x1 D.l1z) hx fun m2 f2 e2 => wpAny_pure ?_)
    have x2 := e2.extBut
    have t2 : IsPair m2 TO a b := x2 _ _ D.TOi1 (x1 _ _ D.TOz hTO)
    refine wpAny_bind (wpAny_seqItems t2 rfl ?_); refine wpAny_bind (wpAny_updateSeq_pair t2 fun m3 t3 e3 => ?_)
    have x3 := e3.extBut
    refine wpAny_bind (wpAny_letGo (wpAny_pure ?_)); refine wpAny_bind (wpAny_bind (wpAny_onRaise ?_))
    show wpAny _ _ (Builtin.SmallTypes.nextOf (.ref N.it) >>= _) _ _ _
    refine wpAny_bind (N.done hh (N.stE (N.stE (N.stE g0 x1 D.i2z) x2 D.i12.symm) x3 D.TOi2.symm) (N.srcE (N.srcE (N.srcE sg x1 D.l2z) x2 D.l2i1) x3 D.l2TO) hy fun m4 e x4 he => ?_)
    obtain ⟨oe, h1, h2⟩ := he
    have z4 : IsZip m4 z TI TO .ellipsis := x4 _ _ D.i2z.symm (x3 _ _ D.TOz.symm (x2 _ _ D.i1z.symm z1'))
    have ez : e ≠ z := fun q => by rw [q, z4] at h1; cases h1; simp at h2
    exact wpAny_setField_rec z4 (by simp) fun m5 _ e5 => hE m5 e (fun c o n1 n2 n3 n4 q => e5.extBut _ _ n1 (x4 _ _ n4 (x3 _ _ n2 (x2 _ _ n3 (x1 _ _ n1 q))))) ⟨oe, e5.extBut _ _ ez h1, h2⟩
end
end ZX
namespace ZX
open PySem PySem.Spec PyProof.Rows
/-- t: a tuple, else a list -/
def Stand : Bool → Heap → Addr → Array Value → Prop
  | true => fun h l xs => h.IsTuple l xs
  | false => fun h l xs => h.IsList l xs
def feed (t : Bool) (it l : Addr) (xs : Array Value) : Feed := match t with
  | true => feedT it l xs
  | false => feedL it l xs
theorem feed_it {t : Bool} {it l : Addr} {xs : Array Value} : (feed t it l xs).it = it := by cases t <;> rfl
theorem feed_l {t : Bool} {it l : Addr} {xs : Array Value} : (feed t it l xs).l = l := by cases t <;> rfl
theorem feed_xs {t : Bool} {it l : Addr} {xs : Array Value} : (feed t it l xs).xs = xs := by cases t <;> rfl
theorem feed_src {t : Bool} {it l : Addr} {xs : Array Value} {h : Heap} (e : Stand t h l xs) : (feed t it l xs).src h := by cases t <;> exact e
abbrev io (t : Bool) (l : Addr) : Obj := { cls := .type (match t with | true => "tuple_iterator" | false => "list_iterator"), data := .fields #[.ref l, .int 0 0] }
theorem feed_new {t : Bool} {it l : Addr} {xs : Array Value} {h : Heap} (e : h.get? it = some (io t l)) : (feed t it l xs).st 0 h := by cases t <;> exact ⟨_, e, rfl, rfl⟩
abbrev n1 (t1 : Bool) (h : Heap) (l1 : Addr) : Heap := h.push (io t1 l1)
abbrev n2 (t1 t2 : Bool) (h : Heap) (l1 l2 : Addr) : Heap := (n1 t1 h l1).push (io t2 l2)
abbrev n3 (t1 t2 : Bool) (h : Heap) (l1 l2 : Addr) : Heap := (n2 t1 t2 h l1 l2).push { cls := .type "tuple", data := .seq #[.ref h.objs.size, .ref (n1 t1 h l1).objs.size] }
abbrev n4 (t1 t2 : Bool) (h : Heap) (l1 l2 : Addr) : Heap := (n3 t1 t2 h l1 l2).push { cls := .type "tuple", data := .seq #[.none, .none] }
abbrev n5 (t1 t2 : Bool) (h : Heap) (l1 l2 : Addr) : Heap := (n4 t1 t2 h l1 l2).push { cls := .type "zip", data := .fields #[.none, .bool false, .bool false, .ref (n2 t1 t2 h l1 l2).objs.size, .ref (n3 t1 t2 h l1 l2).objs.size] }
theorem new_tf (l1 l2 : Addr) (xs ys : Array Value) : Meets (Builtin.«zip.__new__» ⟨[.type "zip", .ref l1, .ref l2], []⟩) (fun _ R s => s.heap.IsTuple l1 xs ∧ s.heap.IsList l2 ys ∧ R (.ok (.ret (.ref (n4 true false s.heap l1 l2).objs.size))) { s with heap := n5 true false s.heap l1 l2 }) :=
  .of_wp fun prog w A R s h => by
    obtain ⟨hp, g, d, tk, os⟩ := s; obtain ⟨a1, a2, h⟩ := h; have hsub := sub_zip
    have b1 : (Shared.heap ⟨hp, g, d, tk, os⟩).IsTuple l1 xs := a1
    have b2 : (Shared.heap ⟨hp.push (io true l1), g, d, tk, os⟩).IsList l2 ys := Heap.IsList.push a2 _
    wp_walk using wpAny_pyIter_tuple b1, wpAny_pyIter_list b2
    exact ⟨_, rfl, h⟩
theorem new_ft (l1 l2 : Addr) (xs ys : Array Value) : Meets (Builtin.«zip.__new__» ⟨[.type "zip", .ref l1, .ref l2], []⟩) (fun _ R s => s.heap.IsList l1 xs ∧ s.heap.IsTuple l2 ys ∧ R (.ok (.ret (.ref (n4 false true s.heap l1 l2).objs.size))) { s with heap := n5 false true s.heap l1 l2 }) :=
  .of_wp fun prog w A R s h => by
    obtain ⟨hp, g, d, tk, os⟩ := s; obtain ⟨a1, a2, h⟩ := h; have hsub := sub_zip
    have b1 : (Shared.heap ⟨hp, g, d, tk, os⟩).IsList l1 xs := a1
    have b2 : (Shared.heap ⟨hp.push (io false l1), g, d, tk, os⟩).IsTuple l2 ys := Heap.IsTuple.push a2 _
    wp_walk using wpAny_pyIter_list b1, wpAny_pyIter_tuple b2
    exact ⟨_, rfl, h⟩
theorem new_any (t1 t2 : Bool) (l1 l2 : Addr) (xs ys : Array Value) : Meets (Builtin.«zip.__new__» ⟨[.type "zip", .ref l1, .ref l2], []⟩) (fun _ R s => Stand t1 s.heap l1 xs ∧ Stand t2 s.heap l2 ys ∧ R (.ok (.ret (.ref (n4 t1 t2 s.heap l1 l2).objs.size))) { s with heap := n5 t1 t2 s.heap l1 l2 }) := by
  cases t1 <;> cases t2
  · exact meets_zip_new l1 l2 xs ys
  · exact new_ft l1 l2 xs ys
  · exact new_tf l1 l2 xs ys
  · exact RZ.meets_zipT_new l1 l2 xs ys
section
variable {p : Program} {w : World} {A : Around} {E : Value → Shared → Prop} {s : Shared} {M N : Feed} {z TI TO : Addr} {i j : Nat} {a b : Value}
theorem zip_new {t1 t2 : Bool} {l1 l2 : Addr} {xs ys : Array Value} {Q : Value → Shared → Prop} (h1 : Stand t1 s.heap l1 xs) (h2 : Stand t2 s.heap l2 ys)
    (h : ∀ h', Stands (feed t1 s.heap.objs.size l1 xs) (feed t2 (s.heap.objs.size + 1) l2 ys) (s.heap.objs.size + 4) (s.heap.objs.size + 2) (s.heap.objs.size + 3) 0 0 h' → (∀ c o, s.heap.get? c = some o → h'.get? c = some o) → Q (.ref (s.heap.objs.size + 4)) { s with heap := h' }) :
    wpAny (model p w) A (call (.type "zip") [.ref l1, .ref l2]) Q E s := by
  refine callType_new F.called_zip (by decide) (F.typeCall_zip_2 _ _) (F.newCall_zip_2 _ _) (fun obj => F.args_object_init_3 obj _ _) F.entry_zip_new (new_any t1 t2 l1 l2 xs ys) ⟨h1, h2, ?_⟩
  have c1 : (n1 t1 s.heap l1).objs.size = s.heap.objs.size + 1 := Heap.size_push ..
  have c2 : (n2 t1 t2 s.heap l1 l2).objs.size = s.heap.objs.size + 2 := by rw [Heap.size_push, c1]
  have c3 : (n3 t1 t2 s.heap l1 l2).objs.size = s.heap.objs.size + 3 := by rw [Heap.size_push, c2]
  have c4 : (n4 t1 t2 s.heap l1 l2).objs.size = s.heap.objs.size + 4 := by rw [Heap.size_push, c3]
  have e5 : (n5 t1 t2 s.heap l1 l2).get? (n4 t1 t2 s.heap l1 l2).objs.size = some _ := Heap.get?_push_size _ rfl
  have e4 : (n5 t1 t2 s.heap l1 l2).get? (n3 t1 t2 s.heap l1 l2).objs.size = some _ := Heap.get?_push_of_some _ (Heap.get?_push_size _ rfl)
  have e3 : (n5 t1 t2 s.heap l1 l2).get? (n2 t1 t2 s.heap l1 l2).objs.size = some _ := Heap.get?_push_of_some _ (Heap.get?_push_of_some _ (Heap.get?_push_size _ rfl))
  have e2 : (n5 t1 t2 s.heap l1 l2).get? (n1 t1 s.heap l1).objs.size = some _ := Heap.get?_push_of_some _ (Heap.get?_push_of_some _ (Heap.get?_push_of_some _ (Heap.get?_push_size _ rfl)))
  have e1 : (n5 t1 t2 s.heap l1 l2).get? s.heap.objs.size = some _ := Heap.get?_push_of_some _ (Heap.get?_push_of_some _ (Heap.get?_push_of_some _ (Heap.get?_push_of_some _ (Heap.get?_push_size _ rfl))))
  show _ ∧ _
  rw [c2, c3, c4] at e5; rw [c1, c2] at e3; rw [c3] at e4; rw [c1] at e2; rw [c4]
  refine ⟨⟨_, e5, rfl⟩, h _ ⟨e5, by rw [feed_it, feed_it]; exact e3, ⟨_, _, e4⟩, feed_new e1, feed_new e2⟩ fun c o x => ?_⟩
  exact Heap.get?_push_of_some _ (Heap.get?_push_of_some _ (Heap.get?_push_of_some _ (Heap.get?_push_of_some _ (Heap.get?_push_of_some _ x))))
theorem turn_item {x y : Value} {Q : Option Value → Shared → Prop} (D : ZipApart z TI TO M.it N.it M.l N.l) (st : Stands M N z TI TO i j s.heap) (sf : M.src s.heap) (sg : N.src s.heap) (hx : M.xs[i]? = some x) (hy : N.xs[j]? = some y)
    (hQ : ∀ h', IsZip h' z TI TO (rawInt s.heap.objs.size) → IsPair h' TO x y → M.st (i + 1) h' → N.st (j + 1) h' → IsPair h' s.heap.objs.size x y → h'.objs.size = s.heap.objs.size + 1 →
      (∀ c o, c ≠ z → c ≠ TO → c ≠ M.it → c ≠ N.it → s.heap.get? c = some o → h'.get? c = some o) → Q (some (.ref s.heap.objs.size)) { s with heap := h' }) : wpAny (model p w) A (pyNext (.ref z)) Q E s := by
  have ty : s.TypeIs (.ref z) "zip" := ⟨_, st.z, rfl⟩
  unfold pyNext
  refine wpAny_bind (wpAny_attempt (wpAny_callSpecial?_slot (name := Str.ofString "__next__") ty F.slot_zip_next (wpAny_call_entry F.slot_zip_next ty F.entry_zip_next ?_ (F.args_zip_next_1 _))))
  exact next_item D st sf sg hx hy fun h' a1 a2 a3 a4 a5 a6 a7 => wpAny_pure (hQ h' a1 a2 a3 a4 a5 a6 a7)
theorem turn_end {Q : Option Value → Shared → Prop} (hh : A.handled = none) (D : ZipApart z TI TO M.it N.it M.l N.l) (st : Stands M N z TI TO i j s.heap) (sf : M.src s.heap) (sg : N.src s.heap) (hend : M.xs[i]? = none ∨ N.xs[j]? = none)
    (hQ : ∀ h', (∀ c o, c ≠ z → c ≠ TO → c ≠ M.it → c ≠ N.it → s.heap.get? c = some o → h'.get? c = some o) → Q none { s with heap := h' }) : wpAny (model p w) A (pyNext (.ref z)) Q E s := by
  have ty : s.TypeIs (.ref z) "zip" := ⟨_, st.z, rfl⟩
  unfold pyNext
  refine wpAny_bind (wpAny_attempt (wpAny_callSpecial?_slot (name := Str.ofString "__next__") ty F.slot_zip_next (wpAny_call_entry F.slot_zip_next ty F.entry_zip_next (next_end hh D st sf sg hend fun h' e k he => ?_) (F.args_zip_next_1 _))))
  obtain ⟨o, h1, h2⟩ := he
  exact wpAny_bind (wpAny_isInstance (T := "StopIteration") (b := true) ⟨o, h1, h2⟩ isSubtype_stop (wpAny_pure (hQ _ k)))
end
end ZX

set_option Elab.async false
set_option linter.all false
set_option maxRecDepth 100000
set_option maxHeartbeats 4000000
/-! comprehensions over zip -/
namespace DL
open PySem PySem.Spec PyProof.Rows L2 ZX
/-- t: a tuple, else a list -/
def SqB (K : PySem.W.Frag) : Bool → Hp → Addr → List V → Prop
  | true => fun H a xs => SqT K H a xs
  | false => fun H a xs => SqL K H a xs
theorem SqB.stand {X : Cx} {pins : List (Addr × Obj)} {σ : L2.St} {H : Hp} {s : Shared} {t : Bool} {a : Addr} {xs : List V} (I : Inv X pins σ H s) (h : SqB X.K t H a xs) : ∃ its : List Value, Vals xs its ∧ Stand t s.heap a its.toArray := by
  cases t with
  | true =>
    obtain ⟨its, rv, q, _⟩ := I.tuple h
    exact ⟨its, rv, q⟩
  | false =>
    obtain ⟨its, rv, q, _⟩ := I.list h
    exact ⟨its, rv, q.isList⟩
theorem SqB.inj {X : Cx} {pins : List (Addr × Obj)} {σ : L2.St} {H : Hp} {s : Shared} {t : Bool} {a : Addr} {xs ys : List V} (I : Inv X pins σ H s) (h : SqB X.K t H a xs) (h' : SqB X.K t H a ys) : xs = ys := by
  cases t with
  | true => exact I.tuple_inj h h'
  | false => exact I.list_inj h h'
theorem stand_lt {t : Bool} {h : Heap} {a : Addr} {xs : Array Value} (e : Stand t h a xs) : a < h.objs.size := by
  cases t <;> obtain ⟨o, e, _⟩ := e <;> exact Heap.lt_size e
/-- the two sequences as they stand at each turn, the items in new pairs -/
def Itm (K : PySem.W.Frag) (t u : Bool) (a b : Addr) : It where
  go := fun i H => ∃ (xs ys : List V) (x y : V), SqB K t H a xs ∧ SqB K u H b ys ∧ xs[i]? = some x ∧ ys[i]? = some y
  yld := fun i H v H' => ∃ T x y, v = .ref T ∧ H T = none ∧ H' = upd H T (.tup [x, y]) ∧ (∀ xs, SqB K t H a xs → xs[i]? = some x) ∧ ∀ ys, SqB K u H b ys → ys[i]? = some y
  stop := fun i H => ∃ xs ys : List V, SqB K t H a xs ∧ SqB K u H b ys ∧ (xs.length ≤ i ∨ ys.length ≤ i)
/-- the iterators go through a, b, whatever these hold -/
def Goes (t u : Bool) (i1 i2 a b z TI TO : Addr) (i : Nat) (h : Heap) : Prop := Stands (feed t i1 a #[]) (feed u i2 b #[]) z TI TO i i h
theorem feed_st {t : Bool} {it l : Addr} {xs ys : Array Value} {k : Nat} {h : Heap} : (feed t it l xs).st k h ↔ (feed t it l ys).st k h := by cases t <;> exact Iff.rfl
theorem stands_of {t u : Bool} {i1 i2 a b z TI TO : Addr} {i : Nat} {h : Heap} {xs ys xs' ys' : Array Value} (s : Stands (feed t i1 a xs) (feed u i2 b ys) z TI TO i i h) : Stands (feed t i1 a xs') (feed u i2 b ys') z TI TO i i h :=
  ⟨s.z, by have q := s.ti; rw [feed_it, feed_it] at q ⊢; exact q, s.to, feed_st.mp s.f, feed_st.mp s.g⟩
theorem apart_of {t u : Bool} {i1 i2 a b z TI TO : Addr} {xs ys : Array Value} (D : ZipApart z TI TO i1 i2 a b) : ZipApart z TI TO (feed t i1 a xs).it (feed u i2 b ys).it (feed t i1 a xs).l (feed u i2 b ys).l := by
  rw [feed_it, feed_it, feed_l, feed_l]
  exact D
theorem turn_m {P : Program} {w : World} {K : PySem.W.Frag} {elts : List Expr} {kk : Nat} {tpos : Pos} {t u : Bool} {a b z TI TO i1 i2 : Addr} (D : ZipApart z TI TO i1 i2 a b) : Turn P w K (.Tuple elts kk tpos) (Itm K t u a b) [z, TI, TO, i1, i2] z (Goes t u i1 i2 a b z TI TO) where
  mem := by simp
  obj := fun i h st c hc => by
    obtain ⟨x, y, hTO⟩ := st.to
    have e' : c = z ∨ c = TI ∨ c = TO ∨ c = i1 ∨ c = i2 := by simpa using hc
    rcases e' with q | q | q | q | q
    · subst q; exact ⟨_, st.z, fun v q => nomatch q⟩
    · subst q; exact ⟨_, st.ti, fun v q => nomatch q⟩
    · subst q; exact ⟨_, hTO, fun v q => nomatch q⟩
    · subst q; have r := (feed t c a #[]).obj st.f; rw [feed_it] at r; exact r
    · subst q; have r := (feed u c b #[]).obj st.g; rw [feed_it] at r; exact r
  keep := fun i h h' st k => by
    obtain ⟨x, y, hTO⟩ := st.to
    refine ⟨k z (by simp) _ st.z, k TI (by simp) _ st.ti, ⟨x, y, k TO (by simp) _ hTO⟩, (feed t i1 a #[]).same st.f fun o q => ?_, (feed u i2 b #[]).same st.g fun o q => ?_⟩
    · rw [feed_it] at q ⊢; exact k i1 (by simp) o q
    · rw [feed_it] at q ⊢; exact k i2 (by simp) o q
  item := by
    intro X hP hw hK hc i pins s σ H E I hf st hg
    subst hP hw hK
    obtain ⟨xs, ys, x, y, qx, qy, hx, hy⟩ := hg
    obtain ⟨m1, r1, p1⟩ := qx.stand I
    obtain ⟨m2, r2, p2⟩ := qy.stand I
    obtain ⟨v1, e1, rv1⟩ := r1.get hx
    obtain ⟨v2, e2, rv2⟩ := r2.get hy
    have st' : Stands (feed t i1 a m1.toArray) (feed u i2 b m2.toArray) z TI TO i i s.heap := stands_of st
    have zlt : z < s.heap.objs.size := Heap.lt_size st.z
    refine turn_item (apart_of D) st' (feed_src p1) (feed_src p2) (x := v1) (y := v2) (by rw [feed_xs]; simpa using e1) (by rw [feed_xs]; simpa using e2) fun h' z' t' f' g' T' size' keep => ?_
    rw [feed_it, feed_it] at keep
    refine ⟨_, rfl, wpAny_letOwnedTupleGo_zip (s := { s with heap := h' }) z' fun h'' z'' sb => ?_⟩
    have T2 : h''.get? s.heap.objs.size = some { cls := .type "tuple", data := .seq #[v1, v2] } := (sb.2 _ (Nat.ne_of_gt zlt)).trans T'
    have new : ObjOk X.prog X.w (upd H s.heap.objs.size (.tup [x, y])) h'' s.heap.objs.size (.tup [x, y]) := ⟨by show 2 ≤ sizeLine; decide, [v1, v2], .cons rv1 (.cons rv2 .nil), ⟨_, T2, rfl, _, rfl⟩⟩
    have far : ∀ c, c ∉ [z, TI, TO, i1, i2] → c ≠ z ∧ c ≠ TO ∧ c ≠ i1 ∧ c ≠ i2 := fun c hb => ⟨fun q => hb (by simp [q]), fun q => hb (by simp [q]), fun q => hb (by simp [q]), fun q => hb (by simp [q])⟩
    have I1 : Inv X pins σ (upd H s.heap.objs.size (.tup [x, y])) { s with heap := h'' } :=
      I.turnedNew (t' := s.toks) (ch := [z, TI, TO, i1, i2]) (fun c o hb q => let ⟨q1, q2, q3, q4⟩ := far c hb; (sb.2 c q1).trans (keep c o q1 q2 q3 q4 q)) hf (Nat.le_refl _) new
    refine ⟨.ref s.heap.objs.size, _, I1, rfl, ⟨_, x, y, rfl, I.hok.fresh (Nat.le_refl _), rfl, fun l hl => by rw [hl.inj I qx]; exact hx, fun l hl => by rw [hl.inj I qy]; exact hy⟩, ⟨z'', ?_, ⟨v1, v2, ?_⟩, ?_, ?_⟩, fun c hcm => ?_⟩
    · have e := keep _ _ D.TIz D.TITO D.TIi1 D.TIi2 st.ti
      exact (sb.2 _ D.TIz).trans e
    · exact (sb.2 _ D.TOz).trans t'
    · refine feed_st.mp ((feed t i1 a m1.toArray).same f' fun o q => ?_)
      rw [feed_it] at q ⊢
      exact (sb.2 _ D.i1z).trans q
    · refine feed_st.mp ((feed u i2 b m2.toArray).same g' fun o q => ?_)
      rw [feed_it] at q ⊢
      exact (sb.2 _ D.i2z).trans q
    · have lt : c < s.heap.objs.size := by
        have e' : c = z ∨ c = TI ∨ c = TO ∨ c = i1 ∨ c = i2 := by simpa using hcm
        rcases e' with q | q | q | q | q
        · rw [q]; exact zlt
        · rw [q]; exact Heap.lt_size st.ti
        · obtain ⟨_, _, e⟩ := st.to; rw [q]; exact Heap.lt_size e
        · obtain ⟨_, e, _⟩ := (feed t i1 a #[]).obj st.f; rw [feed_it] at e; rw [q]; exact Heap.lt_size e
        · obtain ⟨_, e, _⟩ := (feed u i2 b #[]).obj st.g; rw [feed_it] at e; rw [q]; exact Heap.lt_size e
      rw [upd_ne (Nat.ne_of_lt lt)]
      exact (hf c hcm).1
  done := by
    intro X hP hw hK hc i pins s σ H E I hf st hg
    subst hP hw hK
    obtain ⟨xs, ys, qx, qy, hend⟩ := hg
    obtain ⟨m1, r1, p1⟩ := qx.stand I
    obtain ⟨m2, r2, p2⟩ := qy.stand I
    have l1 := r1.length
    have l2 := r2.length
    have st' : Stands (feed t i1 a m1.toArray) (feed u i2 b m2.toArray) z TI TO i i s.heap := stands_of st
    refine turn_end (I.ok.hd hc) (apart_of D) st' (feed_src p1) (feed_src p2) ?_ fun h' keep => ?_
    · rw [feed_xs, feed_xs]
      rcases hend with q | q
      · exact .inl (by simp; omega)
      · exact .inr (by simp; omega)
    · rw [feed_it, feed_it] at keep
      exact ⟨rfl, I.turnedL (t' := s.toks) (ch := [z, TI, TO, i1, i2]) (fun c o hb q => keep c o (fun q' => hb (by simp [q'])) (fun q' => hb (by simp [q'])) (fun q' => hb (by simp [q'])) (fun q' => hb (by simp [q'])) q) hf⟩
  self := fun A i s Q E st h => wpAny_pyIter_zip st.z h
def iZm (K : PySem.W.Frag) (ta : TA) : TI := fun σ H R => ta σ H fun vs H1 => ∃ t u a b xs ys, vs = [.ref a, .ref b] ∧ SqB K t H1 a xs ∧ SqB K u H1 b ys ∧ R (Itm K t u a b) H1
theorem pi_zm {X : Cx} {e e2 : Expr} {ta : TA} {p pos tpos : Pos} {elts : List Expr} {kk : Nat} (hg : Gl X "zip") (hm : X.mg "zip" = none) (ha : PA X [e, e2] ta)
    (hs : starEach [e, e2] X.env = (false, eval e X.env) :: starEach [e2] X.env) (hpl : (backTo pos (starEach [e2] X.env)).any (·.1) = false) : PI X (.Tuple elts kk tpos) (.Call (.Name "zip" p) [e, e2] [] pos) (iZm X.K ta) := by
  refine ⟨fun pins s σ H R I h => Call_ (ld_blt I hg hm PyProof.Rows.boot_zip (PyProof.Rows.callWith_type1 (thn (ha.run pos pins s σ H _ I h) fun us s1 ⟨vs, H1, I1, rv, q1⟩ => ?_) hs hpl))⟩
  obtain ⟨t, u, a, b, xs, ys, rfl, qx, qy, q⟩ := q1
  obtain ⟨v1, v2, rfl, r1, r2⟩ := (show ∃ v1 v2, us = [v1, v2] ∧ RelV (.ref a) v1 ∧ RelV (.ref b) v2 from by
    cases rv with
    | cons r rr => cases rr with
      | cons r' rr => cases rr; exact ⟨_, _, rfl, r, r'⟩)
  cases r1
  cases r2
  obtain ⟨m1, w1, p1⟩ := qx.stand I1
  obtain ⟨m2, w2, p2⟩ := qy.stand I1
  refine zip_new p1 p2 fun h' st hk => wpAny_pyIter_zip st.z ?_
  have I2 : Inv X pins σ H1 { s1 with heap := h' } := I1.kept (t' := s1.toks) hk
  refine ⟨s1.heap.objs.size + 4, [s1.heap.objs.size + 4, s1.heap.objs.size + 2, s1.heap.objs.size + 3, s1.heap.objs.size, s1.heap.objs.size + 1], _, _, H1, rfl, I2, turn_m (PySem.W.ktu_apart s1.heap.objs.size a b (stand_lt p1) (stand_lt p2)), stands_of st, fun c hc => ?_, q⟩
  have le : s1.heap.objs.size ≤ c := by
    have e' : c = s1.heap.objs.size + 4 ∨ c = s1.heap.objs.size + 2 ∨ c = s1.heap.objs.size + 3 ∨ c = s1.heap.objs.size ∨ c = s1.heap.objs.size + 1 := by simpa using hc
    rcases e' with q | q | q | q | q <;> rw [q]
    · exact Nat.le_add_right _ _
    · exact Nat.le_add_right _ _
    · exact Nat.le_add_right _ _
    · exact Nat.le_refl _
    · exact Nat.le_add_right _ _
  exact I1.fpOk le (I1.hok.fresh le)

/-- a list or a tuple of these -/
def SeqD (d : D) (l : List D) : Prop := d = .lst l ∨ d = .tup l
theorem SeqD.at {K : PySem.W.Frag} {I : Hp} {d : D} {l : List D} {v : V} (s : SeqD d l) (n : Dn K I d v) : ∃ t a xs, v = .ref a ∧ Dns K I l xs ∧ ∀ H, Ex I H → SqB K t H a xs := by
  rcases s with rfl | rfl
  · cases n with
    | lst h m => exact ⟨false, _, _, rfl, m, fun H e => SqL.of (e _ _ h)⟩
  · cases n with
    | tup h m => exact ⟨true, _, _, rfl, m, fun H e => SqT.of (e _ _ h)⟩
section
variable {X : Cx} {B : Hp} {S : En} {pos : Pos} {e e2 : Expr}
/-- [elt for g in zip(e, e2)] -/
theorem fd_lcZ {elt : Expr} {elts : List Expr} {kk : Nat} {tpos p1 pos1 : Pos} {scope : Scope} {own : List (Str × Nat)} {g : TG} {Q : List D → Prop} (l l' : List D) (J : Nat → List D → Prop) (S' : D → D → En) (hc : X.calm = true) (hN : X.N.Nodup) (hm : X.mg "zip" = none) (ok : BlkOk X.N X.env.scope scope own)
    (hg : ∀ (s : Shared) (H : Hp) (C : Addr) (cl : List (Str × Addr)) (fp : List Addr), PG (X.blk s H scope (compEnvC scope cl C X.env) fp) (.Tuple elts kk tpos) g)
    (h : AD X B S [e, e2] fun as => ∃ d d', as = [.val d, .val d'] ∧ SeqD d l ∧ SeqD d' l' ∧ l.length ≤ 50000 ∧ J 0 []) (hp : ∀ d d', Pat X.K g (own.map (·.2)) S (.tup [d, d']) (S' d d'))
    (he : ∀ (i : Nat) d d' acc, l[i]? = some d → l'[i]? = some d' → acc.length = i → J i acc → ∀ (s : Shared) (H0 : Hp) (C : Addr) (cl : List (Str × Addr)) (fp : List Addr), ED (X.blk s H0 scope (compEnvC scope cl C X.env) fp) B (S' d d') elt fun y => J (i + 1) (acc ++ [y]))
    (hd : ∀ acc i, acc.length = i → J i acc → i ≤ l.length → i ≤ l'.length → (l.length ≤ i ∨ l'.length ≤ i) → Q acc) (hgl : Gl X "zip" := by rfl)
    (hst : starEach [e, e2] X.env = (false, eval e X.env) :: starEach [e2] X.env := by rfl) (hpl : (backTo pos1 (starEach [e2] X.env)).any (·.1) = false := by rfl)
    (hs : ∀ x, foldedSetIterable (.Call (.Name "zip" p1) [e, e2] [] pos1) X.env x = pure x := by intro _; rfl) : FD X B S (.ListComp elt [⟨.Tuple elts kk tpos, .Call (.Name "zip" p1) [e, e2] [] pos1, [], 0⟩] scope pos) Q := fun σ W H r R k => by
  refine PE.w (pe_lc (te := WEb X scope elt) hc hN (pi_zm hgl hm wa_pa hst hpl) ok hg (fun _ _ _ _ _ => pts_nil) web_pe hs) ?_
  refine h σ W H r _ fun as vs W1 H1 s1 ok1 n1 q1 => ?_
  obtain ⟨d, d', rfl, sd, sd', hz, j0⟩ := q1
  obtain ⟨v, v', rfl, m, m'⟩ := two_args n1
  obtain ⟨t, a, xs, rfl, w, hx⟩ := sd.at m
  obtain ⟨u, b, ys, rfl, w', hy⟩ := sd'.at m'
  refine ⟨t, u, a, b, xs, ys, rfl, hx _ ok1.ex, hy _ ok1.ex, fun p hp0 => ?_⟩
  have r1 := r.step s1 ok1
  refine ⟨fun i n H' => n = xs.length - i ∧ i ≤ xs.length ∧ i ≤ ys.length ∧ ∃ acc W', Mid X.K (gOf X) W1 H1 p acc W' H' ∧ acc.length = i ∧ J i acc, ⟨xs.length, rfl, Nat.zero_le _, Nat.zero_le _, [], W1, ⟨Stp.own hp0, ok1.own hp0, ok1.notP hp0, ok1.free hp0, [], upd_same, .nil⟩, rfl, j0⟩, ?_⟩
  rintro i n H' ⟨rfl, lx, ly, acc, W', mm, hl, j⟩
  have qx := hx H' fun c o z => mm.ok.ex _ _ (mm.st.I _ _ z)
  have qy := hy H' fun c o z => mm.ok.ex _ _ (mm.st.I _ _ z)
  by_cases c : i < xs.length ∧ i < ys.length
  · have ex : xs[i]? = some xs[i] := List.getElem?_eq_getElem c.1
    have ey : ys[i]? = some ys[i] := List.getElem?_eq_getElem c.2
    refine .inr ⟨⟨xs, ys, _, _, qx, qy, ex, ey⟩, fun H' => ∃ acc W', Mid X.K (gOf X) W1 H1 p acc W' H' ∧ acc.length = i + 1 ∧ J (i + 1) acc, fun H2 z => ⟨xs.length - (i + 1), by omega, rfl, c.1, c.2, z⟩, ?_⟩
    rintro x H2 ⟨T, x1, y1, rfl, hT, rfl, f1, f2⟩
    have e1 := f1 xs qx
    have e2 := f2 ys qy
    obtain ⟨d1, hd1, nd1⟩ := w.get e1
    obtain ⟨d2, hd2, nd2⟩ := w'.get e2
    have sn := Stp.new (o := .tup [x1, y1]) mm.ok hT
    have okn := mm.ok.new (o := .tup [x1, y1]) hT
    have mn := mm.step sn okn
    have nt : Dn X.K (W'.new T (.tup [x1, y1])).I (.tup [d1, d2]) (.ref T) := .tup upd_same (.cons ((nd1.mono mm.st.I).mono sn.I) (.cons ((nd2.mono mm.st.I).mono sn.I) .nil))
    refine hp d1 d2 (gOf X) B σ _ _ _ ((r1.step mm.st mm.ok).step sn okn) nt _ fun σ2 e3 r3 => ⟨e3, ?_⟩
    show WEb X scope elt σ2 _ _
    intro s H0 C cl fp
    refine he i d1 d2 acc hd1 hd2 hl j s H0 C cl fp σ2 _ _ r3 _ fun y v W2 H3 s2 ok2 n2 q2 => ?_
    have li : i < l.length := by rw [w.length]; exact c.1
    obtain ⟨xs', g1, g3, m3⟩ := (mn.step s2 ok2).more hp0 n2 (by omega)
    exact ⟨xs', g1, g3, _, W2, m3, by simp [hl], q2⟩
  · refine .inl ⟨⟨xs, ys, qx, qy, by omega⟩, ?_⟩
    obtain ⟨zs, hH, ds⟩ := mm.h
    refine k acc p zs W' H' (s1.trans ok1 mm.st) mm.ok (s1.free ok1 hp0) mm.n mm.i hH ds (hd acc i hl j ?_ ?_ ?_)
    · rw [w.length]; exact lx
    · rw [w'.length]; exact ly
    · rw [w.length, w'.length]; omega
end
end DL

set_option Elab.async false
set_option linter.all false
set_option maxRecDepth 100000
set_option maxHeartbeats 4000000
/-! a list of lists that change -/
namespace DL
open PySem PySem.Spec PyProof.Rows L2
theorem ok_upd {g : List Code} {W : Wd} {H : Hp} {q : Addr} {o : HO} (ok : Ok g W H) (n : ¬ W.P q) (i : W.I q = none) (ht : ∀ xs, o ≠ .tup xs := by exact fun _ z => by cases z) : Ok g W (upd H q o) where
  gd := fun b hb => by
    obtain ⟨n1, n2⟩ := ok.gd b hb
    refine ⟨n1, ?_⟩
    by_cases z : b = q
    · subst z
      rw [upd_same]
      exact ⟨(fun z => by cases z), (fun _ z => ht _ (Option.some.inj z))⟩
    · rw [upd_ne z]
      exact n2
  ex := fun b u hb => by
    rw [upd_ne (fun y => by rw [y, i] at hb; cases hb)]
    exact ok.ex b u hb
  pot := fun b hb => by
    obtain ⟨nb, y2, w2, h2⟩ := ok.pot b hb
    have ne : b ≠ q := fun y => n (y ▸ hb)
    exact ⟨nb, y2, w2, by rw [upd_ne ne]; exact h2⟩
theorem stp_upd {W W0 : Wd} {B H : Hp} {q : Addr} {o : HO} (z : Stp W0 B W H) (hB : B q = none) : Stp W0 B W (upd H q o) :=
  ⟨z.I, z.P, fun b u hb hn => by rw [upd_ne (ne_of_none hb hB)]; exact z.keep b u hb hn, z.old, z.oldP⟩
theorem ixN_lt {n j : Nat} (hj : j < n) : ixN n (j : Int) = some j := by
  unfold ixN
  rw [if_pos (by omega), if_pos (by omega), Int.toNat_natCast]
/-- a new list at p of new lists at qs: each at one place alone -/
structure Nest (K : PySem.W.Frag) (B : Hp) (W : Wd) (H : Hp) (p : Addr) (qs : List Addr) (rows : List (List D)) : Prop where
  b : B p = none
  n : ¬ W.P p
  i : W.I p = none
  h : H p = some (.lst (qs.map V.ref))
  nd : (p :: qs).Nodup
  len : qs.length = rows.length
  row : ∀ (j : Nat) q l, qs[j]? = some q → rows[j]? = some l → B q = none ∧ ¬ W.P q ∧ W.I q = none ∧ ∃ xs, H q = some (.lst xs) ∧ Dns K W.I l xs
section
variable {K : PySem.W.Frag} {B : Hp} {W W1 : Wd} {H H1 : Hp} {p : Addr} {qs : List Addr} {rows : List (List D)}
end
def plainS : Option Sl → Bool
  | some (.own _) => false
  | some (.ownT _) => false
  | some (.inst _ _ _ _) => false
  | _ => true
def PlainE (S : En) : Bool := S.all plainS
structure NEnds where
  nx : En → List (List D) → Prop
  rt : D → Prop
structure NSub (K : PySem.W.Frag) (g : List Code) (B : Hp) (W0 : Wd) (I : Hp) (p : Addr) (qs : List Addr) (E : NEnds) (D' : Ends) : Prop where
  nx : ∀ S σ W H rows, Rep K g B S σ W H → PlainE S = true → Nest K B W H p qs rows → Stp W0 B W H → Ex I W.I → E.nx S rows → D'.nx σ H
  rt : ∀ d v W H, Ok g W H → Stp W0 B W H → Ex I W.I → Dn K W.I d v → E.rt d → D'.rt v H
section
variable (X : Cx) (B : Hp) (W0 : Wd) (p : Addr) (qs : List Addr) (S : En) (rows : List (List D))
def NED (e : Expr) (Q : D → Prop) : Prop := ∀ σ W H, Rep X.K (gOf X) B S σ W H → Nest X.K B W H p qs rows → ∀ R, Cont X.K (gOf X) W H Q R → WE X e σ H R
def NGD (tg : Expr) (d : D) (Q : List (List D) → Prop) : Prop := ∀ σ W H v, Rep X.K (gOf X) B S σ W H → PlainE S = true → Nest X.K B W H p qs rows → Stp W0 B W H → Dn X.K W.I d v → ∀ R, (∀ rows' H', Rep X.K (gOf X) B S σ W H' → Nest X.K B W H' p qs rows' → Stp W0 B W H' → Q rows' → R σ H') → WG X tg v σ H R
def NSD (st : Stmt) (E : NEnds) : Prop := ∀ σ W H, Rep X.K (gOf X) B S σ W H → PlainE S = true → Nest X.K B W H p qs rows → Stp W0 B W H → ∀ D', NSub X.K (gOf X) B W0 W.I p qs E D' → WS X st D' σ H
def NSDs (sts : List Stmt) (E : NEnds) : Prop := ∀ σ W H, Rep X.K (gOf X) B S σ W H → PlainE S = true → Nest X.K B W H p qs rows → Stp W0 B W H → ∀ D', NSub X.K (gOf X) B W0 W.I p qs E D' → WSs X sts D' σ H
end
section
variable {X : Cx} {B : Hp} {W0 : Wd} {p : Addr} {qs : List Addr} {S : En} {rows : List (List D)} {st : Stmt} {sts : List Stmt} {E : NEnds} {pos : Pos} {e a b c : Expr} {Q : D → Prop}
end
end DL

set_option Elab.async false
set_option linter.all false
set_option maxRecDepth 100000
set_option maxHeartbeats 4000000
/-! lists of lists: made, given away; an owned list changed at a place, shortened -/
namespace DL
open PySem PySem.Spec PyProof.Rows L2
theorem Rep.putOwn {K : PySem.W.Frag} {g : List Code} {B : Hp} {S : En} {σ : L2.St} {W : Wd} {H : Hp} {i : Nat} {l l' : List D} {p : Addr} {xs xs' : List V} (r : Rep K g B S σ W H) (h : S[i]? = some (some (.own l))) (e1 : σ[i]? = some (some (.ref p))) (hB : B p = none) (n : ¬ W.P p) (hI : W.I p = none) (hH : H p = some (.lst xs)) (d : Dns K W.I l' xs') :
    Rep K g B (S.set i (some (.own l'))) σ W (upd H p (.lst xs')) := by
  have lt : i < S.length := (List.getElem?_eq_some_iff.mp h).1
  refine ⟨ok_upd r.ok n hI, r.gb, by simpa using r.len, fun j s ej => ?_, fun a b la lb q ne e2 e3 e4 => ?_, r.distT.setS i fun l z => by cases z⟩
  · by_cases q : i = j
    · subst q
      rw [List.getElem?_set_self lt] at ej
      cases ej
      exact ⟨_, e1, p, _, rfl, hB, n, hI, upd_same, d⟩
    · rw [List.getElem?_set_ne q] at ej
      obtain ⟨v2, e2, h2⟩ := r.sl j s ej
      refine ⟨v2, e2, ?_⟩
      cases s with
      | val d2 => exact h2
      | pot => exact h2
      | own m =>
        obtain ⟨p2, ys, rfl, b1, b2, b3, b4, b5⟩ := h2
        refine ⟨p2, ys, rfl, b1, b2, b3, ?_, b5⟩
        rw [upd_ne (fun y => by
          rw [y] at e2
          exact r.dist i j l m p q h ej e1 e2)]
        exact b4
      | ownT m =>
        obtain ⟨p2, ys, rfl, b1, b2, b3, b4, b5⟩ := h2
        refine ⟨p2, ys, rfl, b1, b2, b3, ?_, b5⟩
        rw [upd_ne (fun y => by rw [y, hH] at b4; cases b4)]
        exact b4
      | inst C p2 dx fs =>
        obtain ⟨vs, rfl, b1, b2, b3, b4, b5, b6, b7, b8, b9, b10⟩ := h2
        refine ⟨vs, rfl, b1, b2, b3, b4, b5, b6, b7, ?_, ?_, b10⟩
        · rw [upd_ne (fun y => by rw [y, hH] at b8; cases b8)]
          exact b8
        · rw [upd_ne (fun y => by rw [y, hH] at b9; cases b9)]
          exact b9
  · have g : ∀ {c : Nat} {m : List D}, (S.set i (some (.own l')))[c]? = some (some (.own m)) → ∃ m', S[c]? = some (some (.own m')) := fun {c m} ec => by
      by_cases q2 : i = c
      · subst q2
        exact ⟨l, h⟩
      · rw [List.getElem?_set_ne q2] at ec
        exact ⟨m, ec⟩
    obtain ⟨m1, g1⟩ := g e2
    obtain ⟨m2, g2⟩ := g e3
    exact r.dist a b m1 m2 q ne g1 g2 e4
section
variable {K : PySem.W.Frag} {g : List Code} {B : Hp} {W0 W : Wd} {H : Hp} {p : Addr} {qs : List Addr} {rows : List (List D)}
end
section
variable (X : Cx) (B : Hp) (W0 : Wd) (p : Addr) (qs : List Addr) (S : En) (rows : List (List D))
/-- from lists of lists on, to where they are given away -/
def NF (st : Stmt) (E : Ends') : Prop := ∀ σ W H, Rep X.K (gOf X) B S σ W H → PlainE S = true → Nest X.K B W H p qs rows → Stp W0 B W H → ∀ D', Sub X.K (gOf X) B W0 W.I E D' → WS X st D' σ H
def NFs (sts : List Stmt) (E : Ends') : Prop := ∀ σ W H, Rep X.K (gOf X) B S σ W H → PlainE S = true → Nest X.K B W H p qs rows → Stp W0 B W H → ∀ D', Sub X.K (gOf X) B W0 W.I E D' → WSs X sts D' σ H
/-- an expression that makes such lists -/
def NE (S : En) (e : Expr) (Q : List (List D) → Prop) : Prop := ∀ σ W H, Rep X.K (gOf X) B S σ W H → ∀ R : VK, (∀ p qs rows W' H', Stp W H W' H' → Ok (gOf X) W' H' → Nest X.K H W' H' p qs rows → Q rows → R (.ref p) H') → WE X e σ H R
end
section
variable {X : Cx} {B : Hp} {W0 : Wd} {p : Addr} {qs : List Addr} {S : En} {rows : List (List D)} {st : Stmt} {sts : List Stmt} {E : Ends'} {pos : Pos} {e e2 a b c : Expr}
end
end DL

set_option Elab.async false
set_option linter.all false
set_option maxRecDepth 100000
set_option maxHeartbeats 4000000
/-! lists of lists by comprehensions; x[i].append, x.pop(i), x[i] = .. -/
namespace DL
open PySem PySem.Spec PyProof.Rows L2
def NLC (X : Cx) (B : Hp) (S : En) (t : TE) (Q : List (List D) → Prop) : Prop := ∀ σ W H, Rep X.K (gOf X) B S σ W H → ∀ R : VK, (∀ p qs rows W' H', Stp W H W' H' → Ok (gOf X) W' H' → Nest X.K H W' H' p qs rows → Q rows → R (.ref p) H') → t σ H R
structure Mid2 (K : PySem.W.Frag) (g : List Code) (W1 : Wd) (H1 : Hp) (p : Addr) (qs : List Addr) (rows : List (List D)) (W : Wd) (H : Hp) : Prop where
  st : Stp W1 H1 W H
  ok : Ok g W H
  m : Nest K H1 W H p qs rows
section
variable {X : Cx} {B : Hp} {W0 : Wd} {S : En} {st : Stmt} {sts : List Stmt} {E : Ends'} {pos : Pos} {e e2 a b c : Expr}
/-- list(e), e a list or a tuple -/
theorem fd_list {p : Pos} {Q : List D → Prop} (hm : X.mg "list" = none) (h : ED X B S e fun d => ∃ l, SeqD d l ∧ Q l) (hv : bootBuiltins "list" = some (.type "list") := by first | rfl | decide +kernel) (hg : Gl X "list" := by rfl)
    (he : starEach [e] X.env = (false, eval e X.env) :: starEach [] X.env := by rfl) (hpl : (backTo pos (starEach [] X.env)).any (·.1) = false := by rfl) : FD X B S (.Call (.Name "list" p) [e] [] pos) Q := fun σ W H r R k => by
  refine PE.w (pe_callTy call_list_of hg hm hv (pa_cons we_pe pa_nil he) (by decide) (by decide) he hpl) ?_
  refine h σ W H r _ fun d v W1 H1 s1 ok1 n1 q1 => ?_
  obtain ⟨l, sd, q1⟩ := q1
  obtain ⟨t, a, xs, rfl, w, hx⟩ := sd.at n1
  refine ⟨a, xs, rfl, ?_, fun p hp => ?_⟩
  · cases t with
    | false => exact .inl (hx _ ok1.ex)
    | true => exact .inr (hx _ ok1.ex)
  · exact k l p xs W1 _ (s1.trans ok1 (Stp.own hp)) (ok1.own hp) (s1.free ok1 hp) (ok1.notP hp) (ok1.free hp) upd_same w q1
end
end DL

set_option Elab.async false
set_option linter.all false
set_option maxRecDepth 100000
set_option maxHeartbeats 4000000
/-! a dict literal, constants of the module, comprehensions over two ranges -/
namespace DL
open PySem PySem.Spec PyProof.Rows L2
section
variable {X : Cx} {B : Hp} {S : En} {pos : Pos} {Q : D → Prop} {e e1 : Expr} {x : Str}
end
end DL

set_option Elab.async false
set_option linter.all false
set_option maxRecDepth 100000
set_option maxHeartbeats 4000000
/-! comprehensions told by what each item must be -/
namespace DL
open PySem PySem.Spec PyProof.Rows L2
theorem Paired.snoc {α β : Type} {R : α → β → Prop} {x : α} {y : β} (h : R x y) : ∀ {l : List α} {m : List β}, Paired R l m → Paired R (l ++ [x]) (m ++ [y])
  | _, _, .nil => .cons h .nil
  | _, _, .cons a b => .cons a (Paired.snoc h b)
/-- what stands in the slots when the item d has come to the name in slot j -/
abbrev itE (S : En) (own : List (Str × Nat)) (j : Nat) (d : D) : En := (wipeE S (own.map (·.2))).set j (some (.val d))
abbrev AllBlk (X : Cx) (scope : Scope) (R : Cx → Prop) : Prop := ∀ (s : Shared) (H0 : Hp) (C : Addr) (cl : List (Str × Addr)) (fp : List Addr), R (X.blk s H0 scope (compEnvC scope cl C X.env) fp)
section
variable {X : Cx} {B : Hp} {W0 : Wd} {S : En} {pos : Pos} {e e2 elt iter : Expr} {x : Str} {px : Pos} {scope : Scope} {own : List (Str × Nat)} {l l' : List D} {d0 : D} {Q : List D → Prop}
/-- [elt for x in a list or a tuple] -/
theorem fd_relS (G : D → D → Prop) (j : Nat) (hc : X.calm = true) (hN : X.N.Nodup) (ok : BlkOk X.N X.env.scope scope own) (hg : AllBlk X scope fun Y => PG Y (.Name x px) (gName j)) (sd : SeqD d0 l) (hl : l.length ≤ 50000) (hit : ED X B S iter fun d => d = d0) (hj : j ∈ own.map (·.2))
    (he : ∀ d ∈ l, AllBlk X scope fun Y => ED Y B (itE S own j d) elt (G d)) (hd : ∀ out, Paired G l out → Q out) (hs : ∀ x, foldedSetIterable iter X.env x = pure x := by intro _; rfl) : FD X B S (.ListComp elt [⟨.Name x px, iter, [], 0⟩] scope pos) Q := by
  have step : ∀ (i : Nat) d acc, l[i]? = some d → acc.length = i → Paired G (l.take i) acc → ∀ (s : Shared) (H0 : Hp) (C : Addr) (cl : List (Str × Addr)) (fp : List Addr), ED (X.blk s H0 scope (compEnvC scope cl C X.env) fp) B (itE S own j d) elt fun y => Paired G (l.take (i + 1)) (acc ++ [y]) := fun i d acc hi ha hp s H0 C cl fp => by
    intro σ W H r R k
    refine he d (List.mem_of_getElem? hi) s H0 C cl fp σ W H r R fun y v W' H' st ok n q => k y v W' H' st ok n ?_
    rw [List.take_add_one, hi]
    exact Paired.snoc q hp
  have fin : ∀ acc, acc.length = l.length → Paired G (l.take l.length) acc → Q acc := fun acc _ h => hd acc (by rw [List.take_length] at h; exact h)
  have start : ED X B S iter fun d => d = d0 ∧ l.length ≤ 50000 ∧ Paired G (l.take 0) [] := fun σ W H r R k => hit σ W H r R fun d v W' H' st ok n q => k d v W' H' st ok n ⟨q, hl, .nil⟩
  rcases sd with rfl | rfl
  · exact fd_lcL (fun i acc => Paired G (l.take i) acc) (fun d => itE S own j d) hc hN ok hg start (fun d _ => pat_name j hj) step fin hs
  · exact fd_lcT (fun i acc => Paired G (l.take i) acc) (fun d => itE S own j d) hc hN ok hg start (fun d _ => pat_name j hj) step fin hs
/-- what a range brings -/
def Outs (G : Nat → D → Prop) (n : Nat) (out : List D) : Prop := out.length = n ∧ ∀ i, i < n → ∃ y, out[i]? = some y ∧ G i y
theorem Outs.nil {G : Nat → D → Prop} : Outs G 0 [] := ⟨rfl, fun i h => absurd h (Nat.not_lt_zero _)⟩
theorem Outs.snoc {G : Nat → D → Prop} {n : Nat} {out : List D} {y : D} (h : Outs G n out) (g : G n y) : Outs G (n + 1) (out ++ [y]) := ⟨by simp [h.1], fun i hi => by
  by_cases c : i < n
  · obtain ⟨z, e, gz⟩ := h.2 i c
    exact ⟨z, by rw [List.getElem?_append_left (by rw [h.1]; exact c)]; exact e, gz⟩
  · have : i = n := by omega
    subst this
    exact ⟨y, by rw [List.getElem?_append_right (by rw [h.1]; exact Nat.le_refl _), h.1, Nat.sub_self]; rfl, g⟩⟩
/-- [elt for x in range(e)] -/
theorem fd_relR {p1 pos1 : Pos} {n : Nat} (G : Nat → D → Prop) (j : Nat) (hc : X.calm = true) (hN : X.N.Nodup) (hm : X.mg "range" = none) (ok : BlkOk X.N X.env.scope scope own) (hg : AllBlk X scope fun Y => PG Y (.Name x px) (gName j)) (hn : n ≤ 50000) (h : AD X B S [e] fun as => as = [.val (.int (n : Int))]) (hj : j ∈ own.map (·.2))
    (he : ∀ i, i < n → AllBlk X scope fun Y => ED Y B (itE S own j (.int (i : Int))) elt (G i)) (hd : ∀ out, Outs G n out → Q out) (hgl : Gl X "range" := by rfl) (hst : starEach [e] X.env = [(false, eval e X.env)] := by rfl)
    (hs : ∀ x, foldedSetIterable (.Call (.Name "range" p1) [e] [] pos1) X.env x = pure x := by intro _; rfl) : FD X B S (.ListComp elt [⟨.Name x px, .Call (.Name "range" p1) [e] [] pos1, [], 0⟩] scope pos) Q := by
  refine fd_lcR (n := (n : Int)) (fun i acc => Outs G i acc) (fun d => itE S own j d) hc hN hm ok hg ?_ (fun d => pat_name j hj) ?_ ?_ hgl hst hs
  · exact fun σ W H r R k => h σ W H r R fun as vs W' H' st ok n q => k as vs W' H' st ok n ⟨q, by omega, by omega, .nil⟩
  · intro i acc hi ha o s H0 C cl fp σ W H r R k
    exact he i (by omega) s H0 C cl fp σ W H r R fun y v W' H' st ok n q => k y v W' H' st ok n (o.snoc q)
  · intro acc _ o
    exact hd acc (by rw [Int.toNat_natCast] at o; exact o)
/-- [elt for x, y in zip(e, e2)], both as long -/
theorem fd_relZ {y : Str} {py tpos p1 pos1 : Pos} {kk : Nat} {d1 : D} (G : D → D → D → Prop) (i j : Nat) (hc : X.calm = true) (hN : X.N.Nodup) (hm : X.mg "zip" = none) (ok : BlkOk X.N X.env.scope scope own) (hg : AllBlk X scope fun Y => PG Y (.Tuple [.Name x px, .Name y py] kk tpos) (gTup X.K 2 (gCons (gName i) (gCons (gName j) gNil)))) (hll : l.length = l'.length) (hl : l.length ≤ 50000) (sd : SeqD d0 l) (sd1 : SeqD d1 l')
    (h : AD X B S [e, e2] fun as => as = [.val d0, .val d1]) (hi : i ∈ own.map (·.2)) (hj : j ∈ own.map (·.2)) (he : ∀ (n : Nat) d d', l[n]? = some d → l'[n]? = some d' → AllBlk X scope fun Y => ED Y B ((itE S own i d).set j (some (.val d'))) elt (G d d'))
    (hd : ∀ out, out.length = l.length → (∀ (n : Nat) d d' z, l[n]? = some d → l'[n]? = some d' → out[n]? = some z → G d d' z) → Q out) (hgl : Gl X "zip" := by rfl)
    (hst : starEach [e, e2] X.env = (false, eval e X.env) :: starEach [e2] X.env := by rfl) (hpl : (backTo pos1 (starEach [e2] X.env)).any (·.1) = false := by rfl)
    (hs : ∀ x, foldedSetIterable (.Call (.Name "zip" p1) [e, e2] [] pos1) X.env x = pure x := by intro _; rfl) : FD X B S (.ListComp elt [⟨.Tuple [.Name x px, .Name y py] kk tpos, .Call (.Name "zip" p1) [e, e2] [] pos1, [], 0⟩] scope pos) Q := by
  refine fd_lcZ l l' (fun m acc => acc.length = m ∧ ∀ (n : Nat) d d' z, l[n]? = some d → l'[n]? = some d' → acc[n]? = some z → G d d' z) (fun d d' => (itE S own i d).set j (some (.val d'))) hc hN hm ok hg ?_ (fun d d' => pat_two i j hi hj) ?_ ?_ hgl hst hpl hs
  · exact fun σ W H r R k => h σ W H r R fun as vs W' H' st ok n q => k as vs W' H' st ok n ⟨d0, d1, q, sd, sd1, hl, rfl, fun n d d' z _ _ e => by simp at e⟩
  · intro m d d' acc h1 h2 ha ⟨_, o⟩ s H0 C cl fp σ W H r R k
    refine he m d d' h1 h2 s H0 C cl fp σ W H r R fun y v W' H' st ok n q => k y v W' H' st ok n ⟨by simp [ha], fun n a b z e1 e2 e3 => ?_⟩
    by_cases c : n < m
    · rw [List.getElem?_append_left (by omega)] at e3
      exact o n a b z e1 e2 e3
    · rw [List.getElem?_append_right (by omega)] at e3
      have : n = m := by
        rcases Nat.lt_or_ge m n with z | z
        · rw [List.getElem?_eq_none (show [y].length ≤ n - acc.length by show 1 ≤ _; omega)] at e3
          cases e3
        · omega
      subst this
      rw [ha, Nat.sub_self] at e3
      cases e3
      rw [h1] at e1
      rw [h2] at e2
      cases e1
      cases e2
      exact q
  · intro acc m ha ⟨_, o⟩ h1 h2 h3
    exact hd acc (by omega) o
theorem td_chain {op op' : CmpOp} {a b c : Expr} {QB : Bool → Prop} (h : ED X B S a fun x => ED X B S b fun y => OD X (compareOp op) x y fun z => ∃ k, z = .bl k ∧ if k = true then ED X B S c fun w => OD X (compareOp op') y w fun z => ∃ k, z = .bl k ∧ QB k else QB false)
    (hm : lastMarks [op, op'] [b, c] = false := by rfl) : TD X B S (.Compare a [op, op'] [b, c] pos) QB := fun σ W H r R k => by
  refine PT.w (pt_chain wo_op wo_op we_pe we_pe we_pe hm) ?_
  refine h σ W H r _ fun d v W1 H1 s1 ok1 n1 q1 => ?_
  refine q1 σ W1 H1 (r.step s1 ok1) _ fun d2 u W2 H2 s2 ok2 n2 q2 => ?_
  refine q2 v u W2 H2 ok2 (n1.mono s2.I) n2 _ fun d3 z W3 H3 s3 ok3 n3 q3 => ?_
  obtain ⟨t, e, q3⟩ := q3
  subst e
  cases n3
  have k3 := ((k.step s1 ok1).step s2 ok2).step s3 ok3
  refine ⟨t, rfl, ?_⟩
  cases t with
  | false => exact iteF ⟨false, rfl, k3.now ok3 (by simpa using q3)⟩
  | true =>
    have q3 : ED X B S c fun w => OD X (compareOp op') d2 w fun z => ∃ k, z = .bl k ∧ QB k := by simpa using q3
    refine iteT (q3 σ W3 H3 (((r.step s1 ok1).step s2 ok2).step s3 ok3) _ fun d4 w' W4 H4 s4 ok4 n4 q4 => ?_)
    refine q4 u w' W4 H4 ok4 ((n2.mono s3.I).mono s4.I) n4 _ fun d5 z W5 H5 s5 ok5 n5 q5 => ?_
    obtain ⟨t, e, q5⟩ := q5
    subst e
    cases n5
    exact ⟨t, rfl, ((k3.step s4 ok4).step s5 ok5).now ok5 q5⟩
end
end DL

set_option Elab.async false
set_option linter.all false
set_option maxRecDepth 100000
set_option maxHeartbeats 4000000
/-! a name = [.. for x, y in zip(..)] -/
namespace DL
open PySem PySem.Spec PyProof.Rows L2
section
variable {X : Cx} {B : Hp} {W0 : Wd} {S : En} {pos : Pos} {e e2 : Expr} {x : Str} {px : Pos} {own : List (Str × Nat)} {scope : Scope} {elt : Expr} {l l' : List D} {d0 : D}
end
end DL

set_option Elab.async false
set_option linter.all false
set_option maxRecDepth 100000
set_option maxHeartbeats 4000000
/-! a text times an int -/
namespace DL
open PySem PySem.Spec PyProof.Rows L2
end DL

set_option Elab.async false
set_option linter.all false
set_option maxRecDepth 100000
set_option maxHeartbeats 4000000
/-! dicts whose keys are tuples: owned by one name while they grow, data from then on -/
namespace DL
open PySem PySem.Spec PyProof.Rows L2
def kD : Key → D
  | .inl i => .int i
  | .inr s => .str s
abbrev tD (k : List Key) : D := .tup (k.map kD)
def has {α : Type} (kvs : List (List Key × α)) (k : List Key) : Bool := kvs.any fun kv => decide (kv.1 = k)
def look {α : Type} (kvs : List (List Key × α)) (k : List Key) : Option α := (kvs.find? fun kv => decide (kv.1 = k)).map (·.2)
/-- what stands at k from now on: in its place, or at the end -/
def putE (kvs : List (List Key × D)) (k : List Key) (d : D) : List (List Key × D) := if has kvs k = true then kvs.map (fun kv => if kv.1 = k then (kv.1, d) else kv) else kvs ++ [(k, d)]
section
variable {K : PySem.W.Frag} {I : Hp}
theorem dn_key {k : Key} {v : V} (n : Dn K I (kD k) v) : v = kV k := by
  cases k <;> cases n <;> rfl
theorem dns_keys : ∀ {ks : List Key} {xs : List V}, Dns K I (ks.map kD) xs → xs = ks.map kV
  | [], _, .nil => rfl
  | k :: ks, _, .cons h t => by rw [dn_key h, dns_keys t]; rfl
theorem key_dn : ∀ k : Key, Dn K I (kD k) (kV k)
  | .inl i => .int i
  | .inr s => .str s
theorem keys_dns : ∀ ks : List Key, Dns K I (ks.map kD) (ks.map kV)
  | [] => .nil
  | k :: ks => .cons (key_dn k) (keys_dns ks)
theorem Dnt.append : ∀ {l m : List (List Key × D)} {xs ys : List (List Key × V)}, Dnt K I l xs → Dnt K I m ys → Dnt K I (l ++ m) (xs ++ ys)
  | _, _, _, _, .nil, s => s
  | _, _, _, _, .cons h r, s => .cons h (Dnt.append r s)
theorem Dnt.length : ∀ {l : List (List Key × D)} {xs : List (List Key × V)}, Dnt K I l xs → l.length = xs.length
  | _, _, .nil => rfl
  | _, _, .cons _ r => congrArg (· + 1) (Dnt.length r)
theorem Dnt.keys : ∀ {l : List (List Key × D)} {xs : List (List Key × V)}, Dnt K I l xs → l.map (·.1) = xs.map (·.1)
  | _, _, .nil => rfl
  | _, _, .cons _ r => by simp [Dnt.keys r]
theorem Dnt.has {k : List Key} : ∀ {l : List (List Key × D)} {xs : List (List Key × V)}, Dnt K I l xs → has l k = (xs.any fun kv => decide (kv.1 = k))
  | _, _, .nil => rfl
  | _, _, .cons (f := f) _ r => by
    have := Dnt.has (k := k) r
    unfold DL.has at this ⊢
    rw [List.any_cons, List.any_cons, this]
theorem Dnt.mapK {k : List Key} {d : D} {v : V} (n : Dn K I d v) : ∀ {l : List (List Key × D)} {xs : List (List Key × V)}, Dnt K I l xs → Dnt K I (l.map fun kv => if kv.1 = k then (kv.1, d) else kv) (xs.map fun kv => if kv.1 = k then (kv.1, v) else kv)
  | _, _, .nil => .nil
  | _, _, .cons (f := f) h r => by
    rw [List.map_cons, List.map_cons]
    by_cases c : f = k
    · rw [if_pos c, if_pos c]
      exact .cons n (Dnt.mapK n r)
    · rw [if_neg c, if_neg c]
      exact .cons h (Dnt.mapK n r)
theorem Dnt.put {k : List Key} {d : D} {v : V} (n : Dn K I d v) {l : List (List Key × D)} {xs : List (List Key × V)} (m : Dnt K I l xs) : Dnt K I (putE l k d) (putK xs k v) := by
  unfold putE putK
  rw [← m.has]
  by_cases c : DL.has l k = true
  · rw [if_pos c, if_pos c]
    exact m.mapK n
  · rw [if_neg c, if_neg c]
    exact m.append (.cons n .nil)
theorem dnt_look {k : List Key} : ∀ {kvs : List (List Key × D)} {ws : List (List Key × V)}, Dnt K I kvs ws → (∀ d, look kvs k = some d → ∃ v, valV ws k = some v ∧ Dn K I d v) ∧ (look kvs k = none → valV ws k = none)
  | _, _, .nil => ⟨fun d e => by simp [look] at e, fun _ => rfl⟩
  | _, _, .cons (f := f) (d := d0) (v := v0) h t => by
    obtain ⟨a, b⟩ := dnt_look (k := k) t
    by_cases c : f = k
    · subst c
      refine ⟨fun d e => ⟨v0, valV_pos rfl, ?_⟩, fun e => by simp [look, List.find?_cons] at e⟩
      simp [look, List.find?_cons] at e
      rw [← e]
      exact h
    · refine ⟨fun d e => ?_, fun e => ?_⟩
      · rw [valV_neg c]
        refine a d ?_
        simpa [look, List.find?_cons, c] using e
      · rw [valV_neg c]
        refine b ?_
        simpa [look, List.find?_cons, c] using e
theorem look_some {kvs : List (List Key × D)} {ws : List (List Key × V)} (m : Dnt K I kvs ws) (k : List Key) : (valV ws k).isSome = (look kvs k).isSome := by
  cases e : look kvs k with
  | none => rw [(dnt_look m).2 e]; rfl
  | some d =>
    obtain ⟨v, ev, _⟩ := (dnt_look m).1 d e
    rw [ev]; rfl
theorem Dnt.get : ∀ {l : List (List Key × D)} {xs : List (List Key × V)} {i : Nat} {k : List Key} {v : V}, Dnt K I l xs → xs[i]? = some (k, v) → ∃ d, l[i]? = some (k, d) ∧ Dn K I d v
  | _, _, _, _, _, .nil, e => by simp at e
  | _, _, 0, _, _, .cons h _, e => by
    simp at e
    obtain ⟨rfl, rfl⟩ := e
    exact ⟨_, rfl, h⟩
  | _, _, i + 1, _, _, .cons _ r, e => by
    obtain ⟨d, h1, h2⟩ := Dnt.get (i := i) r (by simpa using e)
    exact ⟨d, by simpa using h1, h2⟩
end
theorem dget_of {H : Hp} {a b : Addr} {kvs : List (List Key × V)} {k : List Key} (e : Rd H a (.dT kvs)) (eb : H b = some (.tup (k.map kV))) : DGet H a (.ref b) (valV kvs k) := .inr ⟨kvs, k, b, e, rfl, eb, rfl⟩
theorem dn_tupkey {K : PySem.W.Frag} {W : Wd} {H : Hp} {g : List Code} {k : List Key} {v : V} (ok : Ok g W H) (n : Dn K W.I (tD k) v) : ∃ q, v = .ref q ∧ H q = some (.tup (k.map kV)) := by
  cases n with
  | tup h m =>
    rw [dns_keys m] at h
    exact ⟨_, rfl, ok.ex _ _ h⟩
/-! ### reading -/
/-- k in d -/
theorem op_dinT {X : Cx} (hu : X.A.units + 1 < cLine) : OpR X (compareOp .In) (fun x y H Q => ∃ p o, y = .ref p ∧ DGet H p x o ∧ Q (.bl o.isSome) H) := by
  intro pins s σ H x y v u Q I rx ry h
  obtain ⟨p, o, rfl, g, q⟩ := h
  obtain rfl : u = Value.ref p := ry
  exact d_in hu I g rx fun s3 I3 => ⟨.bl o.isSome, H, I3, rfl, q⟩
section
variable {X : Cx} {B : Hp} {W0 : Wd} {S : En} {pos px p1 : Pos} {Q : D → Prop} {QB : Bool → Prop} {a b c e value key : Expr} {es : List Expr} {E : Ends'} {x : Str} {st : Stmt} {sts : List Stmt}
/-- d[k], d data -/
theorem ed_dget (hu : X.A.units + 1 < cLine) (h : ED X B S a fun x => ED X B S b fun y => ∃ kvs k d, x = .dcT kvs ∧ y = tD k ∧ look kvs k = some d ∧ Q d) (hs : NoSl b := by exact fun _ _ => rfl) : ED X B S (.Subscript a b pos) Q := fun σ W H r R k0 => by
  refine PE.w (pe_dget hu we_pe we_pe hs) ?_
  refine h σ W H r _ fun x v W1 H1 s1 ok1 n1 q1 => ?_
  refine q1 σ W1 H1 (r.step s1 ok1) _ fun y u W2 H2 s2 ok2 n2 q2 => ?_
  obtain ⟨kvs, k, d, rfl, rfl, e, q⟩ := q2
  have n1' := n1.mono s2.I
  cases n1' with
  | @dcT _ p o ws hp m =>
    obtain ⟨bq, rfl, hb⟩ := dn_tupkey ok2 n2
    obtain ⟨z, ez, nz⟩ := (dnt_look m).1 d e
    refine ⟨p, z, rfl, ?_, ((k0.step s1 ok1).step s2 ok2).now ok2 nz q⟩
    rw [← ez]
    exact dget_of (.inr ⟨o, ok2.ex _ _ hp⟩) hb
theorem od_din {kvs : List (List Key × D)} {k : List Key} (hu : X.A.units + 1 < cLine) (q : Q (.bl (look kvs k).isSome)) : OD X (compareOp .In) (tD k) (.dcT kvs) Q := by
  refine od_of (op_dinT hu) fun v u W H ok h1 h2 R c => ?_
  obtain ⟨bq, rfl, hb⟩ := dn_tupkey ok h1
  cases h2 with
  | @dcT _ p o ws hp m =>
    refine ⟨p, _, rfl, dget_of (.inr ⟨o, ok.ex _ _ hp⟩) hb, ?_⟩
    rw [look_some m]
    exact c.now ok (.bl _) q
/-- x[k], x the owner of its dict -/
theorem ed_getT (i : Nat) (kvs : List (List Key × D)) (hu : X.A.units + 1 < cLine) (hN : X.N[i]? = some x) (h : S[i]? = some (some (.ownT kvs))) (he : ED X B S b fun y => ∃ k d, y = tD k ∧ look kvs k = some d ∧ Q d) (hs : NoSl b := by exact fun _ _ => rfl)
    (hv : Vis X.env.scope x := by first | exact Or.inl rfl | exact Or.inr (Or.inl rfl) | exact Or.inr (Or.inr rfl)) (hd : (x == ("__debug__" : Str)) = false := by decide) (hcd : (x == ("__classdict__" : Str)) = false := by decide) : ED X B S (.Subscript (.Name x px) b pos) Q := fun σ W H r R k0 => by
  refine PE.w (pe_dget hu (pe_var hN hv hd hcd) we_pe hs) ?_
  obtain ⟨v, e1, p, ws, rfl, hB, n, hI, hH, d0⟩ := r.sl i _ h
  refine ⟨_, e1, he σ W H r _ fun y u W2 H2 s2 ok2 n2 q2 => ?_⟩
  obtain ⟨k, d, rfl, e, q⟩ := q2
  obtain ⟨bq, rfl, hb⟩ := dn_tupkey ok2 n2
  obtain ⟨z, ez, nz⟩ := (dnt_look (d0.mono s2.I)).1 d e
  refine ⟨p, z, rfl, ?_, (k0.step s2 ok2).now ok2 nz q⟩
  rw [← ez]
  exact dget_of (.inl (s2.keep _ _ hH n)) hb
theorem td_inT (i : Nat) (kvs : List (List Key × D)) (hu : X.A.units + 1 < cLine) (hN : X.N[i]? = some x) (h : S[i]? = some (some (.ownT kvs))) (he : ED X B S a fun y => ∃ k, y = tD k ∧ QB (look kvs k).isSome)
    (hm : behindInMarks .In (.Name x px) = false := by first | exact nomark _ | rfl) (hv : Vis X.env.scope x := by first | exact Or.inl rfl | exact Or.inr (Or.inl rfl) | exact Or.inr (Or.inr rfl)) (hd : (x == ("__debug__" : Str)) = false := by decide) (hcd : (x == ("__classdict__" : Str)) = false := by decide) : TD X B S (.Compare a [.In] [.Name x px] pos) QB := fun σ W H r R k0 => by
  refine PT.w (pt_cmpR (op_dinT hu) we_pe (pe_var hN hv hd hcd) hm) ?_
  obtain ⟨v, e1, p, ws, rfl, hB, n, hI, hH, d0⟩ := r.sl i _ h
  refine he σ W H r _ fun y u W2 H2 s2 ok2 n2 q2 => ?_
  obtain ⟨k, rfl, q⟩ := q2
  obtain ⟨bq, rfl, hb⟩ := dn_tupkey ok2 n2
  refine ⟨_, e1, p, _, rfl, dget_of (.inl (s2.keep _ _ hH n)) hb, ?_⟩
  rw [look_some (d0.mono s2.I)]
  exact ⟨_, rfl, (k0.step s2 ok2).now ok2 q⟩
end
/-! ### owned -/
section
variable {K : PySem.W.Frag} {g : List Code} {B : Hp} {S : En} {σ : L2.St} {W : Wd} {H : Hp} {i : Nat} {kvs kvs' : List (List Key × D)} {p : Addr} {ws ws' : List (List Key × V)}
theorem Rep.newT (r : Rep K g B S σ W H) (hB : B p = none) (n : ¬ W.P p) (hi : W.I p = none) (hp : H p = some (.dT ws)) (d : Dnt K W.I kvs ws) (new : ∀ (j : Nat) (m : List (List Key × D)), S[j]? = some (some (.ownT m)) → σ[j]? ≠ some (some (.ref p))) :
    Rep K g B (S.set i (some (.ownT kvs))) (σ.set i (some (.ref p))) W H where
  ok := r.ok
  gb := r.gb
  len := by simpa using r.len
  sl := fun j s e => by
    by_cases q : i = j
    · subst q
      by_cases z : i < S.length
      · rw [List.getElem?_set_self z] at e
        cases e
        exact ⟨_, List.getElem?_set_self (r.len ▸ z), p, ws, rfl, hB, n, hi, hp, d⟩
      · rw [List.getElem?_eq_none (by simpa using z)] at e
        cases e
    · rw [List.getElem?_set_ne q] at e ⊢
      exact r.sl j s e
  dist := fun a b l m q ne e1 e2 e3 => by
    have key : ∀ c l, (S.set i (some (.ownT kvs)))[c]? = some (some (Sl.own l)) → i ≠ c := fun c l e z => by
      subst z
      by_cases y : i < S.length
      · rw [List.getElem?_set_self y] at e; cases e
      · rw [List.getElem?_eq_none (by simpa using y)] at e; cases e
    have qa := key a l e1
    have qb := key b m e2
    rw [List.getElem?_set_ne qa] at e1 e3
    rw [List.getElem?_set_ne qb] at e2 ⊢
    exact r.dist a b l m q ne e1 e2 e3
  distT := fun a b la lb q ne e1 e2 e3 => by
    by_cases qa : i = a
    · subst qa
      have lt : i < σ.length := by
        rcases Nat.lt_or_ge i σ.length with z | z
        · exact z
        · rw [List.getElem?_eq_none (by simpa using z)] at e3; cases e3
      rw [List.getElem?_set_self lt] at e3
      cases e3
      rw [List.getElem?_set_ne ne] at e2 ⊢
      exact new b lb e2
    · rw [List.getElem?_set_ne qa] at e1 e3
      by_cases qb : i = b
      · subst qb
        intro e4
        have lt : i < σ.length := by
          rcases Nat.lt_or_ge i σ.length with z | z
          · exact z
          · rw [List.getElem?_eq_none (by simpa using z)] at e4; cases e4
        rw [List.getElem?_set_self lt] at e4
        cases e4
        exact new a la e1 e3
      · rw [List.getElem?_set_ne qb] at e2 ⊢
        exact r.distT a b la lb q ne e1 e2 e3
theorem Rep.putT (r : Rep K g B S σ W H) (h : S[i]? = some (some (.ownT kvs))) (e1 : σ[i]? = some (some (.ref p))) (hB : B p = none) (n : ¬ W.P p) (hI : W.I p = none) (hH : H p = some (.dT ws)) (d : Dnt K W.I kvs' ws') :
    Rep K g B (S.set i (some (.ownT kvs'))) σ W (upd H p (.dT ws')) := by
  have lt : i < S.length := (List.getElem?_eq_some_iff.mp h).1
  have key : ∀ {c : Nat} {m : List D}, (S.set i (some (.ownT kvs')))[c]? = some (some (Sl.own m)) → S[c]? = some (some (Sl.own m)) := fun {c m} ec => by
    by_cases q2 : i = c
    · subst q2
      rw [List.getElem?_set_self lt] at ec
      cases ec
    · rw [List.getElem?_set_ne q2] at ec
      exact ec
  refine ⟨ok_upd r.ok n hI, r.gb, by simpa using r.len, fun j s ej => ?_, fun a b la lb q ne e2 e3 e4 => r.dist a b la lb q ne (key e2) (key e3) e4, r.distT.setS i fun l _ => ⟨kvs, h⟩⟩
  by_cases q : i = j
  · subst q
    rw [List.getElem?_set_self lt] at ej
    cases ej
    exact ⟨_, e1, p, _, rfl, hB, n, hI, upd_same, d⟩
  · rw [List.getElem?_set_ne q] at ej
    obtain ⟨v2, e2, h2⟩ := r.sl j s ej
    refine ⟨v2, e2, ?_⟩
    cases s with
    | val d2 => exact h2
    | pot => exact h2
    | own m =>
      obtain ⟨p2, ys, rfl, b1, b2, b3, b4, b5⟩ := h2
      refine ⟨p2, ys, rfl, b1, b2, b3, ?_, b5⟩
      rw [upd_ne (fun y => by rw [y, hH] at b4; cases b4)]
      exact b4
    | ownT m =>
      obtain ⟨p2, ys, rfl, b1, b2, b3, b4, b5⟩ := h2
      refine ⟨p2, ys, rfl, b1, b2, b3, ?_, b5⟩
      rw [upd_ne (fun y => by
        rw [y] at e2
        exact r.distT i j kvs m p q h ej e1 e2)]
      exact b4
    | inst C p2 dx fs =>
      obtain ⟨vs, rfl, b1, b2, b3, b4, b5, b6, b7, b8, b9, b10⟩ := h2
      refine ⟨vs, rfl, b1, b2, b3, b4, b5, b6, b7, ?_, ?_, b10⟩
      · rw [upd_ne (fun y => by rw [y, hH] at b8; cases b8)]
        exact b8
      · rw [upd_ne (fun y => by rw [y, hH] at b9; cases b9)]
        exact b9
/-- given away: known to its object from now on -/
theorem Rep.frzT {o : Obj} (r : Rep K g B S σ W H) (h : S[i]? = some (some (.ownT kvs))) (e1 : σ[i]? = some (some (.ref p))) (hB : B p = none) (n : ¬ W.P p) (hI : W.I p = none) (hH : H p = some (.dT ws)) (d : Dnt K W.I kvs ws) :
    Rep K g B (S.set i (some (.val (.dcT kvs)))) σ (W.new p (.frz o (.dT ws))) (upd H p (.frz o (.dT ws))) := by
  have lt : i < S.length := (List.getElem?_eq_some_iff.mp h).1
  have key : ∀ {c : Nat} {m : List D}, (S.set i (some (.val (.dcT kvs))))[c]? = some (some (Sl.own m)) → S[c]? = some (some (Sl.own m)) := fun {c m} ec => by
    by_cases q2 : i = c
    · subst q2
      rw [List.getElem?_set_self lt] at ec
      cases ec
    · rw [List.getElem?_set_ne q2] at ec
      exact ec
  have ok0 : Ok g W (upd H p (.frz o (.dT ws))) := ok_upd r.ok n hI
  have ok1 := ok0.frz (p := p) upd_same n fun z => r.gb _ z hB
  refine ⟨ok1, r.gb, by simpa using r.len, fun j s ej => ?_, fun a b la lb q ne e2 e3 e4 => r.dist a b la lb q ne (key e2) (key e3) e4, r.distT.setS i fun l z => by cases z⟩
  by_cases q : i = j
  · subst q
    rw [List.getElem?_set_self lt] at ej
    cases ej
    exact ⟨_, e1, .dcT (o := o) (show upd W.I p _ p = _ from upd_same) (d.mono (Ex.new hI))⟩
  · rw [List.getElem?_set_ne q] at ej
    obtain ⟨v2, e2, h2⟩ := r.sl j s ej
    refine ⟨v2, e2, ?_⟩
    cases s with
    | val d2 => exact Dn.mono (Ex.new hI) h2
    | pot => exact h2
    | own m =>
      obtain ⟨p2, ys, rfl, b1, b2, b3, b4, b5⟩ := h2
      have ne : p2 ≠ p := fun y => by rw [y, hH] at b4; cases b4
      refine ⟨p2, ys, rfl, b1, b2, ?_, by rw [upd_ne ne]; exact b4, b5.mono (Ex.new hI)⟩
      show upd W.I p _ p2 = none
      rw [upd_ne ne]
      exact b3
    | ownT m =>
      obtain ⟨p2, ys, rfl, b1, b2, b3, b4, b5⟩ := h2
      have ne : p2 ≠ p := fun y => by
        rw [y] at e2
        exact r.distT i j kvs m p q h ej e1 e2
      refine ⟨p2, ys, rfl, b1, b2, ?_, by rw [upd_ne ne]; exact b4, b5.mono (Ex.new hI)⟩
      show upd W.I p _ p2 = none
      rw [upd_ne ne]
      exact b3
    | inst C p2 dx fs =>
      obtain ⟨vs, rfl, b1, b2, b3, b4, b5, b6, b7, b8, b9, b10⟩ := h2
      have ne : p2 ≠ p := fun y => by rw [y, hH] at b8; cases b8
      have ne2 : dx ≠ p := fun y => by rw [y, hH] at b9; cases b9
      refine ⟨vs, rfl, b1, b2, b3, b4, b5, ?_, ?_, by rw [upd_ne ne]; exact b8, by rw [upd_ne ne2]; exact b9, b10.mono (Ex.new hI)⟩
      · show upd W.I p _ p2 = none
        rw [upd_ne ne]
        exact b6
      · show upd W.I p _ dx = none
        rw [upd_ne ne2]
        exact b7
theorem stp_frzT {W0 : Wd} {o : HO} (z : Stp W0 B W H) (hB : B p = none) (hI : W.I p = none) : Stp W0 B (W.new p o) (upd H p o) :=
  (stp_upd z hB).frz hB hI
end
section
variable {X : Cx} {B : Hp} {W0 : Wd} {S : En} {pos px p1 : Pos} {Q : D → Prop} {a b c e value key : Expr} {E : Ends'} {x : Str} {st : Stmt} {sts : List Stmt}
/-- x = {} -/
theorem sd_newT {dp : Pos} (i : Nat) (hN : X.N.Nodup) (hi : X.N[i]? = some x) (q : E.nx (S.set i (some (.ownT [])))) (hx : Loc X.env.scope x := by first | exact Or.inl rfl | exact Or.inr rfl)
    (hs : swapsWith (.Dict [] [] dp) (some (.Name x px)) pos.line X.env = pure false := by rfl) (hf : X.fn x = true ∨ X.env.scope.names.lookup x = some .local := by first | exact .inl rfl | exact .inr rfl) : SD X B W0 S (.Assign [.Name x px] (.Dict [] [] dp) pos) E := fun σ W H r z D' k =>
  PS.w (ps_set hN hi hx pe_dnewT hs hf) fun p hp => k.nx _ _ W _ ((r.step (Stp.own hp) (r.ok.own hp)).newT (z.free r.ok hp) (r.ok.notP hp) (r.ok.free hp) upd_same .nil fun j m e1 e2 => by
    obtain ⟨v, e3, p2, ys, e4, _, _, _, h4, _⟩ := r.sl j _ e1
    rw [e2] at e3
    cases e3
    cases e4
    rw [hp] at h4
    cases h4) (z.trans r.ok (Stp.own hp)) (Ex.refl _) q
/-- x[k] = v, x the owner of its dict -/
theorem sd_putT (i : Nat) (kvs : List (List Key × D)) (hu : X.A.units + 1 < cLine) (hN : X.N[i]? = some x) (h : S[i]? = some (some (.ownT kvs))) (hl : kvs.length < 50000) (he : ED X B S value fun d => ED X B S key fun y => ∃ k, y = tD k ∧ E.nx (S.set i (some (.ownT (putE kvs k d)))))
    (hv : Vis X.env.scope x := by first | exact Or.inl rfl | exact Or.inr (Or.inl rfl) | exact Or.inr (Or.inr rfl)) (hd : (x == ("__debug__" : Str)) = false := by decide) (hcd : (x == ("__classdict__" : Str)) = false := by decide)
    (hs : swapsWith value (some (.Subscript (.Name x px) key p1)) pos.line X.env = pure false := by rfl) : SD X B W0 S (.Assign [.Subscript (.Name x px) key p1] value pos) E := fun σ W H r z D' k0 => by
  refine PS.w (ps_dput hu (pe_var hN hv hd hcd) we_pe we_pe hs) ?_
  obtain ⟨v0, e1, p, ws, rfl, hB, n, hI, hH, d0⟩ := r.sl i _ h
  refine he σ W H r _ fun d v W1 H1 s1 ok1 n1 q1 => ⟨_, e1, ?_⟩
  refine q1 σ W1 H1 (r.step s1 ok1) _ fun y u W2 H2 s2 ok2 n2 q2 => ?_
  obtain ⟨ks, rfl, q⟩ := q2
  obtain ⟨bq, rfl, hb⟩ := dn_tupkey ok2 n2
  have st := s1.trans ok1 s2
  have hH2 : H2 p = some (.dT ws) := st.keep _ _ hH n
  have nP : ¬ W2.P p := fun q => n (st.oldP p _ hH q)
  have hI2 : W2.I p = none := st.old p _ hH (fun _ z => by cases z) hI
  refine ⟨p, _, rfl, DPut.t hH2 hb (Nat.lt_of_lt_of_le (show ws.length < 60000 by rw [← d0.length]; omega) (by decide)), ?_⟩
  exact k0.nx _ σ W2 _ ((r.step st ok2).putT h e1 hB nP hI2 hH2 ((d0.mono st.I).put (n1.mono s2.I))) (stp_upd (z.trans r.ok st) hB) st.I q
/-- what a name owns is given away -/
theorem sds_frzT (i : Nat) (kvs : List (List Key × D)) (h : S[i]? = some (some (.ownT kvs))) (k : SDs X B W0 (S.set i (some (.val (.dcT kvs)))) sts E) : SDs X B W0 S sts E := fun σ W H r z D' q => by
  obtain ⟨v, e1, p, ws, rfl, hB, n, hI, hH, d0⟩ := r.sl i _ h
  intro pins s J
  obtain ⟨od, J'⟩ := J.lock hH True.intro
  exact k σ _ _ (r.frzT (o := od) h e1 hB n hI hH d0) (stp_frzT z hB hI) D' (q.mono (Ex.new hI)) pins s J'
/-- a new dict, not yet part of what never changes -/
def ContT (K : PySem.W.Frag) (g : List Code) (W : Wd) (H : Hp) (Q : List (List Key × D) → Prop) (R : VK) : Prop := ∀ kvs p ws W' H', Stp W H W' H' → Ok g W' H' → H p = none → ¬ W'.P p → W'.I p = none → H' p = some (.dT ws) → Dnt K W'.I kvs ws → Q kvs → R (.ref p) H'
def FT (X : Cx) (B : Hp) (S : En) (e : Expr) (Q : List (List Key × D) → Prop) : Prop := ∀ σ W H, Rep X.K (gOf X) B S σ W H → ∀ R, ContT X.K (gOf X) W H Q R → WE X e σ H R
theorem we_lock {σ : L2.St} {H : Hp} {R : VK} (h : WE X e σ H fun v H' => ∃ p ws, v = .ref p ∧ H' p = some (.dT ws) ∧ ∀ od, R (.ref p) (upd H' p (.frz od (.dT ws)))) : WE X e σ H R := fun pins s I => by
  refine wpAny_mono (h pins s I) (fun u s' hq => ?_) fun _ _ q => q
  obtain ⟨v, H', I', rv, p, ws, rfl, hp, q⟩ := hq
  obtain ⟨od, J⟩ := I'.lock hp True.intro
  exact ⟨.ref p, _, J, rv, q od⟩
theorem ed_ft (h : FT X B S e fun kvs => Q (.dcT kvs)) : ED X B S e Q := fun σ W H r R k => we_lock (by
  refine h σ W H r _ fun kvs p ws W' H' st ok hp n i hl d q => ⟨p, ws, rfl, hl, fun od => ?_⟩
  have ok0 : Ok (gOf X) W' (upd H' p (.frz od (.dT ws))) := ok_upd ok n i
  have ok1 := ok0.frz (p := p) upd_same n fun z => (r.ok.gd _ z).2.1 hp
  exact k (.dcT kvs) (.ref p) _ _ ((stp_upd st hp).frz hp i) ok1 (.dcT (o := od) (show upd W'.I p _ p = _ from upd_same) (d.mono (Ex.new i))) q)
end
end DL

set_option Elab.async false
set_option linter.all false
set_option maxRecDepth 100000
set_option maxHeartbeats 4000000
/-! dicts that are data: walked, told as lists, sorted -/
namespace DL
open PySem PySem.Spec PyProof.Rows L2
section
variable {g : List Code} {W : Wd} {H : Hp}
/-- a tuple of plain things that stands in the heap may be told as data -/
theorem ext1 {q : Addr} {ks : List Key} (ok : Ok g W H) (h : H q = some (.tup (ks.map kV))) : ∃ W', Stp W H W' H ∧ Ok g W' H ∧ W'.I q = some (.tup (ks.map kV)) := by
  cases e : W.I q with
  | some o =>
    have := ok.ex q o e
    rw [h] at this
    cases this
    exact ⟨W, Stp.refl, ok, e⟩
  | none =>
    have nP : ¬ W.P q := fun z => by
      obtain ⟨x, y, e2, _⟩ := (ok.pot q z).2
      rw [h] at e2
      cases e2
    have ng : ¬ InG g q := fun z => (ok.gd q z).2.2 ks h
    refine ⟨W.new q (.tup (ks.map kV)), ⟨Ex.new e, fun _ z => z, fun _ _ hb _ => hb, fun b u hb t n => ?_, fun _ _ _ z => z⟩, ok.frz h nP ng, show upd W.I q _ q = _ from upd_same⟩
    show upd W.I q _ b = none
    rw [upd_ne (fun y => by
      subst y
      rw [h] at hb
      exact t _ (Option.some.inj hb).symm)]
    exact n
theorem extN {kvs : List (List Key × V)} {bs : List Addr} (hk : IsKeys H kvs bs) (ok : Ok g W H) : ∃ W', Stp W H W' H ∧ Ok g W' H ∧ Paired (fun p b => W'.I b = some (.tup (p.1.map kV))) kvs bs := by
  unfold IsKeys at hk
  induction hk generalizing W with
  | nil => exact ⟨W, Stp.refl, ok, .nil⟩
  | @cons p b kvs bs h t ih =>
    obtain ⟨W1, s1, ok1, e1⟩ := ext1 ok h
    obtain ⟨W2, s2, ok2, e2⟩ := ih ok1
    exact ⟨W2, s1.trans ok1 s2, ok2, .cons (s2.I _ _ e1) e2⟩
end
/-- the keys, as tuples -/
def keysD (kvs : List (List Key × D)) : List D := kvs.map fun p => tD p.1
theorem dns_keysOf {K : PySem.W.Frag} {I : Hp} : ∀ {kvs : List (List Key × D)} {ws : List (List Key × V)} {bs : List Addr}, Dnt K I kvs ws → Paired (fun p b => I b = some (.tup (p.1.map kV))) ws bs → Dns K I (keysD kvs) (bs.map V.ref)
  | _, _, _, .nil, .nil => .nil
  | _, _, _, .cons (f := f) _ r, .cons h t => .cons (.tup h (keys_dns f)) (dns_keysOf r t)
section
variable {X : Cx} {B : Hp} {W0 : Wd} {S : En} {pos px p1 p : Pos} {Q : D → Prop} {a b c e : Expr} {E : Ends'} {x : Str} {st : Stmt} {sts : List Stmt} {kvs : List (List Key × D)}
/-- [elt for g in d] -/
theorem fd_lcK {elt tg iter : Expr} {scope : Scope} {own : List (Str × Nat)} {g : TG} {Q : List D → Prop} (J : Nat → List D → Prop) (S' : D → En) (hc : X.calm = true) (hN : X.N.Nodup) (ok : BlkOk X.N X.env.scope scope own)
    (hg : ∀ (s : Shared) (H : Hp) (C : Addr) (cl : List (Str × Addr)) (fp : List Addr), PG (X.blk s H scope (compEnvC scope cl C X.env) fp) tg g)
    (h : ED X B S iter fun d => d = .dcT kvs ∧ kvs.length ≤ 50000 ∧ J 0 []) (hp : ∀ d, Pat X.K g (own.map (·.2)) S d (S' d))
    (he : ∀ (i : Nat) k d acc, kvs[i]? = some (k, d) → acc.length = i → J i acc → ∀ (s : Shared) (H0 : Hp) (C : Addr) (cl : List (Str × Addr)) (fp : List Addr), ED (X.blk s H0 scope (compEnvC scope cl C X.env) fp) B (S' (tD k)) elt fun y => J (i + 1) (acc ++ [y]))
    (hd : ∀ acc, acc.length = kvs.length → J kvs.length acc → Q acc) (hs : ∀ x, foldedSetIterable iter X.env x = pure x := by intro _; rfl) : FD X B S (.ListComp elt [⟨tg, iter, [], 0⟩] scope pos) Q := fun σ W H r R k => by
  refine PE.w (pe_lc (te := WEb X scope elt) hc hN (pi_keys we_pe) ok hg (fun _ _ _ _ _ => pts_nil) web_pe hs) ?_
  refine h σ W H r _ fun d v W1 H1 s1 ok1 n1 q1 => ?_
  obtain ⟨rfl, hz, j0⟩ := q1
  cases n1 with
  | @dcT _ a o ws ha m =>
    have hlw := m.length
    refine ⟨a, o, rfl, .inr ⟨ws, ok1.ex _ _ ha, fun p hp0 => ?_⟩⟩
    have r1 := r.step s1 ok1
    refine lc_it walk_keysT (fun i H' => ∃ acc W', Mid X.K (gOf X) W1 H1 p acc W' H' ∧ acc.length = i ∧ J i acc) ⟨[], W1, ⟨Stp.own hp0, ok1.own hp0, ok1.notP hp0, ok1.free hp0, [], upd_same, .nil⟩, rfl, j0⟩
      (fun i H' _ ⟨acc, W', mm, _⟩ => mm.ok.ex _ _ (mm.st.I _ _ ha)) ?_ ?_
    · rintro i y H' H2 hi ⟨acc, W', mm, hl, j⟩ ⟨rfl, k1, v1, q, hw, rfl, hq⟩
      obtain ⟨d, hd', nd⟩ := m.get hw
      obtain ⟨W2, s2, ok2, hI⟩ := ext1 mm.ok hq
      have mm2 := mm.step s2 ok2
      have r2 := r1.step mm2.st mm2.ok
      refine hp (tD k1) (gOf X) B σ W2 H2 _ r2 (.tup hI (keys_dns k1)) _ fun σ2 e2 r3 => ⟨e2, ?_⟩
      show WEb X scope elt σ2 H2 _
      intro s H0 C cl fp
      refine he i k1 d acc hd' hl j s H0 C cl fp σ2 W2 H2 r3 _ fun y W3v W3 H3 s3 ok3 n3 q3 => ?_
      obtain ⟨xs', e1, e3, m3⟩ := (mm2.step s3 ok3).more hp0 n3 (by omega)
      exact ⟨xs', e1, e3, _, W3, m3, by simp [hl], q3⟩
    · rintro H' ⟨acc, W', mm, hl, j⟩
      obtain ⟨ys, hH, ds⟩ := mm.h
      rw [← hlw] at hl j
      exact k acc p ys W' H' (s1.trans ok1 mm.st) mm.ok (s1.free ok1 hp0) mm.n mm.i hH ds (hd acc hl j)
/-- len(d) -/
theorem call_len_dTr : CallR X (.builtin "len") (fun xs H Q => ∃ a ws, xs = [V.ref a] ∧ Rd H a (.dT ws) ∧ Q (.int (ws.length : Int)) H) := by
  intro pins t τ H xs us Q J r q
  obtain ⟨a, ws, rfl, ha, q⟩ := q
  rw [Vals.ref1 r]
  obtain ⟨z, hd, ys, rel, dd⟩ := dt_rd J.hok ha
  have e : ws.length = ys.length := Paired.length rel
  have z' : ys.length ≤ sizeLine := e ▸ z
  refine call_len_dictH hd dd (by rw [sizeLine_eq] at z'; omega) ?_
  rw [← e]
  exact ⟨.int (ws.length : Int), H, J.tok _, ⟨_, rfl⟩, q⟩
theorem cd_lenT (q : Q (.int (kvs.length : Int))) : CD X (.builtin "len") [.val (.dcT kvs)] Q := cd_of call_len_dTr fun vs W H ok ha R c => by
  obtain ⟨v, rfl, m⟩ := one_arg ha
  cases m with
  | @dcT _ a o ws hp m =>
    refine ⟨a, ws, rfl, .inr ⟨o, ok.ex _ _ hp⟩, ?_⟩
    rw [← m.length]
    exact c.now ok (.int _) q
end
end DL

set_option Elab.async false
set_option linter.all false
set_option maxRecDepth 100000
set_option maxHeartbeats 4000000
/-! {k: v for ..}, the keys tuples; lists of tuples of ints sorted -/
namespace DL
open PySem PySem.Spec PyProof.Rows L2
section
variable {X : Cx}
/-- one entry more, by a comprehension -/
theorem put_dT {pins : List (Addr × Obj)} {τ : L2.St} {G : Hp} {t : Shared} {E : Value → Shared → Prop} {D b : Addr} {ws : List (List Key × V)} {ks : List Key} {z : V} {u : Value} {R : Unit → Shared → Prop} (hu : X.A.units + 1 < cLine) (J : Inv X pins τ G t) (hD : G D = some (.dT ws)) (hw : ws.length < sizeLine)
    (hb : G b = some (.tup (ks.map kV))) (rz : RelV z u) (k : ∀ t', Inv X pins τ (upd G D (.dT (putK ws ks z))) t' → R () t') : wpAny (model X.prog X.w) X.A (dictSet D (.ref b) u) R E t := by
  obtain ⟨le, ns, ys, rel, at_⟩ := dt_of J.hok hD
  have le2 : ys.length ≤ sizeLine := (Paired.length rel) ▸ le
  have fit : (putK ws ks z).length ≤ sizeLine := Nat.le_trans (length_putK ws ks z) hw
  refine wpAny_dictSet_heap (hsz := le2) (Nat.lt_of_succ_lt hu) (key_of J.hok hb) at_ fun h' at2 same => k _ ?_
  obtain ⟨oD, es, ep, gD, x1, x2, x3, _, x5⟩ := at2
  refine d_write J (by rw [hD]; trivial) same ⟨oD, gD⟩ ⟨fit, ns, _, KT.keeps (rel.put ks hb rz) (fun c zs ec => ?_), oD, es, ep, gD, x1, x2, x3, x5⟩
  have : c ≠ D := fun e => by rw [e, hD] at ec; cases ec
  rw [upd_ne this, ec]
/-- {k: v for g in ..}: D the new dict -/
def tDcT (wi : TI) (g : TG) (tk tv : TE) (vs : List Nat) : TE := fun σ H Q => wi σ H fun Y H1 => ∀ D, H1 D = none → ∃ Z : Nat → Nat → Hp → Prop, (∃ m, Z 0 m (upd H1 D (.dT []))) ∧ ∀ i m G, Z i m G →
  (Y.stop i G ∧ Q (.ref D) G) ∨ (Y.go i G ∧ ∃ Nx : Hp → Prop, (∀ G', Nx G' → ∃ m', m' < m ∧ Z (i + 1) m' G') ∧ ∀ x G', Y.yld i G x G' → g x (wipe σ vs) G' fun τ G2 => wipe τ vs = wipe σ vs ∧
    tk τ G2 fun y G3 => tv τ G3 fun z G4 => ∃ ws ks b, y = .ref b ∧ G4 b = some (.tup (ks.map kV)) ∧ G4 D = some (.dT ws) ∧ ws.length < sizeLine ∧ Nx (upd G4 D (.dT (putK ws ks z))))
theorem pe_dcT {kx vx tg iter : Expr} {scope : Scope} {own : List (Str × Nat)} {pos : Pos} {wi : TI} {g : TG} {tk tv : TE} (hc : X.calm = true) (hu : X.A.units + 1 < cLine) (hN : X.N.Nodup) (hi : PI X tg iter wi) (ok : BlkOk X.N X.env.scope scope own) (hg : AllBlk X scope fun Y => PG Y tg g)
    (hk : AllBlk X scope fun Y => PE Y kx tk) (hv : AllBlk X scope fun Y => PE Y vx tv) (hs : ∀ x, foldedSetIterable iter X.env x = pure x := by intro _; rfl) : PE X (.DictComp kx vx [⟨tg, iter, [], 0⟩] scope pos) (tDcT wi g tk tv (own.map (·.2))) := by
  refine ⟨fun pins t σ H Q J h => ?_⟩
  rw [arm_eval_DictComp]
  have known : ∀ y ∈ scope.names, y.2 = .free → ∃ c, X.env.cells.lookup y.1 = some c := fun y my e => (ok.free y my e).elim (fun k => J.ok.has _ (Or.inl k)) (fun k => J.ok.has _ (Or.inr k))
  refine wpAny_comprehension_free rfl hs (closure_ok known) ok.kind (fun y my e => (ok.uniq y my).trans (congrArg some e)) (thn (hi.run pins t σ H _ J h) fun xv t1 hx => thn hx fun itv t2 hit => ?_)
  obtain ⟨it, fp, tn, Y, H2, rfl, J2, T, stay, fpOk, turns⟩ := hit
  refine wpAny_newObj_type (newEnv_comp ?_)
  generalize eD : t2.heap.objs.size = D
  obtain ⟨Z, ⟨m0, z0⟩, turn⟩ := turns D (J2.hok.fresh (Nat.le_of_eq eD))
  generalize e3 : ({ t2 with heap := t2.heap.push { cls := .type "dict", data := .dict #[] } } : Shared) = t3
  have hp3 : t3.heap = t2.heap.push { cls := .type "dict", data := .dict #[] } := by rw [← e3]
  have J3 : Inv X pins σ (upd H2 D (.dT [])) t3 := by
    subst e3 eD
    exact J2.laid (t' := t2.toks) (fun b o e => Heap.get?_push_of_some _ e) (Nat.le_refl _) (dt_empty t2.heap J2.big)
  have below : ∀ b ∈ fp, b < D := fun b mb => by
    obtain ⟨o, e, _⟩ := T.obj _ _ stay b mb
    exact eD ▸ Heap.lt_size e
  generalize eG : upd H2 D (.dT []) = G0 at J3 z0
  have fp3 : ∀ b ∈ fp, FpOk X pins G0 b ∧ b < t3.heap.objs.size := fun b mb => by
    have lt := below b mb
    refine ⟨⟨?_, (fpOk b mb).2⟩, by rw [hp3, Heap.size_push, eD]; exact Nat.lt_succ_of_lt lt⟩
    rw [← eG, upd_ne (Nat.ne_of_lt lt)]
    exact (fpOk b mb).1
  have stay3 : tn 0 t3.heap := T.keep _ _ _ stay fun b _ o e => hp3 ▸ Heap.get?_push_of_some _ e
  have J4 := block_start J3 ok hN fp3
  generalize eC : cellsFrom (t3.heap.objs.size + 1) scope.names (cloFrom X.env.cells scope.names []) = cs at J4
  have pg := hg t3 G0 t3.heap.objs.size cs fp
  have pk := hk t3 G0 t3.heap.objs.size cs fp
  have pv := hv t3 G0 t3.heap.objs.size cs fp
  generalize eE : compEnvC scope cs t3.heap.objs.size X.env = ce at J4 pg pk pv
  have loc : ce.locals = t3.heap.objs.size := by rw [← eE]; rfl
  have start : codeAny (model X.prog X.w) X.A (.compStart (.DictComp kx vx [⟨tg, iter, [], 0⟩] scope pos) 0 (.ref it) (.ref D) ce) (compPost (model X.prog X.w) X.A X.xe none (EP X pins σ Q) (.ref D) t3.heap.objs.size)
      { t3 with heap := pushCells (t3.heap.push { cls := .type "dict", data := .dict #[] }) scope.names } := by
    generalize e4 : ({ t3 with heap := pushCells (t3.heap.push { cls := .type "dict", data := .dict #[] }) scope.names } : Shared) = t4 at J4
    have stay4 : tn 0 t4.heap := T.keep _ _ _ stay3 fun b _ o e => by rw [← e4]; exact pushCells_keeps _ _ _ _ (Heap.get?_push_of_some _ e)
    have fpS : ∀ {τ : L2.St} {G : Hp} {u : Shared}, Inv (X.blk t3 G0 scope ce fp) [] τ G u → (∀ b ∈ fp, G b = none) → ∀ b ∈ fp, FpOk (X.blk t3 G0 scope ce fp) [] G b := fun {τ G u} I' no b mb =>
      ⟨no b mb, (I'.ok.exf b mb).1, I'.ok.exfs b mb, .inl mb, fun x c e => (I'.ok.exf b mb).2 x c e, fun p mp => absurd (show p ∈ ([] : List (Addr × Obj)) ++ [] from mp) (by simp)⟩
    have goes : codeAny (model X.prog X.w) X.A (.compLoop (.DictComp kx vx [⟨tg, iter, [], 0⟩] scope pos) 0 (.ref it) (.ref D) ce) (compPost (model X.prog X.w) X.A X.xe none (EP X pins σ Q) (.ref D) t3.heap.objs.size) t4 := by
      refine compLoop_anyD (fun n u => ∃ i G, Inv (X.blk t3 G0 scope ce fp) [] (wipe σ (own.map (·.2))) G u ∧ tn i u.heap ∧ (∀ b ∈ fp, G b = none) ∧ Z i n G) ?_ m0 ⟨0, G0, J4, stay4, fun b mb => (fp3 b mb).1.1, z0⟩
      rintro n t5 ⟨i, G5, J5, stay5, no5, z5⟩
      rcases turn i n G5 z5 with ⟨stop, fin⟩ | ⟨go, Nx, less, step⟩
      · refine thnF (T.done (X.blk t3 G0 scope ce fp) rfl rfl rfl hc i [] t5 _ G5 (fun _ _ => False) J5 (fpS J5 no5) stay5 stop) fun r t6 ⟨er, J6⟩ => ?_
        subst er
        have J7 : Inv X pins σ G5 t6 := J3.call' (ch := fp) J6.os J6.base J6.hok J6.bare fun b mb => by
          obtain ⟨_, a1, a2, a3, a4, a5⟩ := (fp3 b mb).1
          exact ⟨a3, a1, a4, a5⟩
        obtain ⟨m, ns, _⟩ := J6.loc
        have ns' : t6.heap.Ns ce.locals m := ns
        rw [loc] at ns'
        have noC : G5 t3.heap.objs.size = none := by
          have := J6.free
          rw [show (X.blk t3 G0 scope ce fp).env.locals = ce.locals from rfl, loc] at this
          exact this
        obtain ⟨f0, f1, f2, f3, f4, f5⟩ := J3.fpOk (H' := G5) (Nat.le_refl _) noC
        exact ⟨m, ns', fun h'' sb => ⟨.ref D, G5, J7.turned (t' := t6.toks) (fun b o nb e => (sb.2 b nb).trans e) f0 f1 f3 f4 f5, rfl, fin⟩⟩
      · refine thnF (T.item (X.blk t3 G0 scope ce fp) rfl rfl rfl hc i [] t5 _ G5 (fun _ _ => False) J5 (fpS J5 no5) stay5 go) fun r t6 ⟨u, er, goes6⟩ => ?_
        subst er
        refine thnF goes6 fun _ t7 ⟨x, G7, J7, r7, y7, stay7, no7⟩ => ?_
        refine thnF (pg.run _ t7 _ G7 x u _ (J7.pinned (fpS J7 no7) (T.obj _ _ stay7)) r7 (step x G7 y7)) fun _ t8 ⟨τ, G8, J8, wiped, q8⟩ => ?_
        refine thnF ((pts_nil (X := X.blk t3 G0 scope ce fp)).run _ t8 τ G8 (fun b G => b = true ∧ G = G8) J8 ⟨rfl, rfl⟩) fun b t9 ⟨G9, J9, eb, eG9⟩ => ?_
        subst eb eG9
        show wpAny _ _ (eval kx ce) _ _ t9
        refine thnF (pk.run _ t9 τ G9 _ J9 q8) fun kv ta ⟨y, Ga, Ja, ry, qa⟩ => ?_
        refine thnF (pv.run _ ta τ Ga _ Ja qa) fun vv tb ⟨w', Gb, Jb, rw', ws, ks, q, ey, hq, hD, hw, nx⟩ => ?_
        subst ey
        cases (show kv = Value.ref q from ry)
        refine put_dT (X := X.blk t3 G0 scope ce fp) hu Jb hD hw hq rw' fun tc Jc => ?_
        obtain ⟨m', lt, z6⟩ := less _ nx
        have same : ∀ b ∈ fp, ∀ o, t7.heap.get? b = some o → tc.heap.get? b = some o ∧ upd Gb D (.dT (putK ws ks w')) b = none := fun b mb o e => by
          have z := Jc.pin (b, o) (List.mem_append_right _ (List.mem_append_right _ (mem_pinsAt mb e)))
          exact ⟨z.1, z.2.1⟩
        have hl : (wipe σ (own.map (·.2))).length = τ.length := by rw [← wiped, wipe_length]
        refine ⟨m', lt, i + 1, _, (Jc.unpinned (pins := [])).weak hl (fun j v e => ?_), T.keep _ _ _ stay7 fun b mb o e => (same b mb o e).1, fun b mb => ?_, z6⟩
        · rw [← wiped] at e
          exact (wipe_some e).1
        · obtain ⟨o, e, _⟩ := T.obj _ _ stay7 b mb
          exact (same b mb o e).2
    exact codeAny_compStart_dict goes (T.self X.A 0 _ _ _ stay4 goes)
  rw [← eE] at start
  exact start
end
end DL

set_option Elab.async false
set_option linter.all false
set_option maxRecDepth 100000
set_option maxHeartbeats 4000000
/-! {k: v for .. in a list}; sorted of tuples of ints, as data -/
namespace DL
open PySem PySem.Spec PyProof.Rows L2
theorem putE_len (kvs : List (List Key × D)) (k : List Key) (d : D) : (putE kvs k d).length ≤ kvs.length + 1 := by
  unfold putE
  split
  · rw [List.length_map]; omega
  · simp
theorem dct_it {J : It} {n : Nat} {G : Hp → Prop} {Y : Nat → Hp → V → Hp → Prop} (w : Walk J n G Y) {g : TG} {tk tv : TE} {vs : List Nat} {σ : L2.St} {H1 : Hp} {D : Addr} {Qd : Hp → Prop} (Pv : Nat → Hp → Prop) (h0 : Pv 0 (upd H1 D (.dT []))) (hG : ∀ i H, i ≤ n → Pv i H → G H)
    (hs : ∀ i x H H', i < n → Pv i H → Y i H x H' → g x (wipe σ vs) H' fun σ2 H2 => wipe σ2 vs = wipe σ vs ∧ tk σ2 H2 fun y H3 => tv σ2 H3 fun z H4 => ∃ ws ks b, y = .ref b ∧ H4 b = some (.tup (ks.map kV)) ∧ H4 D = some (.dT ws) ∧ ws.length < sizeLine ∧ Pv (i + 1) (upd H4 D (.dT (putK ws ks z)))) (hd : ∀ H, Pv n H → Qd H) :
    ∃ Z : Nat → Nat → Hp → Prop, (∃ m, Z 0 m (upd H1 D (.dT []))) ∧ ∀ i m H, Z i m H → (J.stop i H ∧ Qd H) ∨ (J.go i H ∧ ∃ Nx : Hp → Prop, (∀ H', Nx H' → ∃ m', m' < m ∧ Z (i + 1) m' H') ∧ ∀ x H', J.yld i H x H' → g x (wipe σ vs) H' fun σ2 H2 => wipe σ2 vs = wipe σ vs ∧
      tk σ2 H2 fun y H3 => tv σ2 H3 fun z H4 => ∃ ws ks b, y = .ref b ∧ H4 b = some (.tup (ks.map kV)) ∧ H4 D = some (.dT ws) ∧ ws.length < sizeLine ∧ Nx (upd H4 D (.dT (putK ws ks z)))) := by
  refine ⟨fun i m H => m = n - i ∧ i ≤ n ∧ Pv i H, ⟨n, rfl, Nat.zero_le _, h0⟩, fun i m H ⟨em, hi, p⟩ => ?_⟩
  have hg := hG i H hi p
  rcases Nat.lt_or_ge i n with lt | ge
  · exact .inr ⟨w.goes i H lt hg, Pv (i + 1), fun H' p' => ⟨n - (i + 1), by omega, rfl, lt, p'⟩, fun x H' y => hs i x H H' lt p (w.yields i H x H' lt hg y)⟩
  · have : i = n := by omega
    subst this
    exact .inl ⟨w.stops H hg, hd H p⟩
/-- at an address of one's own: the dict so far -/
structure MidT (K : PySem.W.Frag) (g : List Code) (W1 : Wd) (H1 : Hp) (p : Addr) (l : List (List Key × D)) (W : Wd) (H : Hp) : Prop where
  st : Stp W1 H1 W H
  ok : Ok g W H
  n : ¬ W.P p
  i : W.I p = none
  h : ∃ ws, H p = some (.dT ws) ∧ Dnt K W.I l ws
theorem MidT.step {K : PySem.W.Frag} {g : List Code} {W1 W W2 : Wd} {H1 H H2 : Hp} {p : Addr} {l : List (List Key × D)} (m : MidT K g W1 H1 p l W H) (a : Stp W H W2 H2) (ok : Ok g W2 H2) : MidT K g W1 H1 p l W2 H2 := by
  obtain ⟨ws, hp, d⟩ := m.h
  exact ⟨m.st.trans m.ok a, ok, fun z => m.n (a.oldP p _ hp z), a.old p _ hp (fun _ z => by cases z) m.i, ws, a.keep p _ hp m.n, d.mono a.I⟩
theorem MidT.more {K : PySem.W.Frag} {g : List Code} {W1 W : Wd} {H1 H : Hp} {p : Addr} {l : List (List Key × D)} {k : List Key} {d : D} {v : V} (hp0 : H1 p = none) (m : MidT K g W1 H1 p l W H) (hd : Dn K W.I d v) (hl : l.length < 60000) :
    ∃ ws, H p = some (.dT ws) ∧ ws.length < sizeLine ∧ MidT K g W1 H1 p (putE l k d) W (upd H p (.dT (putK ws k v))) := by
  obtain ⟨ws, hp, ds⟩ := m.h
  exact ⟨ws, hp, Nat.lt_of_lt_of_le (ds.length ▸ hl) (by decide), stp_upd m.st hp0, ok_upd m.ok m.n m.i, m.n, m.i, _, upd_same, ds.put hd⟩
section
variable {X : Cx} {B : Hp} {W0 : Wd} {S : En} {pos px p1 p : Pos} {Q : D → Prop} {a b c e : Expr} {E : Ends'} {x : Str} {kvs : List (List Key × D)}
/-- {kx: vx for g in a list} -/
theorem ft_dcL {kx vx tg iter : Expr} {scope : Scope} {own : List (Str × Nat)} {g : TG} {l : List D} {Q : List (List Key × D) → Prop} (J : Nat → List (List Key × D) → Prop) (S' : D → En) (hc : X.calm = true) (hu : X.A.units + 1 < cLine) (hN : X.N.Nodup) (ok : BlkOk X.N X.env.scope scope own)
    (hg : AllBlk X scope fun Y => PG Y tg g) (h : ED X B S iter fun d => d = .lst l ∧ l.length ≤ 50000 ∧ J 0 []) (hp : ∀ d ∈ l, Pat X.K g (own.map (·.2)) S d (S' d))
    (he : ∀ (i : Nat) d acc, l[i]? = some d → J i acc → AllBlk X scope fun Y => ED Y B (S' d) kx fun y => ∃ k, y = tD k ∧ AllBlk X scope fun Y => ED Y B (S' d) vx fun z => J (i + 1) (putE acc k z))
    (hd : ∀ acc, J l.length acc → Q acc) (hs : ∀ x, foldedSetIterable iter X.env x = pure x := by intro _; rfl) : FT X B S (.DictComp kx vx [⟨tg, iter, [], 0⟩] scope pos) Q := fun σ W H r R k => by
  refine PE.w (pe_dcT (tk := WEb X scope kx) (tv := WEb X scope vx) hc hu hN (pi_list we_pe) ok hg web_pe web_pe hs) ?_
  refine h σ W H r _ fun d v W1 H1 s1 ok1 n1 q1 => ?_
  obtain ⟨rfl, hz, j0⟩ := q1
  cases n1 with
  | @lst _ a xs ha m =>
    refine ⟨a, rfl, ⟨xs, SqL.of (ok1.ex _ _ ha)⟩, fun p hp0 => ?_⟩
    have r1 := r.step s1 ok1
    have hlx := m.length
    refine dct_it walk_list (fun i H' => ∃ acc W', MidT X.K (gOf X) W1 H1 p acc W' H' ∧ acc.length ≤ i ∧ J i acc) ⟨[], W1, ⟨Stp.own hp0, ok1.own hp0, ok1.notP hp0, ok1.free hp0, [], upd_same, .nil⟩, Nat.le_refl _, j0⟩
      (fun i H' _ ⟨acc, W', mm, _⟩ => SqL.of (mm.ok.ex _ _ (mm.st.I _ _ ha))) ?_ ?_
    · rintro i y H' H2 hi ⟨acc, W', mm, hl, j⟩ ⟨rfl, hx⟩
      obtain ⟨d, hd', nd⟩ := m.get hx
      have r2 := r1.step mm.st mm.ok
      refine hp d (List.mem_of_getElem? hd') (gOf X) B σ W' H2 y r2 (nd.mono mm.st.I) _ fun σ2 e2 r3 => ⟨e2, ?_⟩
      show WEb X scope kx σ2 H2 _
      intro s H0 C cl fp
      refine he i d acc hd' j s H0 C cl fp σ2 W' H2 r3 _ fun y W3v W3 H3 s3 ok3 n3 q3 => ?_
      obtain ⟨k1, rfl, q3⟩ := q3
      obtain ⟨bq, rfl, hb⟩ := dn_tupkey ok3 n3
      show WEb X scope vx σ2 H3 _
      intro s' H0' C' cl' fp'
      refine q3 s' H0' C' cl' fp' σ2 W3 H3 (r3.step s3 ok3) _ fun z W4v W4 H4 s4 ok4 n4 q4 => ?_
      have st := s3.trans ok3 s4
      obtain ⟨ws, e1, e3, m4⟩ := (mm.step st ok4).more (k := k1) hp0 n4 (by omega)
      have hb4 : H4 bq = some (.tup (k1.map kV)) := s4.keep _ _ hb fun z => by
        obtain ⟨x1, x2, e, _⟩ := (ok3.pot bq z).2
        rw [hb] at e
        cases e
      exact ⟨ws, k1, bq, rfl, hb4, e1, e3, _, W4, m4, Nat.le_trans (putE_len _ _ _) (by omega), q4⟩
    · rintro H' ⟨acc, W', mm, hl, j⟩
      obtain ⟨ys, hH, ds⟩ := mm.h
      rw [← hlx] at j
      exact k acc p ys W' H' (s1.trans ok1 mm.st) mm.ok (s1.free ok1 hp0) mm.n mm.i hH ds (hd acc j)
end
/-! ### sorted -/
abbrev tI (l : List Int) : D := .tup (l.map D.int)
abbrev ik (l : List Int) : List Key := l.map Sum.inl
theorem tD_ik (l : List Int) : tD (ik l) = tI l := by simp [tD, tI, ik, kD, Function.comp_def]
section
variable {K : PySem.W.Frag} {I : Hp}
theorem dns_perm {ys xs : List V} (p : ys.Perm xs) : ∀ {ls : List (List Int)}, Dns K I (ls.map tI) xs → ∃ ls' : List (List Int), ls'.Perm ls ∧ Dns K I (ls'.map tI) ys := by
  induction p with
  | nil =>
    intro ls h
    exact ⟨ls, .refl _, h⟩
  | cons x _ ih =>
    intro ls h
    match ls, h with
    | l :: ls, .cons h1 h2 =>
      obtain ⟨ls', q, h3⟩ := ih h2
      exact ⟨l :: ls', q.cons l, .cons h1 h3⟩
  | swap x y zs =>
    intro ls h
    match ls, h with
    | a :: b :: ls, .cons h1 (.cons h2 h3) => exact ⟨b :: a :: ls, .swap a b ls, .cons h2 (.cons h1 h3)⟩
  | trans _ _ ih1 ih2 =>
    intro ls h
    obtain ⟨l1, q1, h1⟩ := ih2 h
    obtain ⟨l2, q2, h2⟩ := ih1 h1
    exact ⟨l2, q2.trans q1, h2⟩
theorem dn_tupI {W : Wd} {H : Hp} {g : List Code} (ok : Ok g W H) {l : List Int} {v : V} (n : Dn K W.I (tI l) v) : TupI K H v l := by
  cases n with
  | tup h m =>
    rw [Dns.ints m] at h
    exact ⟨_, rfl, SqT.of (ok.ex _ _ h)⟩
theorem dns_pair {W : Wd} {H : Hp} {g : List Code} (ok : Ok g W H) {R : List Int → List Int → Prop} : ∀ {ls : List (List Int)} {ys : List V}, Dns K W.I (ls.map tI) ys → ys.Pairwise (fun x y => ∀ n m, TupI K H x n → TupI K H y m → R n m) → ls.Pairwise R
  | [], _, _, _ => .nil
  | l :: ls, _, .cons h1 h2, p => by
    rw [List.pairwise_cons] at p
    refine .cons (fun l' hl' => ?_) (dns_pair ok h2 p.2)
    obtain ⟨j, hj, e⟩ := List.getElem_of_mem hl'
    obtain ⟨v, hv, nv⟩ := h2.get' (i := j) (d := tI l') (by rw [List.getElem?_map, List.getElem?_eq_getElem hj, e]; rfl)
    exact p.1 v (List.mem_of_getElem? hv) l l' (dn_tupI ok h1) (dn_tupI ok nv)
end
end DL

set_option Elab.async false
set_option linter.all false
set_option maxRecDepth 100000
set_option maxHeartbeats 4000000
/-! sorted(d), the keys tuples of ints -/
namespace DL
open PySem PySem.Spec PyProof.Rows L2
theorem keyPairs {H : Hp} {P : Program} {w : World} {h : Heap} (ok : HOk P w H h) : ∀ {kvs : List (List Key × V)} {ks : List (List Key × Addr × Value)}, KT H kvs ks → IsKeys H kvs (ks.map fun x => x.2.1)
  | _, _, .nil => .nil
  | _, _, .cons h t => .cons h.2.1 (keyPairs ok t)
theorem accKeys {ks : List (List Key × Addr × Value)} {es : Array DictEntry} {acc : List Value} {P : Program} {w : World} (he : es.toList = ks.map (entryOfKey (tupleKind (mixKind P w)))) (hl : acc.length = ks.length) (hi : ∀ (j : Nat) v, acc[j]? = some v → ∃ en : DictEntry, es[j]? = some en ∧ v = en.key) :
    acc = (ks.map fun x => x.2.1).map Value.ref := by
  apply List.ext_getElem?
  intro j
  rw [List.getElem?_map, List.getElem?_map]
  rcases Nat.lt_or_ge j ks.length with lt | ge
  · have ej : acc[j]? = some (acc[j]'(hl ▸ lt)) := List.getElem?_eq_getElem _
    obtain ⟨en, e1, e2⟩ := hi j _ ej
    have e3 := entry_at he j
    rw [e1, List.getElem?_eq_getElem lt] at e3
    rw [ej, e2, List.getElem?_eq_getElem lt, Option.some.inj e3]
    rfl
  · rw [List.getElem?_eq_none (by omega), List.getElem?_eq_none ge]
    rfl
theorem Itemz {H : Hp} {kvs : List (List Key × V)} {bs : List Addr} (h : IsKeys H kvs bs) (j : Nat) (hj : j < kvs.length) : ∃ b, bs[j]? = some b ∧ H b = some (.tup (kvs[j].1.map kV)) := by
  obtain ⟨b, e, r⟩ := paired_get h (List.getElem?_eq_getElem hj)
  exact ⟨b, e, r⟩
theorem cr_sortK {X : Cx} {dd : Nat} {B : Int} (hc : X.calm = true) (hd : 1 ≤ dd) : CallR X (.builtin "sorted") (fun xs H Q => ∃ d kvs, xs = [V.ref d] ∧ Rd H d (.dT kvs) ∧ kvs.length < 64 ∧ (∀ p ∈ kvs, ∃ l : List Int, p.1 = ik l ∧ l.length = dd ∧ TS.Bd B l) ∧
    ∀ bs ys p, IsKeys H kvs bs → ys.Perm (bs.map V.ref) → ys.Pairwise (fun x y => ∀ n m, TupI X.K H x n → TupI X.K H y m → TS.code B n ≤ TS.code B m) → H p = none → Q (.ref p) (upd H p (.lst ys))) := by
  intro pins t τ H xs us Q J r q
  obtain ⟨d, kvs, rfl, rd, few, hx, q⟩ := q
  rw [Vals.ref1 r]
  obtain ⟨z, ns, ks, pr, o, es, ep, ho, hex, hdt, he, nd⟩ := (show ObjOk X.prog X.w H t.heap d (.dT kvs) from rd.ok J.hok)
  have l1 : es.size = ks.length := size_of_entries he
  have l2 : kvs.length = ks.length := Paired.length pr
  have small : ks.length ≤ sizeLine := l2 ▸ z
  have isk := keyPairs J.hok pr
  refine Calls.call_function_entry kind_sorted plain_sorted entry_sorted (args_sorted1 _) ?_
  unfold Builtin.«sorted»
  refine wpAny_bind (m := checkCount "sorted" 1 1 _) (wpAny_pure ?_)
  refine wpAny_bind (PySem.W.kdu_collect (A := X.A.in1) (kdl_raw ns hex hdt) (J.ok.hd hc) ho (by omega) fun h' tk acc keep it => ?_)
  have ea := accKeys (acc := acc.toList) he (by rw [Array.length_toList, it.1]; exact l1) fun j v e => it.2 j v (by rw [← Array.getElem?_toList]; exact e)
  have J1 : Inv X pins τ H { t with heap := h', toks := tk } := J.kept keep
  generalize eb : (ks.map fun x => x.2.1) = bs at isk ea
  have lb : bs.length = ks.length := by rw [← eb, List.length_map]
  rw [ea]
  refine wpAny_bind (wpAny_newList ?_ (by rw [List.length_map, lb]; exact small))
  have at_ : (h'.push (seqObj "list" (bs.map Value.ref).toArray 0)).get? h'.objs.size = some (seqObj "list" (bs.map Value.ref).toArray 0) := Heap.get?_push_size _ rfl
  have raw : ∀ b ∈ bs, ∃ l, SqT X.K H b (l.map V.int) ∧ l.length = dd ∧ TS.Bd B l := fun b hb => by
    obtain ⟨j, hj, e⟩ := List.getElem_of_mem hb
    have hjk : j < kvs.length := by omega
    obtain ⟨b', hb', hH⟩ := Itemz isk j hjk
    rw [List.getElem?_eq_getElem hj, e] at hb'
    cases hb'
    obtain ⟨l, e1, e2, e3⟩ := hx _ (List.getElem_mem hjk)
    rw [e1] at hH
    refine ⟨l, SqT.of ?_, e2, e3⟩
    have : (ik l).map kV = l.map V.int := by simp [ik, kV, Function.comp_def]
    rw [← this]
    exact hH
  have up : ∀ b u, t.heap.get? b = some u → (h'.push (seqObj "list" (bs.map Value.ref).toArray 0)).get? b = some u := fun b u e => Heap.get?_push_of_some _ (keep b u e)
  have tups : TS.TupsOk (h'.push (seqObj "list" (bs.map Value.ref).toArray 0)) dd B (bs.map Value.ref) := fun v hv => by
    obtain ⟨b, hb, rfl⟩ := List.mem_map.mp hv
    obtain ⟨l, h1, h2, h3⟩ := raw b hb
    exact ⟨l, (tupI_raw J h1).keeps fun c u e _ => up c u e, h2, h3⟩
  show wpAny _ _ _ _ _ { t with heap := h'.push (seqObj "list" (bs.map Value.ref).toArray 0), toks := tk }
  refine wpAny_bind (wpAny_holding (TS.call_sort_tups (s := { t with heap := h'.push (seqObj "list" (bs.map Value.ref).toArray 0), toks := tk }) at_ (by rw [List.length_map, lb]; omega) hd tups fun out p1 p2 => ?_))
  have refs : ∀ u ∈ out.toList, ∃ a, u = Value.ref a := fun u hu => by
    obtain ⟨b, _, e⟩ := List.mem_map.mp (p1.mem_iff.mp hu)
    exact ⟨b, e.symm⟩
  have perm : (out.toList.map bkV).Perm (bs.map V.ref) := by
    have := p1.map bkV
    rwa [List.map_map] at this
  obtain ⟨e', at2⟩ := sortedHeap_at (vs := bs.map Value.ref) (out := out) at_
  have fit : (out.toList.map bkV).length ≤ sizeLine := by rw [perm.length_eq, List.length_map, lb]; exact small
  refine wpAny_pure ⟨_, rfl, .ref h'.objs.size, upd H h'.objs.size (.lst (out.toList.map bkV)), J1.laid (t' := tk) (fun b u e => ?_) (Nat.le_refl _) ⟨fit, out.toList, e', bkV_vals refs, at2⟩, rfl, q bs _ _ isk perm ?_ (J1.hok.fresh (Nat.le_refl _))⟩
  · have lt : b < h'.objs.size := Heap.lt_size e
    rw [sortedHeap_old (Nat.ne_of_lt lt) (by rw [size_push']; exact Nat.lt_succ_of_lt lt)]
    exact Heap.get?_push_of_some _ e
  · rw [List.pairwise_map]
    refine List.Pairwise.imp (fun {u v} le n m hn hm => ?_) p2
    obtain ⟨a1, f1, g1⟩ := hn
    obtain ⟨a2, f2, g2⟩ := hm
    have i1 := ((tupI_raw J g1).keeps (h' := h'.push (seqObj "list" (bs.map Value.ref).toArray 0)) fun c u e _ => up c u e).ints
    have i2 := ((tupI_raw J g2).keeps (h' := h'.push (seqObj "list" (bs.map Value.ref).toArray 0)) fun c u e _ => up c u e).ints
    rw [bkV_ref f1, bkV_ref f2] at le
    have le' : TS.code B (TS.intsOf (h'.push (seqObj "list" (bs.map Value.ref).toArray 0)) (.ref a1)) ≤ TS.code B (TS.intsOf (h'.push (seqObj "list" (bs.map Value.ref).toArray 0)) (.ref a2)) := le
    rw [i1, i2] at le'
    exact le'
theorem keysD_ik {kvs : List (List Key × D)} {ls : List (List Int)} (h : kvs.map (·.1) = ls.map ik) : keysD kvs = ls.map tI := by
  have : keysD kvs = (kvs.map (·.1)).map tD := by unfold keysD; rw [List.map_map]; rfl
  rw [this, h, List.map_map]
  exact List.map_congr_left fun l _ => tD_ik l
theorem cd_sortK {X : Cx} {Q : D → Prop} {dd : Nat} {B : Int} {kvs : List (List Key × D)} {ls : List (List Int)} (hc : X.calm = true) (hd : 1 ≤ dd) (hk : kvs.map (·.1) = ls.map ik) (h64 : ls.length < 64) (hx : ∀ l ∈ ls, l.length = dd ∧ TS.Bd B l)
    (q : ∀ ls' : List (List Int), ls'.Perm ls → ls'.Pairwise (fun a b => TS.code B a ≤ TS.code B b) → Q (.lst (ls'.map tI))) : CD X (.builtin "sorted") [.val (.dcT kvs)] Q := cd_of (cr_sortK (dd := dd) (B := B) hc hd) fun vs W H ok ha R c => by
  obtain ⟨v, rfl, m⟩ := one_arg ha
  cases m with
  | @dcT _ a o ws hp m =>
    have hl : kvs.length = ls.length := by have := congrArg List.length hk; simpa using this
    refine ⟨a, ws, rfl, .inr ⟨o, ok.ex _ _ hp⟩, by rw [← m.length, hl]; exact h64, fun p hm => ?_, fun bs ys p isk perm pw hn => ?_⟩
    · have : p.1 ∈ ls.map ik := by
        rw [← hk, m.keys]
        exact List.mem_map_of_mem hm
      obtain ⟨l, hl, e⟩ := List.mem_map.mp this
      exact ⟨l, e.symm, hx l hl⟩
    · obtain ⟨W2, s2, ok2, e2⟩ := extN isk ok
      have dk := dns_keysOf (m.mono s2.I) e2
      rw [keysD_ik hk] at dk
      obtain ⟨ls', p1, n1⟩ := dns_perm perm dk
      have st := Stp.new (o := .lst ys) ok2 hn
      exact c _ _ _ _ (s2.trans ok2 st) (ok2.new hn) (.lst (show upd W2.I p _ p = _ from upd_same) (n1.mono st.I)) (q ls' p1 (dns_pair ok2 n1 pw))
end DL

set_option Elab.async false
set_option linter.all false
set_option maxRecDepth 100000
set_option maxHeartbeats 4000000
/-! dict(l), l a list of pairs (tuple, value) -/
namespace DL
open PySem PySem.Spec PyProof.Rows L2
/-- one pair after another is put -/
def putAll (kvs more : List (List Key × D)) : List (List Key × D) := more.foldl (fun acc p => putE acc p.1 p.2) kvs
def putAllV (kvs more : List (List Key × V)) : List (List Key × V) := more.foldl (fun acc p => putK acc p.1 p.2) kvs
theorem Dnt.putAll {K : PySem.W.Frag} {I : Hp} : ∀ {m : List (List Key × D)} {ys : List (List Key × V)} {l : List (List Key × D)} {xs : List (List Key × V)}, Dnt K I m ys → Dnt K I l xs → Dnt K I (putAll l m) (putAllV xs ys)
  | _, _, _, _, .nil, h => h
  | _, _, _, _, .cons a b, h => show Dnt K I (DL.putAll (putE _ _ _) _) (putAllV (putK _ _ _) _) from Dnt.putAll b (h.put a)
theorem putAllV_len : ∀ (more kvs : List (List Key × V)), (putAllV kvs more).length ≤ kvs.length + more.length
  | [], _ => Nat.le_refl _
  | p :: more, kvs => by
    have h1 := putAllV_len more (putK kvs p.1 p.2)
    have h2 := length_putK kvs p.1 p.2
    show (putAllV (putK kvs p.1 p.2) more).length ≤ _
    rw [List.length_cons]
    omega
theorem KT.putAll {H : Hp} : ∀ {m : List (List Key × V)} {ys : List (List Key × Addr × Value)} {l : List (List Key × V)} {xs : List (List Key × Addr × Value)}, KT H m ys → KT H l xs → KT H (putAllV l m) (storedAllH xs ys)
  | _, _, _, _, .nil, h => h
  | _, _, _, _, .cons (a := p) (b := q) a b, h => by
    obtain ⟨e1, e2, e3⟩ := a
    have := KT.putAll b (h.put p.1 e2 e3)
    rw [e1] at this
    show KT H (putAllV (putK _ p.1 p.2) _) (storedAllH (storedH _ q.1 q.2.1 q.2.2) _)
    rw [e1]
    exact this
theorem putE_new {kvs : List (List Key × D)} {k : List Key} {d : D} (h : k ∉ kvs.map (·.1)) : putE kvs k d = kvs ++ [(k, d)] := by
  unfold putE
  rw [if_neg]
  intro z
  obtain ⟨p, hp, e⟩ := List.any_eq_true.mp z
  exact h (List.mem_map.mpr ⟨p, hp, of_decide_eq_true e⟩)
theorem putAll_new : ∀ (more kvs : List (List Key × D)), ((kvs ++ more).map (·.1)).Nodup → putAll kvs more = kvs ++ more
  | [], kvs, _ => by simp [putAll]
  | p :: more, kvs, h => by
    have hp : p.1 ∉ kvs.map (·.1) := by
      rw [List.map_append, List.nodup_append] at h
      intro z
      exact h.2.2 _ z p.1 (by simp) rfl
    show putAll (putE kvs p.1 p.2) more = _
    rw [putE_new hp, putAll_new more _ (by simpa using h)]
    simp
/-- the pairs that the list tells, as they stand -/
theorem rows_of {X : Cx} {pins : List (Addr × Obj)} {τ : L2.St} {H : Hp} {t : Shared} (J : Inv X pins τ H t) : ∀ {ts : List Addr} {kvs : List (List Key × V)}, Paired (fun T kv => ∃ b, SqT X.K H T [.ref b, kv.2] ∧ H b = some (.tup (kv.1.map kV))) ts kvs →
    ∃ rows, KT H kvs rows ∧ rows.length = ts.length ∧ ∀ (j : Nat) q, rows[j]? = some q → ∃ T, ts[j]? = some T ∧ IsTup t.heap T #[.ref q.2.1, q.2.2]
  | _, _, .nil => ⟨[], .nil, rfl, fun j q e => by simp at e⟩
  | _, _, .cons (a := T) (b := kv) h r => by
    obtain ⟨rows, k, l, a⟩ := rows_of J r
    obtain ⟨b, sq, hb⟩ := h
    obtain ⟨its, rv, it, _⟩ := J.tuple sq
    cases rv with
    | cons r1 r2 => cases r2 with
      | @cons _ u _ _ r2 r3 =>
        cases r3
        cases r1
        refine ⟨(kv.1, b, u) :: rows, .cons ⟨rfl, hb, r2⟩ k, by simp [l], fun j q e => ?_⟩
        match j, e with
        | 0, e =>
          cases (Option.some.inj e)
          exact ⟨T, rfl, it⟩
        | j + 1, e =>
          obtain ⟨T', e1, e2⟩ := a j q (by simpa using e)
          exact ⟨T', by simpa using e1, e2⟩
theorem call_dictT {X : Cx} (hc : X.calm = true) (hu : X.A.units + 2 < cLine) : CallR X (.type "dict") (fun xs H Q => ∃ (a : Addr) (ts : List Addr) (kvs : List (List Key × V)), xs = [.ref a] ∧ SqL X.K H a (ts.map V.ref) ∧
    Paired (fun T kv => ∃ b, SqT X.K H T [.ref b, kv.2] ∧ H b = some (.tup (kv.1.map kV))) ts kvs ∧ ∀ p, H p = none → Q (.ref p) (upd H p (.dT (putAllV [] kvs)))) := by
  intro pins t τ H xs us Q J r q
  obtain ⟨a, ts, kvs, rfl, hq, hp, q⟩ := q
  rw [Vals.ref1 r]
  obtain ⟨its, rv, pl, fit⟩ := J.list hq
  have ei := refs_at rv
  subst ei
  obtain ⟨rows, k, l, at_⟩ := rows_of J hp
  obtain ⟨o, n, ho, hcl, hd, hdat⟩ := pl
  rw [List.length_map] at fit
  have lk : kvs.length = rows.length := Paired.length k
  have P := PairArg.list (prog := X.prog) (w := X.w) a (ts.map Value.ref).toArray (fun j => ts.getD j 0) (rows.map fun q => (Value.ref q.2.1, q.2.2))
  have items : PairItems t.heap (ts.map Value.ref).toArray (fun j => ts.getD j 0) (rows.map fun q => (Value.ref q.2.1, q.2.2)) := by
    refine ⟨by simp [l], fun j kk vv e => ?_⟩
    rw [List.getElem?_map] at e
    obtain ⟨q, e1, e2⟩ := Option.map_eq_some_iff.mp e
    cases e2
    obtain ⟨T, e3, e4⟩ := at_ j q e1
    have e5 : ts.getD j 0 = T := by rw [List.getD_eq_getElem?_getD, e3]; rfl
    refine ⟨by simp [e3, e5], ?_⟩
    show PairAt t.heap (ts.getD j 0) _ _
    rw [e5]
    exact .inl e4
  have lr : (rows.map fun q => (Value.ref q.2.1, q.2.2)).length = rows.length := List.length_map _
  refine call_dict_pairsH (knd := tupleKind (mixKind X.prog X.w)) (ps := rows) P (J.ok.hd hc) hu ⟨⟨o, n, ho, hcl, hd, hdat⟩, items⟩ ⟨lr.symm, fun i key v e => ?_⟩ (fun h' keep x hx => ?_) (by rw [lr, l]; exact fit) fun h' tk at2 keep => ?_
  · have e' : (rows.map fun q => (Value.ref q.2.1, q.2.2))[i]? = some (key, v) := e
    rw [List.getElem?_map] at e'
    obtain ⟨q, e1, e2⟩ := Option.map_eq_some_iff.mp e'
    cases e2
    exact ⟨q.1, q.2.1, e1, rfl⟩
  · have J' : Inv X pins τ H { t with heap := h', toks := t.toks } := J.kept fun b u e => keep b u (Nat.ne_of_lt (Heap.lt_size e)) (by simp) e
    obtain ⟨j, hj, e⟩ := List.getElem_of_mem hx
    obtain ⟨p, hpj, g1, g2, g3⟩ := DX.pget k (j := j) (x := x) (by rw [List.getElem?_eq_getElem hj, e])
    rw [← g1]
    exact key_of J'.hok g2
  · have keep' : ∀ b u, t.heap.get? b = some u → h'.get? b = some u := fun b u e => keep b u (by simp) e
    have big : (t.heap.objs.size == sysModules) = false := beq_eq_false_iff_ne.mpr (Nat.ne_of_gt J.big)
    have nil : KT H [] [] := .nil
    have hnone := J.hok.fresh (Nat.le_refl _)
    obtain ⟨oD, es, ep, x0, x1, x2, x3, _, x5⟩ := at2
    refine ⟨.ref t.heap.objs.size, upd H t.heap.objs.size (.dT (putAllV [] kvs)), J.laid (t' := tk) keep' (Nat.le_refl _) ⟨?_, big, _, KT.keeps (KT.putAll k nil) (fun c zs ec => ?_), oD, es, ep, x0, x1, x2, x3, x5⟩, rfl, q _ hnone⟩
    · refine Nat.le_trans (putAllV_len _ _) ?_
      rw [List.length_nil, Nat.zero_add, lk, l]
      exact fit
    · rw [upd_ne (fun e => by rw [e, hnone] at ec; cases ec), ec]
abbrev prD (p : List Key × D) : D := .tup [tD p.1, p.2]
theorem pairs_dn {X : Cx} {W : Wd} {H : Hp} {g : List Code} (ok : Ok g W H) : ∀ {ps : List (List Key × D)} {xs : List V}, Dns X.K W.I (ps.map prD) xs → ∃ ts ws, xs = ts.map V.ref ∧ Dnt X.K W.I ps ws ∧ Paired (fun T kv => ∃ b, SqT X.K H T [.ref b, kv.2] ∧ H b = some (.tup (kv.1.map kV))) ts ws
  | [], _, .nil => ⟨[], [], rfl, .nil, .nil⟩
  | p :: ps, _, .cons h r => by
    obtain ⟨ts, ws, e, m, pr⟩ := pairs_dn ok r
    cases h with
    | @tup _ T xs hT n =>
      cases n with
      | cons n1 n => cases n with
        | @cons _ v _ _ n2 n =>
          cases n
          obtain ⟨b, rfl, hb⟩ := dn_tupkey ok n1
          exact ⟨T :: ts, (p.1, v) :: ws, by rw [e]; rfl, .cons n2 m, .cons ⟨b, SqT.of (ok.ex _ _ hT), hb⟩ pr⟩
section
variable {X : Cx} {B : Hp} {S : En} {pos p : Pos} {e : Expr}
/-- dict(e), e a list of pairs -/
theorem ft_dict {Q : List (List Key × D) → Prop} (hc : X.calm = true) (hu : X.A.units + 2 < cLine) (hm : X.mg "dict" = none) (h : ED X B S e fun d => ∃ ps, d = .lst (ps.map prD) ∧ Q (putAll [] ps)) (hv : bootBuiltins "dict" = some (.type "dict") := by first | rfl | decide +kernel) (hg : Gl X "dict" := by rfl)
    (he : starEach [e] X.env = (false, eval e X.env) :: starEach [] X.env := by rfl) (hpl : (backTo pos (starEach [] X.env)).any (·.1) = false := by rfl) : FT X B S (.Call (.Name "dict" p) [e] [] pos) Q := fun σ W H r R k => by
  refine PE.w (pe_callTy (call_dictT hc hu) hg hm hv (pa_cons we_pe pa_nil he) (by decide) (by decide) he hpl) ?_
  refine h σ W H r _ fun d v W1 H1 s1 ok1 n1 q1 => ?_
  obtain ⟨ps, rfl, q1⟩ := q1
  cases n1 with
  | @lst _ a xs ha m =>
    obtain ⟨ts, ws, e, dn, pr⟩ := pairs_dn ok1 m
    subst e
    refine ⟨a, ts, ws, rfl, SqL.of (ok1.ex _ _ ha), pr, fun p hp => ?_⟩
    exact k _ p _ W1 _ (s1.trans ok1 (Stp.own hp)) (ok1.own hp) (s1.free ok1 hp) (ok1.notP hp) (ok1.free hp) upd_same (dn.putAll .nil) q1
end
end DL

set_option Elab.async false
set_option linter.all false
set_option maxRecDepth 100000
set_option maxHeartbeats 4000000
/-! == inside built-in sequences and dicts, by an own == where there is one: where all is equal -/
namespace DL
open PySem PySem.Spec PyProof.Rows L2
section
variable {prog : Program} {w : World} {A : Around} {E : Value → Shared → Prop}
theorem same_own {nm : String} {a b : Addr} {oa ob : Obj} {es es' : Array DictEntry} {ep ep' : Nat} {R : Bool → Shared → Prop} (na : (a == sysModules) = false) (nb : (b == sysModules) = false) (da : oa.data = .dict es ep) (db : ob.data = .dict es' ep') (hsz : es.size = es'.size) (Z : Nat → Shared → Prop)
    (get : ∀ i t, Z i t → t.heap.get? a = some oa ∧ t.heap.get? b = some ob)
    (turn : ∀ i (h : i < es.size) t, Z i t → ∃ j, ∃ hj : j < es'.size, (∀ Q : Option Nat → Shared → Prop, Q (some j) t → wpAny (model prog w) A (dictFind b es[i].key es[i].hash) Q E t) ∧ wpAny (model prog w) A (eqBool es[i].val es'[j].val) (fun r t' => r = true ∧ Z (i + 1) t') E t)
    (fin : ∀ t, Z es.size t → R true t) {t : Shared} (z : Z 0 t) : wpAny (model prog w) A (Builtin.Dict.samePairs nm a b) R E t := by
  obtain ⟨ga, gb⟩ := get 0 t z
  unfold Builtin.Dict.samePairs Builtin.Dict.showsAll
  rw [if_neg (by rw [na]; exact Bool.false_ne_true), if_neg (by rw [nb]; exact Bool.false_ne_true)]
  refine wpAny_bind (wpAny_pure (wpAny_bind (wpAny_pure (wpAny_bind (wpAny_dictEntries ga da ?_)))))
  dsimp only
  refine wpAny_bind (wpAny_dictEntries gb db ?_)
  rw [if_neg (by rw [hsz]; simp)]
  refine wpAny_bind (wpAny_dictEpoch ga da (wpAny_bind ?_))
  rw [Std.Legacy.Range.forIn_eq_forIn_range']
  simp only [Std.Legacy.Range.size, Nat.sub_zero, Nat.add_sub_cancel, Nat.div_one]
  refine wpAny_forIn_list _ (fun rest q t' => q = (none, ()) ∧ ∃ i, rest = List.range' i (es.size - i) ∧ i ≤ es.size ∧ Z i t') _ ?_ ?_ _ _ ⟨rfl, 0, by simp, Nat.zero_le _, z⟩
  · rintro x rest q t' ⟨rfl, i, er, le, z'⟩
    have lt : i < es.size := Nat.lt_of_not_le fun ge => by
      rw [Nat.sub_eq_zero_of_le ge] at er
      simp at er
    rw [show es.size - i = (es.size - (i + 1)) + 1 by omega, List.range'_succ] at er
    injection er with e1 e2
    subst e1
    obtain ⟨ga, gb⟩ := get x t' z'
    obtain ⟨j, hj, find, eq⟩ := turn x lt t' z'
    refine wpAny_bind (wpAny_dictEntries ga da ?_)
    rw [Array.getElem?_eq_getElem lt]
    show wpAny _ _ (holding [es[x].key, es[x].val] _ >>= _) _ _ _
    refine wpAny_bind (wpAny_holding (wpAny_bind (find _ ?_)))
    refine wpAny_bind (wpAny_dictEntries gb db ?_)
    rw [Array.getElem?_eq_getElem hj]
    refine wpAny_holding (wpAny_mono eq (fun r t2 hr => ?_) fun _ _ h => h)
    obtain ⟨rfl, z2⟩ := hr
    show wpAny _ _ (if (!true) = true then _ else _) _ _ _
    rw [if_neg (by decide)]
    refine wpAny_bind (wpAny_dictEpoch (get _ _ z2).1 da ?_)
    rw [if_neg (by simp)]
    exact wpAny_pure ⟨rfl, x + 1, e2, lt, z2⟩
  · rintro q t' ⟨rfl, i, er, le, z'⟩
    have : i = es.size := Nat.le_antisymm le (Nat.le_of_not_lt fun lt => by
      rw [show es.size - i = (es.size - (i + 1)) + 1 by omega, List.range'_succ] at er
      cases er)
    subst this
    exact wpAny_pure (fin t' z')
end
/-- behind what is compared: later worlds -/
def Later (X : Cx) (pins : List (Addr × Obj)) (τ : L2.St) (W : Wd) (H : Hp) (t : Shared) : Prop := ∃ W' H', Inv X pins τ H' t ∧ Stp W H W' H' ∧ Ok (gOf X) W' H'
def EqR (X : Cx) (n : Nat) (x y : D) : Prop := ∀ (A : Around) (pins : List (Addr × Obj)) (t : Shared) (τ : L2.St) (W : Wd) (H : Hp) (v u : V) (v' u' : Value), L2.Sub X n A → A.guards = some (gOf X) → Inv X pins τ H t → Ok (gOf X) W H → Dn X.K W.I x v → Dn X.K W.I y u → RelV v v' → RelV u u' →
  wpAny (model X.prog X.w) A (eqBool v' u') (fun r t' => r = true ∧ Later X pins τ W H t') X.xe t
def RcR (X : Cx) (n : Nat) (x y : D) : Prop := ∀ (A : Around) (pins : List (Addr × Obj)) (t : Shared) (τ : L2.St) (W : Wd) (H : Hp) (v u : V) (v' u' : Value), L2.Sub X n A → A.guards = some (gOf X) → Inv X pins τ H t → Ok (gOf X) W H → Dn X.K W.I x v → Dn X.K W.I y u → RelV v v' → RelV u u' →
  wpAny (model X.prog X.w) A (richCompare .Eq v' u') (fun r t' => r = .bool true ∧ Later X pins τ W H t') X.xe t
section
variable {X : Cx} {n m : Nat} {x y : D}
def refD : D → Bool
  | .tup _ | .lst _ | .obj _ _ | .dcT _ => true
  | _ => false
theorem Dn.ref {K : PySem.W.Frag} {I : Hp} {v : V} (h : refD x = true) (d : Dn K I x v) : ∃ a, v = .ref a := by
  cases d <;> first | exact ⟨_, rfl⟩ | cases h
theorem RcR.eq (h : RcR X n x y) (hx : refD x = true) (hy : refD y = true) : EqR X n x y := fun A pins t τ W H v u v' u' sb hG J ok dx dy rv ru => by
  obtain ⟨a, rfl⟩ := dx.ref hx
  obtain ⟨b, rfl⟩ := dy.ref hy
  cases rv
  cases ru
  by_cases e : a = b
  · subst e
    exact SeqAt.EqAt.same (A := A) (s := t) (.ref a) X.prog X.w X.xe _ ⟨rfl, W, H, J, Stp.refl, ok⟩
  · exact GQ.eqBool_refG e (wpAny_mono (h A pins t τ W H (.ref a) (.ref b) _ _ sb hG J ok dx dy rfl rfl) (fun r t' ⟨er, l⟩ => ⟨true, er, rfl, l⟩) fun _ _ q => q)
/-- instances, by their own == -/
theorem rcR_ins {C : Addr} {k : Nat} {sp : SpD} {fs gs : List (Str × D)} (N : Num X.K C) (F : Sm X.prog X.w X.K X.mg X.base C "__eq__" k sp) (q : sp [.val (.obj C fs), .val (.obj C gs)] fun d => d = .bl true) : RcR X k (.obj C fs) (.obj C gs) := fun A pins t τ W H v u v' u' sb hG J ok dx dy rv ru => by
  have aa := args2 dx dy
  have rr := vals2 rv ru
  cases id dx with
  | obj a1 _ => cases id dy with
    | obj a2 _ =>
      cases rv
      cases ru
      obtain ⟨ox, od, I1⟩ := inst_at J (ok.ex _ _ a1)
      obtain ⟨oy, oe, I2⟩ := inst_at J (ok.ex _ _ a2)
      obtain ⟨f, fd, ps, F, hf, hi, hb⟩ := F.ex
      obtain ⟨mm, hF⟩ := J.fr
      have e0 : Env0 X.prog X.w X.K X.mg X.base A X.stack t H := by
        have e := J.env0
        exact ⟨by rw [sb.fr]; exact e.frames, e.mod, e.bs, e.bsz, e.funs, e.frf, e.hok, e.bare⟩
      refine PySem.W.cmp_K (op := .Eq) (tb := .ref C) sb.room.units0 hF J.ok.mod.kin I1 I2.type N.nf hf hi ?_
      refine wpAny_call (run_gn (A := A) F sb.room hG e0 hb .nil J rr (Q := fun v H' => v = .bl true ∧ ∃ W', Stp W H W' H' ∧ Ok (gOf X) W' H') ?_ fun v t' hv => ?_)
      · rw [List.append_nil]
        exact ⟨_, W, _, ok, aa, q, fun d v W' H' st ok' dn e => by subst e; cases dn; exact ⟨rfl, W', st, ok'⟩⟩
      · obtain ⟨z, H', J', rz, rfl, W', st, ok'⟩ := hv
        cases rz
        exact ⟨rfl, W', H', J', st, ok'⟩
theorem rcR_dct {kvs kvs' : List (List Key × D)} (hl : kvs.length = kvs'.length) (h : ∀ k d, (k, d) ∈ kvs → ∃ e, look kvs' k = some e ∧ EqR X n d e) : RcR X (n + 1) (.dcT kvs) (.dcT kvs') := fun A pins t τ W H v u v' u' sb hG J ok dx dy rv ru => by
  cases dx with
  | @dcT _ a oa ws ha d1 => cases dy with
    | @dcT _ b ob us hb d2 =>
      cases rv
      cases ru
      obtain ⟨ga, z1, n1, rows, pr, o1, es, ep, g1, x1, da, he, nd⟩ := (show ObjOk X.prog X.w H t.heap a (.frz oa (.dT ws)) from J.hok a _ (ok.ex _ _ ha))
      rw [ga] at g1
      cases g1
      obtain ⟨gb, z2, n2, rows2, pr2, o2, es', ep', g2, x2, db, he2, nd2⟩ := (show ObjOk X.prog X.w H t.heap b (.frz ob (.dT us)) from J.hok b _ (ok.ex _ _ hb))
      rw [gb] at g2
      cases g2
      have l1 : es.size = rows.length := size_of_entries he
      have l2 : es'.size = rows2.length := size_of_entries he2
      have l3 : ws.length = rows.length := Paired.length pr
      have l4 : us.length = rows2.length := Paired.length pr2
      have l5 := d1.length
      have l6 := d2.length
      have ta : ∀ s : Shared, s.heap.get? a = some oa → s.TypeIs (.ref a) "dict" := fun s g => ⟨oa, g, x1.1⟩
      have tb : ∀ s : Shared, s.heap.get? b = some ob → s.TypeIs (.ref b) "dict" := fun s g => ⟨ob, g, x2.1⟩
      have get : ∀ (i : Nat) t', Later X pins τ W H t' → t'.heap.get? a = some oa ∧ t'.heap.get? b = some ob := by
        rintro i t' ⟨W', H', J', st, ok'⟩
        exact ⟨(J'.hok a _ (ok'.ex _ _ (st.I _ _ ha))).1, (J'.hok b _ (ok'.ex _ _ (st.I _ _ hb))).1⟩
      have turn : ∀ i (h : i < es.size) t', Later X pins τ W H t' → ∃ j, ∃ hj : j < es'.size, (∀ Q : Option Nat → Shared → Prop, Q (some j) t' → wpAny (model X.prog X.w) A.in1 (dictFind b es[i].key es[i].hash) Q X.xe t') ∧ wpAny (model X.prog X.w) A.in1 (eqBool es[i].val es'[j].val) (fun r t2 => r = true ∧ Later X pins τ W H t2) X.xe t' := by
        rintro i lt t' ⟨W', H', J', st, ok'⟩
        obtain ⟨ga', _, _, rows3, pr3, o3, es3, ep3, g3, _, da3, he3, _⟩ := (show ObjOk X.prog X.w H' t'.heap a (.frz oa (.dT ws)) from J'.hok a _ (ok'.ex _ _ (st.I _ _ ha)))
        rw [ga'] at g3
        cases g3
        rw [da] at da3
        cases da3
        obtain ⟨_, _, rows4, pr4, o4, es4, ep4, g4, _, db4, he4, his4, nd4⟩ := dt_rd J'.hok (show Rd H' b (.dT us) from .inr ⟨ob, ok'.ex _ _ (st.I _ _ hb)⟩)
        have gb' := (J'.hok b _ (ok'.ex _ _ (st.I _ _ hb))).1
        rw [gb'] at g4
        cases g4
        rw [db] at db4
        cases db4
        have hi : i < ws.length := by omega
        obtain ⟨⟨k, w1⟩, hw⟩ : ∃ p, ws[i]? = some p := ⟨_, List.getElem?_eq_getElem hi⟩
        obtain ⟨d, hd, nd1⟩ := d1.get hw
        obtain ⟨e, he', hEq⟩ := h k d (List.mem_of_getElem? hd)
        obtain ⟨⟨k1, b1, v1⟩, hr3, e1, e2, e3⟩ := paired_get pr3 hw
        simp only at e1 e2 e3
        subst e1
        have en := entry_at he3 i
        rw [hr3, Array.getElem?_eq_getElem lt] at en
        have en' : es[i] = ⟨tupleKeyHash (mixKind X.prog X.w) k, .ref b1, v1⟩ := Option.some.inj en
        obtain ⟨w2, hw2, nd2'⟩ := (dnt_look d2).1 e he'
        obtain ⟨p4, hp4, rp4⟩ := RelO.some_of (v := w2) (o := (atKey rows4 k).map (·.2)) (by rw [← hw2]; exact KT.val pr4 k)
        obtain ⟨q4, hq4, eq4⟩ := Option.map_eq_some_iff.mp hp4
        obtain ⟨j, hj4⟩ : ∃ j, rows4[j]? = some (k, q4) := by
          unfold atKey at hq4
          obtain ⟨x, hx, ex⟩ := Option.map_eq_some_iff.mp hq4
          have hm := List.mem_of_find?_eq_some hx
          have hk := List.find?_some hx
          obtain ⟨j, hj⟩ := List.mem_iff_getElem?.mp hm
          exact ⟨j, by rw [hj, ← ex, ← of_decide_eq_true hk]⟩
        have hjl : j < es'.size := by
          rw [size_of_entries he4]
          exact (List.getElem?_eq_some_iff.mp hj4).1
        have en4 := entry_at he4 j
        rw [hj4, Array.getElem?_eq_getElem hjl] at en4
        have en4' : es'[j].val = q4.2 := by rw [Option.some.inj en4]; rfl
        refine ⟨j, hjl, fun Q hQ => ?_, ?_⟩
        · rw [en']
          refine wpAny_dictFind_heap (knd := tupleKind (mixKind X.prog X.w)) (k := k) (show A.in1.units < cLine from sb.room.in1.units0) (key_of J'.hok e2) gb' db he4 his4 nd4 (fun hno => absurd hj4 (hno j q4)) fun j' p' hj' => ?_
          have : j' = j := idxH_unique nd4 hj' hj4
          rw [this]
          exact hQ
        · rw [en', en4']
          show wpAny _ _ (eqBool v1 q4.2) _ _ _
          rw [eq4]
          exact wpAny_mono (hEq A.in1 pins t' τ W' H' w1 w2 v1 p4 sb.in1 hG J' ok' (nd1.mono st.I) (nd2'.mono st.I) e3 rp4) (fun r t2 ⟨er, W2, H2, J2, st2, ok2⟩ => ⟨er, W2, H2, J2, st.trans ok' st2, ok2⟩) fun _ _ q => q
      refine wpAny_richCompare_same_room (op := .Eq) (ta t ga) (tb t gb) PySem.F.slot_dict_eq (wpAny_call_entry PySem.F.slot_dict_eq (ta t ga) PySem.F.entry_dict_eq ?_ (PySem.F.args_dict_eq_2 _ _)) sb.room.units0
      show wpAny _ _ (Builtin.Dict.dictSlotArgs "__eq__" ⟨[.ref a, .ref b], []⟩ >>= _) _ _ t
      refine wpAny_bind ?_
      unfold Builtin.Dict.dictSlotArgs
      refine wpAny_bind (wpAny_notOrdered_dict (ta t ga) ?_)
      show wpAny _ _ (pure (Value.ref a, Value.ref b)) _ _ t
      refine wpAny_pure (wpAny_bind (wpAny_isInstance (T := "dict") (tb t gb) PySem.F.sub_dict_dict ?_))
      simp only [Bool.not_true, Bool.false_eq_true, if_false]
      refine wpAny_bind (wpAny_pure (wpAny_bind (wpAny_pure ?_)))
      refine wpAny_bind (wpAny_mono (same_own (R := fun r t' => r = true ∧ Later X pins τ W H t') n1 n2 da db (by omega) (fun _ t' => Later X pins τ W H t') get turn (fun t' l => ⟨rfl, l⟩) ⟨W, H, J, Stp.refl, ok⟩) (fun r t' hr => ?_) fun _ _ q => q)
      obtain ⟨rfl, l⟩ := hr
      exact wpAny_pure ⟨_, rfl, (fun x => nomatch x), rfl, l⟩
end
section
variable {X : Cx} {n : Nat} {x y : D} {Q : D → Prop}
theorem od_eqR (h : RcR X n x y) (hr : Room n X.A) (hG : X.A.guards = some (gOf X)) (q : Q (.bl true)) : OD X (compareOp .Eq) x y Q := fun v u W H ok h1 h2 R c pins t τ v' u' J r1 r2 => by
  show wpAny _ _ (richCompare .Eq _ _) _ _ _
  refine wpAny_mono (h X.A pins t τ W H v u v' u' ⟨hr, rfl⟩ hG J ok h1 h2 r1 r2) (fun r t' ⟨er, W', H', J', st, ok'⟩ => ?_) fun _ _ q => q
  subst er
  exact ⟨.bl true, H', J', rfl, c _ _ W' H' st ok' (.bl true) q⟩
end
end DL

set_option Elab.async false
set_option linter.all false
set_option maxRecDepth 100000
set_option maxHeartbeats 4000000
/-! != of lists that are equal -/
namespace NQ
open PySem PySem.SeqAt
open AutoSeq1 (wpAny_loadPart')
open MeetsSeq MeetsSeq2 MeetsSeq3 SeqRoads2
section
variable {prog : Program} {w : World} {A : Around} {R : Result → Shared → Prop}
end
end NQ
namespace DL
open PySem PySem.Spec PyProof.Rows L2
section
variable {X : Cx} {n : Nat} {Q : D → Prop}
end
end DL

set_option Elab.async false
set_option linter.all false
set_option maxRecDepth 100000
set_option maxHeartbeats 4000000
/-! zip of two texts -/
namespace TZ
open PySem PySem.Spec PyProof.Rows
abbrev tio (x : Str) (t : Tok) : Obj := { cls := .type "str_ascii_iterator", data := .fields #[.str x t, .int 0 0] }
abbrev m1 (h : Heap) (x : Str) (t : Tok) : Heap := h.push (tio x t)
abbrev m2 (h : Heap) (x y : Str) (t u : Tok) : Heap := (m1 h x t).push (tio y u)
abbrev m3 (h : Heap) (x y : Str) (t u : Tok) : Heap := (m2 h x y t u).push { cls := .type "tuple", data := .seq #[.ref h.objs.size, .ref (m1 h x t).objs.size] }
abbrev m4 (h : Heap) (x y : Str) (t u : Tok) : Heap := (m3 h x y t u).push { cls := .type "tuple", data := .seq #[.none, .none] }
abbrev m5 (h : Heap) (x y : Str) (t u : Tok) : Heap := (m4 h x y t u).push { cls := .type "zip", data := .fields #[.none, .bool false, .bool false, .ref (m2 h x y t u).objs.size, .ref (m3 h x y t u).objs.size] }
theorem new_ss (x y : Str) (t u : Tok) (hx : x.cps.all (· < 128) = true) (hy : y.cps.all (· < 128) = true) : Meets (Builtin.«zip.__new__» ⟨[.type "zip", .str x t, .str y u], []⟩) (fun _ R s => R (.ok (.ret (.ref (m4 s.heap x y t u).objs.size))) { s with heap := m5 s.heap x y t u }) :=
  .of_wp fun prog w A R s h => by
    obtain ⟨hp, g, d, tk, os⟩ := s
    have hsub := sub_zip
    wp_walk using wpAny_pyIter_ascii hx, wpAny_pyIter_ascii hy
    exact ⟨_, rfl, h⟩
section
variable {p : Program} {w : World} {A : Around} {E : Value → Shared → Prop} {s : Shared}
/-- how the zip stands ahead of turn i -/
structure St2 (x y : Str) (t u : Tok) (z TI TO i1 i2 : Addr) (i : Nat) (h : Heap) : Prop where
  z : IsZip h z TI TO .none
  ti : IsTupOf2 h TI (.ref i1) (.ref i2)
  to : ∃ a b, IsTupOf2 h TO a b
  f : h.IsStrIter i1 "str_ascii_iterator" x t i
  g : h.IsStrIter i2 "str_ascii_iterator" y u i
theorem zip_ss {x y : Str} {t u : Tok} (hx : x.cps.all (· < 128) = true) (hy : y.cps.all (· < 128) = true) {Q : Value → Shared → Prop}
    (h : ∀ h', St2 x y t u (s.heap.objs.size + 4) (s.heap.objs.size + 2) (s.heap.objs.size + 3) s.heap.objs.size (s.heap.objs.size + 1) 0 h' → (∀ c o, s.heap.get? c = some o → h'.get? c = some o) → Q (.ref (s.heap.objs.size + 4)) { s with heap := h' }) :
    wpAny (model p w) A (call (.type "zip") [.str x t, .str y u]) Q E s := by
  refine callType_new F.called_zip (by decide) (F.typeCall_zip_2 _ _) (F.newCall_zip_2 _ _) (fun obj => F.args_object_init_3 obj _ _) F.entry_zip_new (new_ss x y t u hx hy) ?_
  have c1 : (m1 s.heap x t).objs.size = s.heap.objs.size + 1 := Heap.size_push ..
  have c2 : (m2 s.heap x y t u).objs.size = s.heap.objs.size + 2 := by rw [Heap.size_push, c1]
  have c3 : (m3 s.heap x y t u).objs.size = s.heap.objs.size + 3 := by rw [Heap.size_push, c2]
  have c4 : (m4 s.heap x y t u).objs.size = s.heap.objs.size + 4 := by rw [Heap.size_push, c3]
  have d5 : (m5 s.heap x y t u).get? (m4 s.heap x y t u).objs.size = some _ := Heap.get?_push_size _ rfl
  have d4 : (m5 s.heap x y t u).get? (m3 s.heap x y t u).objs.size = some _ := Heap.get?_push_of_some _ (Heap.get?_push_size _ rfl)
  have d3 : (m5 s.heap x y t u).get? (m2 s.heap x y t u).objs.size = some _ := Heap.get?_push_of_some _ (Heap.get?_push_of_some _ (Heap.get?_push_size _ rfl))
  have d2 : (m5 s.heap x y t u).get? (m1 s.heap x t).objs.size = some _ := Heap.get?_push_of_some _ (Heap.get?_push_of_some _ (Heap.get?_push_of_some _ (Heap.get?_push_size _ rfl)))
  have d1 : (m5 s.heap x y t u).get? s.heap.objs.size = some _ := Heap.get?_push_of_some _ (Heap.get?_push_of_some _ (Heap.get?_push_of_some _ (Heap.get?_push_of_some _ (Heap.get?_push_size _ rfl))))
  show _ ∧ _
  rw [c2, c3, c4] at d5
  rw [c1, c2] at d3
  rw [c3] at d4
  rw [c1] at d2
  rw [c4]
  exact ⟨⟨_, d5, rfl⟩, h _ ⟨d5, d3, ⟨_, _, d4⟩, ⟨_, d1, rfl, rfl⟩, ⟨_, d2, rfl, rfl⟩⟩ fun c o e => Heap.get?_push_of_some _ (Heap.get?_push_of_some _ (Heap.get?_push_of_some _ (Heap.get?_push_of_some _ (Heap.get?_push_of_some _ e))))⟩
end
end TZ
namespace DL
open PySem PySem.Spec PyProof.Rows L2 TZ
/-- the signs of both, two by two -/
def Itss (x y : Str) : It := ⟨fun i _ => i < x.cps.size ∧ i < y.cps.size, fun i H v H' => ∃ T c d, x.cps[i]? = some c ∧ y.cps[i]? = some d ∧ v = .ref T ∧ H T = none ∧ H' = upd H T (.tup [.str ⟨#[c]⟩, .str ⟨#[d]⟩]),
  fun i _ => i ≤ x.cps.size ∧ i ≤ y.cps.size ∧ (i = x.cps.size ∨ i = y.cps.size)⟩
theorem turn_ss {P : Program} {w : World} {K : PySem.W.Frag} {elts : List Expr} {kk : Nat} {tpos : Pos} {x y : Str} {t u : Tok} {z TI TO i1 i2 : Addr} (D : ZipSep2 z TI TO i1 i2 [i1] [i2]) : Turn P w K (.Tuple elts kk tpos) (Itss x y) [z, TI, TO, i1, i2] z (St2 x y t u z TI TO i1 i2) where
  mem := by simp
  obj := fun i h st c hc => by
    obtain ⟨a, b, hTO⟩ := st.to
    have e : c = z ∨ c = TI ∨ c = TO ∨ c = i1 ∨ c = i2 := by simpa using hc
    rcases e with q | q | q | q | q <;> subst q
    · exact ⟨_, st.z, fun v q => nomatch q⟩
    · exact ⟨_, st.ti, fun v q => nomatch q⟩
    · exact ⟨_, hTO, fun v q => nomatch q⟩
    · obtain ⟨o, e, _, d⟩ := st.f
      exact ⟨o, e, fun v q => by rw [d] at q; cases q⟩
    · obtain ⟨o, e, _, d⟩ := st.g
      exact ⟨o, e, fun v q => by rw [d] at q; cases q⟩
  keep := fun i h h' st k => by
    obtain ⟨a, b, hTO⟩ := st.to
    obtain ⟨o1, e1, r1⟩ := st.f
    obtain ⟨o2, e2, r2⟩ := st.g
    exact ⟨k z (by simp) _ st.z, k TI (by simp) _ st.ti, ⟨a, b, k TO (by simp) _ hTO⟩, ⟨o1, k i1 (by simp) _ e1, r1⟩, ⟨o2, k i2 (by simp) _ e2, r2⟩⟩
  item := by
    intro X hP hw hK hc i pins s σ H E J hf st hg
    subst hP hw hK
    obtain ⟨a, b, hTO⟩ := st.to
    have zlt : z < s.heap.objs.size := Heap.lt_size st.z
    have hd : X.A.in1.handled = none := J.ok.hd hc
    refine wpAny_pyNext_zipD2_item D (Draws.strAscii hd i1 x t) (Draws.strAscii hd i2 y u) st.z st.ti hTO st.f st.g hg.1 hg.2 fun v1 v2 h' tk y1 y2 z' t' f' g' T' size' keep => ?_
    obtain ⟨c1, u1, hc1, rfl⟩ := y1
    obtain ⟨c2, u2, hc2, rfl⟩ := y2
    refine ⟨_, rfl, wpAny_letOwnedTupleGo_zip (s := { s with heap := h', toks := tk }) z' fun h'' z'' sb => ?_⟩
    have T2 : h''.get? s.heap.objs.size = some { cls := .type "tuple", data := .seq #[.str ⟨#[c1]⟩ u1, .str ⟨#[c2]⟩ u2] } := (sb.2 _ (Nat.ne_of_gt zlt)).trans T'
    have new : ObjOk X.prog X.w (upd H s.heap.objs.size (.tup [.str ⟨#[c1]⟩, .str ⟨#[c2]⟩])) h'' s.heap.objs.size (.tup [.str ⟨#[c1]⟩, .str ⟨#[c2]⟩]) := ⟨by show 2 ≤ sizeLine; decide, [_, _], .cons ⟨u1, rfl⟩ (.cons ⟨u2, rfl⟩ .nil), ⟨_, T2, rfl, _, rfl⟩⟩
    have far : ∀ c, c ∉ [z, TI, TO, i1, i2] → c ≠ z ∧ c ≠ TO ∧ c ≠ i1 ∧ c ≠ i2 := fun c hb => ⟨fun q => hb (by simp [q]), fun q => hb (by simp [q]), fun q => hb (by simp [q]), fun q => hb (by simp [q])⟩
    have J1 : Inv X pins σ (upd H s.heap.objs.size (.tup [.str ⟨#[c1]⟩, .str ⟨#[c2]⟩])) { s with heap := h'', toks := tk } :=
      J.turnedNew (t' := tk) (ch := [z, TI, TO, i1, i2]) (fun c o hb q => let ⟨q1, q2, q3, q4⟩ := far c hb; (sb.2 c q1).trans (keep c o q1 q2 q3 q4 q)) hf (Nat.le_refl _) new
    have s1 : ∀ k, k ≠ z → ∀ o, h'.get? k = some o → h''.get? k = some o := fun k n o e => (sb.2 _ n).trans e
    refine ⟨.ref s.heap.objs.size, _, J1, rfl, ⟨_, c1, c2, hc1, hc2, rfl, J.hok.fresh (Nat.le_refl _), rfl⟩, ⟨z'', s1 _ D.TIz _ (keep _ _ D.TIz D.TITO D.TIi1 D.TIi2 st.ti), ⟨_, _, s1 _ D.TOz _ t'⟩, ?_, ?_⟩, fun c hcm => ?_⟩
    · obtain ⟨o1, e1, r1⟩ := f'
      exact ⟨o1, s1 _ D.zi1.symm _ e1, r1⟩
    · obtain ⟨o1, e1, r1⟩ := g'
      exact ⟨o1, s1 _ D.zi2.symm _ e1, r1⟩
    · have lt : c < s.heap.objs.size := by
        have e' : c = z ∨ c = TI ∨ c = TO ∨ c = i1 ∨ c = i2 := by simpa using hcm
        rcases e' with q | q | q | q | q <;> rw [q]
        · exact zlt
        · exact Heap.lt_size st.ti
        · exact Heap.lt_size hTO
        · exact Heap.lt_size st.f.choose_spec.1
        · exact Heap.lt_size st.g.choose_spec.1
      rw [upd_ne (Nat.ne_of_lt lt)]
      exact (hf c hcm).1
  done := by
    intro X hP hw hK hc i pins s σ H E J hf st hg
    subst hP hw hK
    obtain ⟨a, b, hTO⟩ := st.to
    have hd : X.A.in1.handled = none := J.ok.hd hc
    exact wpAny_pyNext_zipD2_end D (Draws.strAscii hd i1 x t) (Draws.strAscii hd i2 y u) st.z st.ti hTO st.f st.g hg.1 hg.2.1 hg.2.2 fun h' tk keep =>
      ⟨rfl, J.turnedL (t' := tk) (ch := [z, TI, TO, i1, i2]) (fun c o hb q => keep c o (fun q' => hb (by simp [q'])) (fun q' => hb (by simp [q'])) (fun q' => hb (by simp [q'])) (fun q' => hb (by simp [q'])) q) hf⟩
  self := fun A i s Q E st h => wpAny_pyIter_zip st.z h
theorem sep_ss (n : Nat) : ZipSep2 (n + 4) (n + 2) (n + 3) n (n + 1) [n] [n + 1] := by
  constructor <;> simp
def iZss (ta : TA) : TI := fun σ H R => ta σ H fun vs H1 => ∃ x y, vs = [.str x, .str y] ∧ x.cps.all (· < 128) = true ∧ y.cps.all (· < 128) = true ∧ R (Itss x y) H1
theorem pi_ss {X : Cx} {e e2 : Expr} {ta : TA} {p pos tpos : Pos} {elts : List Expr} {kk : Nat} (hg : Gl X "zip") (hm : X.mg "zip" = none) (ha : PA X [e, e2] ta)
    (hs : starEach [e, e2] X.env = (false, eval e X.env) :: starEach [e2] X.env) (hpl : (backTo pos (starEach [e2] X.env)).any (·.1) = false) : PI X (.Tuple elts kk tpos) (.Call (.Name "zip" p) [e, e2] [] pos) (iZss ta) := by
  refine ⟨fun pins s σ H R J h => Call_ (ld_blt J hg hm PyProof.Rows.boot_zip (PyProof.Rows.callWith_type1 (thn (ha.run pos pins s σ H _ J h) fun us s1 ⟨vs, H1, J1, rv, q1⟩ => ?_) hs hpl))⟩
  obtain ⟨x, y, rfl, hx, hy, q⟩ := q1
  obtain ⟨v1, v2, rfl, r1, r2⟩ := (show ∃ v1 v2, us = [v1, v2] ∧ RelV (.str x) v1 ∧ RelV (.str y) v2 from by
    cases rv with
    | cons r rr => cases rr with
      | cons r' rr => cases rr; exact ⟨_, _, rfl, r, r'⟩)
  obtain ⟨t, rfl⟩ := r1
  obtain ⟨u, rfl⟩ := r2
  refine zip_ss hx hy fun h' st hk => wpAny_pyIter_zip st.z ?_
  have J2 : Inv X pins σ H1 { s1 with heap := h' } := J1.kept (t' := s1.toks) hk
  refine ⟨s1.heap.objs.size + 4, [s1.heap.objs.size + 4, s1.heap.objs.size + 2, s1.heap.objs.size + 3, s1.heap.objs.size, s1.heap.objs.size + 1], _, _, H1, rfl, J2, turn_ss (sep_ss _), st, fun c hc => ?_, q⟩
  have le : s1.heap.objs.size ≤ c := by
    have e : c = s1.heap.objs.size + 4 ∨ c = s1.heap.objs.size + 2 ∨ c = s1.heap.objs.size + 3 ∨ c = s1.heap.objs.size ∨ c = s1.heap.objs.size + 1 := by simpa using hc
    rcases e with q | q | q | q | q <;> rw [q]
    · exact Nat.le_add_right _ _
    · exact Nat.le_add_right _ _
    · exact Nat.le_add_right _ _
    · exact Nat.le_refl _
    · exact Nat.le_add_right _ _
  exact J1.fpOk le (J1.hok.fresh le)
end DL

set_option Elab.async false
set_option linter.all false
set_option maxRecDepth 100000
set_option maxHeartbeats 4000000
/-! texts, sign by sign -/
namespace DL
open PySem PySem.Spec PyProof.Rows L2
abbrev sg (c : Nat) : Str := ⟨#[c]⟩
def signs (s : Str) : List D := s.cps.toList.map fun c => .str (sg c)
section
variable {X : Cx} {B : Hp} {W0 : Wd} {S : En} {pos px p1 p apos cpos : Pos} {Q : D → Prop} {QB : Bool → Prop} {a b c e e2 o elt iter : Expr} {es : List Expr} {E : Ends'} {x : Str} {s : Str}
theorem od_ltS {i j : Str} (q : Q (.bl (decide (i.cps.toList < j.cps.toList)))) : OD X (compareOp .Lt) (.str i) (.str j) Q := od_of op_lt_str fun v u W H ok h1 h2 R c => by
  cases h1; cases h2
  exact ⟨i, j, rfl, rfl, c.now ok (.bl _) q⟩
theorem od_leS {i j : Str} (q : Q (.bl (!decide (j.cps.toList < i.cps.toList)))) : OD X (compareOp .LtE) (.str i) (.str j) Q := od_of op_le_str fun v u W H ok h1 h2 R c => by
  cases h1; cases h2
  exact ⟨i, j, rfl, rfl, c.now ok (.bl _) q⟩
theorem cd_lenS {z : Str} (hz : z.length ≤ 50000) (q : Q (.int (z.length : Int))) : CD X (.builtin "len") [.val (.str z)] Q := cd_of call_len fun vs W H ok ha R c => by
  obtain ⟨v, rfl, m⟩ := one_arg ha
  cases m
  exact ⟨.str z, z.length, rfl, ⟨Nat.le_trans hz (by decide), rfl⟩, c.now ok (.int _) q⟩
end
end DL

set_option Elab.async false
set_option linter.all false
set_option maxRecDepth 100000
set_option maxHeartbeats 4000000
/-! sum, min of tuples; factorial, perm; the signs of a text as a list, sorted -/
namespace DL
open PySem PySem.Spec PyProof.Rows L2
section
variable {prog : Program} {w : World} {A : Around} {E : Value → Shared → Prop} {s : Shared} {l : Addr}
theorem past {h' : Heap} {o : Obj} (hk : ∀ b u, b ∉ [s.heap.objs.size] → (s.heap.push o).get? b = some u → h'.get? b = some u) (b : Addr) (u : Obj) (e : s.heap.get? b = some u) : h'.get? b = some u :=
  hk b u (fun hm => Nat.lt_irrefl _ (by have := Heap.lt_size e; rw [List.mem_singleton.mp hm] at this; exact this)) (Heap.get?_push_of_some _ e)
theorem sum_tup {its : List Value} {ns : List Int} {Q : Value → Shared → Prop} (hh : A.handled = none) (hl : s.heap.IsTuple l its.toArray) (hi : IntsAre its ns) (k : ∀ h' tk t', (∀ b o, s.heap.get? b = some o → h'.get? b = some o) → Q (.int ns.sum t') { s with heap := h', toks := tk }) :
    wpAny (model prog w) A (call (.builtin "sum") [.ref l]) Q E s := by
  obtain ⟨xs, e⟩ := hi.allInts.items
  have en : numsOf (intItems xs).toList = ns := by rw [← e]; exact hi.numsOf
  rw [nums_intItems] at en
  rw [e] at hl
  have lt : l < s.heap.objs.size := by obtain ⟨_, g, _⟩ := hl; exact Heap.lt_size g
  refine call_sum_walkG (wpAny_pyIter_tuple hl ?_)
  refine ⟨_, _, _, _, _, _, numAt xs, rfl, Walks.tuple (A := A.in1) hh s.heap.objs.size l (Nat.ne_of_lt lt) (intItems xs), ⟨⟨_, Heap.get?_push_size _ rfl, rfl, rfl⟩, hl.push _⟩, fun b hb => ?_, (fun _ _ => intItems_at), fun h' tk t' hk => ?_⟩
  · show b < (s.heap.push _).objs.size
    rw [Heap.size_push]
    rcases List.mem_cons.mp hb with z | hb
    · rw [z]; exact Nat.lt_succ_self _
    · rw [List.mem_singleton.mp hb]; exact Nat.lt_succ_of_lt lt
  · have := k h' tk t' fun b u e => past hk b u e
    rw [preSum_eq, List.take_of_length_le (by simp [intItems]), en]
    exact this
end
section
variable {X : Cx} {Q : D → Prop}
theorem cr_sumT (hc : X.calm = true) : CallR X (.builtin "sum") (fun vs H Q => ∃ (a : Addr) (ns : List Int), vs = [V.ref a] ∧ SqT X.K H a (ns.map V.int) ∧ Q (.int ns.sum) H) := by
  intro pins t τ H vs us Q J r q
  obtain ⟨a, ns, rfl, hs, q⟩ := q
  obtain ⟨its, rv, hl, _⟩ := J.tuple hs
  rw [Vals.ref1 r]
  exact sum_tup (J.ok.hd hc) hl rv.ints fun h' tk t' keep => ⟨.int _, H, J.kept keep, ⟨_, rfl⟩, q⟩
theorem cd_sumT {l : List Int} (hc : X.calm = true) (q : Q (.int l.sum)) : CD X (.builtin "sum") [.val (tI l)] Q := cd_of (cr_sumT hc) fun vs W H ok ha R c => by
  obtain ⟨v, rfl, m⟩ := one_arg ha
  cases m with
  | @tup _ a xs hp m =>
    rw [Dns.ints m] at hp
    exact ⟨a, l, rfl, SqT.of (ok.ex _ _ hp), c.now ok (.int _) q⟩
theorem cd_sumL {l : List Int} (hc : X.calm = true) (q : Q (.int l.sum)) : CD X (.builtin "sum") [.val (.lst (l.map D.int))] Q := cd_of (cr_sum hc) fun vs W H ok ha R c => by
  obtain ⟨v, rfl, m⟩ := one_arg ha
  cases m with
  | @lst _ a xs hp m =>
    rw [Dns.ints m] at hp
    exact ⟨a, l, rfl, SqL.of (ok.ex _ _ hp), c.now ok (.int _) q⟩
/-- n! -/
def fac : Nat → Nat
  | 0 => 1
  | n + 1 => fac n * (n + 1)
/-! ### the signs of a text -/
end
end DL

set_option Elab.async false
set_option linter.all false
set_option maxRecDepth 100000
set_option maxHeartbeats 4000000
/-! enumerate(()); texts and enumerations walked -/
namespace EZ
open PySem PySem.Spec PyProof.Rows
open AutoSeq1 (wpAny_loadPart')
abbrev tit (l : Addr) : Obj := { cls := .type "tuple_iterator", data := .fields #[.ref l, .int 0 0] }
theorem new_enum (l : Addr) (xs : Array Value) : Meets (Builtin.«enumerate.__new__» ⟨[.type "enumerate", .ref l], []⟩) (fun _ R s => s.heap.IsTuple l xs ∧
    R (.ok (.ret (.ref (s.heap.push (tit l)).objs.size))) { s with heap := (s.heap.push (tit l)).push { cls := .type "enumerate", data := .fields #[.none, .bool false, .ref s.heap.objs.size, rawInt 0, .none, .none] } }) :=
  .of_wp fun prog w A R s h => by
    obtain ⟨h0, g, d, tk, os⟩ := s
    obtain ⟨hl, h⟩ := h
    have hsub := sub_enumerate
    have at_ : Heap.IsTuple (Shared.heap ⟨h0, g, d, tk, os⟩) l xs := hl
    wp_walk
    refine wpAny_stack_any fun st => wpAny_pure ?_
    split
    · rename_i c _ _ _ _ _
      cases (c == Value.type "enumerate")
      · wp_walk using wpAny_pyIter_tuple at_
        exact ⟨_, rfl, h⟩
      · wp_walk using wpAny_pyIter_tuple at_
        exact ⟨_, rfl, h⟩
    · wp_walk using wpAny_pyIter_tuple at_
      exact ⟨_, rfl, h⟩
theorem call_enum {prog : Program} {w : World} {A : Around} {E : Value → Shared → Prop} {s : Shared} {l : Addr} {xs : Array Value} {Q : Value → Shared → Prop} (hl : s.heap.IsTuple l xs)
    (h : ∀ h', IsEnum h' (s.heap.objs.size + 1) s.heap.objs.size 0 .none → h'.IsTupleIter s.heap.objs.size l 0 → (∀ b o, s.heap.get? b = some o → h'.get? b = some o) → Q (.ref (s.heap.objs.size + 1)) { s with heap := h' }) :
    wpAny (model prog w) A (call (.type "enumerate") [.ref l]) Q E s := by
  refine callType_new F.called_enumerate (by decide) (F.typeCall_enumerate_1 _) (F.newCall_enumerate_1 _) (fun obj => F.args_object_init_2 obj _) F.entry_enumerate_new (new_enum l xs) ⟨hl, ?_⟩
  have sz : (s.heap.push (tit l)).objs.size = s.heap.objs.size + 1 := Heap.size_push ..
  show _ ∧ _
  rw [sz]
  have e := Heap.get?_push_size (s.heap.push (tit l)) (o := { cls := .type "enumerate", data := .fields #[.none, .bool false, .ref s.heap.objs.size, rawInt 0, .none, .none] }) rfl
  rw [sz] at e
  exact ⟨⟨_, e, rfl⟩, h _ e ⟨_, Heap.get?_push_of_some _ (Heap.get?_push_size _ rfl), rfl, rfl⟩ fun b o x => Heap.get?_push_of_some _ (Heap.get?_push_of_some _ x)⟩
end EZ
namespace DL
open PySem PySem.Spec PyProof.Rows L2
/-- nothing to walk -/
def Itn (K : PySem.W.Frag) (a : Addr) : It := ⟨fun _ _ => False, fun _ _ _ _ => False, fun i H => i = 0 ∧ SqT K H a []⟩
theorem turn_en {P : Program} {w : World} {K : PySem.W.Frag} {elts : List Expr} {kk : Nat} {tpos : Pos} (a e it : Addr) : Turn P w K (.Tuple elts kk tpos) (Itn K a) [e, it] e (fun _ h => IsEnum h e it 0 .none ∧ h.IsTupleIter it a 0 ∧ a ≠ it) where
  mem := by simp
  obj := fun i h st b hb => by
    obtain ⟨h1, ⟨o, h2, _, h3⟩, _⟩ := st
    have q : b = e ∨ b = it := by simpa using hb
    rcases q with q | q <;> subst q
    · exact ⟨_, h1, fun v z => nomatch z⟩
    · exact ⟨o, h2, fun v z => by rw [h3] at z; cases z⟩
  keep := fun i h h' st k => by
    obtain ⟨h1, ⟨o, h2, r⟩, ne⟩ := st
    exact ⟨k e (by simp) _ h1, ⟨o, k it (by simp) _ h2, r⟩, ne⟩
  item := fun X hP hw hK hc i pins s σ H E J hf st hg => hg.elim
  done := by
    intro X hP hw hK hc i pins s σ H E J hf st hg
    subst hP hw hK
    obtain ⟨h1, h2, ne⟩ := st
    obtain ⟨rfl, sq⟩ := hg
    obtain ⟨its, rv, tp, _⟩ := J.tuple sq
    cases rv
    obtain ⟨f0, f1, f2, f3, f4, f5⟩ := hf it (by simp)
    exact wpAny_pyNext_enum_endD (Draws.tuple (A := X.A.in1) (J.ok.hd hc) it a ne #[]) h1 ⟨h2, tp⟩ fun h' eb => ⟨rfl, J.turned (t' := s.toks) (fun b o nb q => eb b o nb q) f0 f1 f3 f4 f5⟩
  self := fun A i s Q E st h => wpAny_pyIter_enum st.1 h
def iEn (K : PySem.W.Frag) (ta : TA) : TI := fun σ H R => ta σ H fun vs H1 => ∃ a, vs = [.ref a] ∧ SqT K H1 a [] ∧ R (Itn K a) H1
theorem pi_en {X : Cx} {e : Expr} {ta : TA} {p pos tpos : Pos} {elts : List Expr} {kk : Nat} (hg : Gl X "enumerate") (hm : X.mg "enumerate" = none) (ha : PA X [e] ta) (hs : starEach [e] X.env = [(false, eval e X.env)] := by rfl) :
    PI X (.Tuple elts kk tpos) (.Call (.Name "enumerate" p) [e] [] pos) (iEn X.K ta) := by
  refine ⟨fun pins s σ H R J h => Call_ (ld_blt J hg hm boot_enumerate (PyProof.Rows.callWith_type1 (thn (ha.run pos pins s σ H _ J h) fun us s1 ⟨vs, H1, J1, r1, q1⟩ => ?_) hs rfl))⟩
  obtain ⟨a, rfl, sq, q⟩ := q1
  cases r1 with
  | cons r rr =>
    cases rr
    cases r
    obtain ⟨its, rv, tp, _⟩ := J1.tuple sq
    refine EZ.call_enum tp fun h' h1 h2 keep => wpAny_pyIter_enum h1 ?_
    have J2 : Inv X pins σ H1 { s1 with heap := h' } := J1.kept (t' := s1.toks) keep
    have lt : a < s1.heap.objs.size := by obtain ⟨_, g, _⟩ := tp; exact Heap.lt_size g
    refine ⟨s1.heap.objs.size + 1, [s1.heap.objs.size + 1, s1.heap.objs.size], _, _, H1, rfl, J2, turn_en a _ _, ⟨h1, h2, Nat.ne_of_lt lt⟩, fun b hb => ?_, q⟩
    have le : s1.heap.objs.size ≤ b := by
      have z : b = s1.heap.objs.size + 1 ∨ b = s1.heap.objs.size := by simpa using hb
      rcases z with z | z <;> rw [z]
      · exact Nat.le_add_right _ _
      · exact Nat.le_refl _
    exact J1.fpOk le (J1.hok.fresh le)
section
variable {X : Cx} {B : Hp} {W0 : Wd} {S : En} {pos px p1 p apos cpos : Pos} {Q : D → Prop} {a b c e e2 o elt iter value : Expr} {es : List Expr} {E : Ends'} {x : Str}
/-- for i, x in enumerate(a list) -/
theorem sd_forE {elts : List Expr} {kk : Nat} {tpos : Pos} {body : List Stmt} {l : List D} (hp : PassesOwn (model X.prog X.w) X.A X.env X.xe) (hc : X.calm = true) (hm : X.mg "enumerate" = none) (Inv : Nat → En → Prop) (h : AD X B S [e] fun as => as = [.val (.lst l)] ∧ Inv 0 S)
    (hs : ∀ (i : Nat) d S', l[i]? = some d → Inv i S' → GD X B W0 S' (.Tuple elts kk tpos) (.tup [.int (i : Int), d]) fun S2 => SDs X B W0 S2 body { nx := Inv (i + 1), rt := E.rt, bk := E.nx, ct := Inv (i + 1) })
    (hd : ∀ S', Inv l.length S' → E.nx S') (hg : Gl X "enumerate" := by rfl) (hst : starEach [e] X.env = [(false, eval e X.env)] := by rfl) (hf : ∀ x, foldedSetIterable (.Call (.Name "enumerate" p) [e] [] p1) X.env x = pure x := by intro _; rfl) :
    SD X B W0 S (.For (.Tuple elts kk tpos) (.Call (.Name "enumerate" p) [e] [] p1) body [] pos) E := fun σ W H r z D' k => by
  refine PS.w (ps_for hp hc (pi_enum hg hm wa_pa hst) wg_pg wss_pss hf) ?_
  refine h σ W H r _ fun as vs W1 H1 s1 ok1 n1 q1 => ?_
  obtain ⟨rfl, i0⟩ := q1
  obtain ⟨v, rfl, m⟩ := one_arg n1
  cases m with
  | @lst _ a xs ha m =>
    refine ⟨a, xs, rfl, SqL.of (ok1.ex _ _ ha), for_it walk_enum (fun i σ' H' => ∃ S' W', Rep X.K (gOf X) B S' σ' W' H' ∧ Stp W0 B W' H' ∧ Ex W1.I W'.I ∧ Inv i S') ⟨S, W1, r.step s1 ok1, z.trans r.ok s1, Ex.refl _, i0⟩
      (fun i σ' H' _ ⟨S', W', r', _, e', _⟩ => SqL.of (r'.ok.ex _ _ (e' _ _ ha))) ?_ ?_⟩
    · rintro i y σ' H' H2 hi ⟨S', W', r', z', e', i'⟩ ⟨T, x1, x2, rfl, hT, rfl, ex1, ex2⟩
      obtain ⟨d, hd', nd⟩ := m.get ex2
      cases ex1
      have st := Stp.new (o := .tup [.int (i : Nat), x2]) r'.ok hT
      have ok2 := r'.ok.new (o := .tup [.int (i : Nat), x2]) hT
      refine hs i d S' hd' i' σ' _ _ _ (r'.step st ok2) (z'.trans r'.ok st) (.tup (show upd W'.I T _ T = _ from upd_same) (.cons (.int _) (.cons ((nd.mono e').mono st.I) .nil))) _ fun S3 σ3 W3 H3 r3 z3 e3 q3 => ?_
      have e4 := (e'.trans st.I).trans e3
      exact q3 σ3 W3 H3 r3 z3 _ ⟨fun S5 σ5 W5 H5 r5 z5 e5 q5 => ⟨S5, W5, r5, z5, e4.trans e5, q5⟩, fun d5 v5 W5 H5 r5 z5 e5 n5 q5 => k.rt d5 v5 W5 H5 r5 z5 ((s1.I.trans e4).trans e5) n5 q5,
        fun S5 σ5 W5 H5 r5 z5 e5 q5 => k.nx S5 σ5 W5 H5 r5 z5 ((s1.I.trans e4).trans e5) q5, fun S5 σ5 W5 H5 r5 z5 e5 q5 => ⟨S5, W5, r5, z5, e4.trans e5, q5⟩⟩
    · rintro σ' H' ⟨S', W', r', z', e', i'⟩
      rw [← m.length] at i'
      exact k.nx S' σ' W' H' r' z' (s1.I.trans e') (hd S' i')
/-- [elt for x in a text] -/
theorem fd_relC {s : Str} {scope : Scope} {own : List (Str × Nat)} {Q : List D → Prop} (G : Nat → D → Prop) (j : Nat) (hc : X.calm = true) (hN : X.N.Nodup) (ok : BlkOk X.N X.env.scope scope own) (hg : AllBlk X scope fun Y => PG Y (.Name x px) (gName j)) (hl : s.cps.size ≤ 50000) (hit : ED X B S iter fun d => d = .str s) (hj : j ∈ own.map (·.2))
    (he : ∀ (i c : Nat), s.cps[i]? = some c → AllBlk X scope fun Y => ED Y B (itE S own j (.str (sg c))) elt (G c)) (hd : ∀ out, Paired G s.cps.toList out → Q out) (hs : ∀ x, foldedSetIterable iter X.env x = pure x := by intro _; rfl) : FD X B S (.ListComp elt [⟨.Name x px, iter, [], 0⟩] scope pos) Q := fun σ W H r R k => by
  refine PE.w (pe_lc (te := WEb X scope elt) hc hN (pi_str we_pe) ok hg (fun _ _ _ _ _ => pts_nil) web_pe hs) ?_
  refine hit σ W H r _ fun d v W1 H1 s1 ok1 n1 q1 => ?_
  subst q1
  cases n1
  refine ⟨s, rfl, fun p hp0 => ?_⟩
  have r1 := r.step s1 ok1
  refine lc_it (walk_str (z := s)) (fun i H' => ∃ acc W', Mid X.K (gOf X) W1 H1 p acc W' H' ∧ acc.length = i ∧ Paired G (s.cps.toList.take i) acc) ⟨[], W1, ⟨Stp.own hp0, ok1.own hp0, ok1.notP hp0, ok1.free hp0, [], upd_same, .nil⟩, rfl, .nil⟩ (fun _ _ _ _ => trivial) ?_ ?_
  · rintro i y H' H2 hi ⟨acc, W', mm, hl2, pr⟩ ⟨rfl, c, hc', rfl⟩
    have r2 := r1.step mm.st mm.ok
    refine pat_name j hj (gOf X) B σ W' H2 (.str (sg c)) r2 (.str (sg c)) _ fun σ2 e2 r3 => ⟨e2, ?_⟩
    show WEb X scope elt σ2 H2 _
    intro s' H0 C cl fp
    refine he i c hc' s' H0 C cl fp σ2 W' H2 r3 _ fun y W3v W3 H3 s3 ok3 n3 q3 => ?_
    obtain ⟨xs', e1, e3, m3⟩ := (mm.step s3 ok3).more hp0 n3 (by omega)
    refine ⟨xs', e1, e3, _, W3, m3, by simp [hl2], ?_⟩
    rw [List.take_add_one, Array.getElem?_toList, hc']
    exact Paired.snoc q3 pr
  · rintro H' ⟨acc, W', mm, hl2, pr⟩
    obtain ⟨ys, hH, ds⟩ := mm.h
    rw [List.take_of_length_le (by rw [Array.length_toList]; exact Nat.le_refl _)] at pr
    exact k acc p ys W' H' (s1.trans ok1 mm.st) mm.ok (s1.free ok1 hp0) mm.n mm.i hH ds (hd acc pr)
/-- [elt for x, y in zip(a text, a text)] -/
theorem fd_relCC {s t : Str} {y : Str} {py tpos pos1 : Pos} {kk : Nat} {scope : Scope} {own : List (Str × Nat)} {Q : List D → Prop} (G : Nat → Nat → D → Prop) (i j : Nat) (hc : X.calm = true) (hN : X.N.Nodup) (hm : X.mg "zip" = none) (ok : BlkOk X.N X.env.scope scope own) (hg : AllBlk X scope fun Y => PG Y (.Tuple [.Name x px, .Name y py] kk tpos) (gTup X.K 2 (gCons (gName i) (gCons (gName j) gNil))))
    (hs : s.cps.all (· < 128) = true) (ht : t.cps.all (· < 128) = true) (hl : s.cps.size ≤ 50000) (h : AD X B S [e, e2] fun as => as = [.val (.str s), .val (.str t)]) (hi : i ∈ own.map (·.2)) (hj : j ∈ own.map (·.2)) (he : ∀ (n c d : Nat), s.cps[n]? = some c → t.cps[n]? = some d → AllBlk X scope fun Y => ED Y B ((itE S own i (.str (sg c))).set j (some (.val (.str (sg d))))) elt (G c d))
    (hd : ∀ out, out.length = min s.cps.size t.cps.size → (∀ (n c d : Nat) z, s.cps[n]? = some c → t.cps[n]? = some d → out[n]? = some z → G c d z) → Q out) (hgl : Gl X "zip" := by rfl)
    (hst : starEach [e, e2] X.env = (false, eval e X.env) :: starEach [e2] X.env := by rfl) (hpl : (backTo pos1 (starEach [e2] X.env)).any (·.1) = false := by rfl)
    (hsf : ∀ x, foldedSetIterable (.Call (.Name "zip" p1) [e, e2] [] pos1) X.env x = pure x := by intro _; rfl) : FD X B S (.ListComp elt [⟨.Tuple [.Name x px, .Name y py] kk tpos, .Call (.Name "zip" p1) [e, e2] [] pos1, [], 0⟩] scope pos) Q := fun σ W H r R k => by
  refine PE.w (pe_lc (te := WEb X scope elt) hc hN (pi_ss hgl hm wa_pa hst hpl) ok hg (fun _ _ _ _ _ => pts_nil) web_pe hsf) ?_
  refine h σ W H r _ fun as vs W1 H1 s1 ok1 n1 q1 => ?_
  subst q1
  obtain ⟨v1, v2, rfl, m1, m2⟩ := two_args n1
  cases m1
  cases m2
  refine ⟨s, t, rfl, hs, ht, fun p hp0 => ?_⟩
  have r1 := r.step s1 ok1
  have wk : Walk (Itss s t) (min s.cps.size t.cps.size) (fun _ => True) (fun i H v H' => ∃ T c d, s.cps[i]? = some c ∧ t.cps[i]? = some d ∧ v = .ref T ∧ H T = none ∧ H' = upd H T (.tup [.str ⟨#[c]⟩, .str ⟨#[d]⟩])) :=
    ⟨fun i H hi _ => ⟨by omega, by omega⟩, fun H _ => ⟨by omega, by omega, by omega⟩, fun i H x H' _ _ y => y⟩
  refine lc_it wk (fun n H' => ∃ acc W', Mid X.K (gOf X) W1 H1 p acc W' H' ∧ acc.length = n ∧ ∀ (m c d : Nat) z, s.cps[m]? = some c → t.cps[m]? = some d → acc[m]? = some z → G c d z) ⟨[], W1, ⟨Stp.own hp0, ok1.own hp0, ok1.notP hp0, ok1.free hp0, [], upd_same, .nil⟩, rfl, fun m c d z _ _ e => by simp at e⟩ (fun _ _ _ _ => trivial) ?_ ?_
  · rintro n y H' H2 hn ⟨acc, W', mm, hl2, pr⟩ ⟨T, c, d, hc', hd', rfl, hT, rfl⟩
    have st := Stp.new (o := .tup [.str ⟨#[c]⟩, .str ⟨#[d]⟩]) mm.ok hT
    have ok2 := mm.ok.new (o := .tup [.str ⟨#[c]⟩, .str ⟨#[d]⟩]) hT
    have mm2 := mm.step st ok2
    have r2 := r1.step mm2.st mm2.ok
    refine pat_two i j hi hj (gOf X) B σ _ _ (.ref T) r2 (d := .str (sg c)) (d' := .str (sg d)) (.tup (show upd W'.I T _ T = _ from upd_same) (.cons (.str _) (.cons (.str _) .nil))) _ fun σ2 e2 r3 => ⟨e2, ?_⟩
    show WEb X scope elt σ2 _ _
    intro s' H0 C cl fp
    refine he n c d hc' hd' s' H0 C cl fp σ2 _ _ r3 _ fun y W3v W3 H3 s3 ok3 n3 q3 => ?_
    obtain ⟨xs', e1, e3, m3⟩ := (mm2.step s3 ok3).more hp0 n3 (by omega)
    refine ⟨xs', e1, e3, _, W3, m3, by simp [hl2], fun m c1 d1 z f1 f2 f3 => ?_⟩
    rcases Nat.lt_or_ge m n with lt | ge
    · rw [List.getElem?_append_left (by omega)] at f3
      exact pr m c1 d1 z f1 f2 f3
    · rw [List.getElem?_append_right (by omega)] at f3
      have : m = n := by
        rcases Nat.lt_or_ge n m with q | q
        · rw [List.getElem?_eq_none (show [y].length ≤ m - acc.length by show 1 ≤ _; omega)] at f3
          cases f3
        · omega
      subst this
      rw [hl2, Nat.sub_self] at f3
      cases f3
      rw [hc'] at f1
      rw [hd'] at f2
      cases f1
      cases f2
      exact q3
  · rintro H' ⟨acc, W', mm, hl2, pr⟩
    obtain ⟨ys, hH, ds⟩ := mm.h
    exact k acc p ys W' H' (s1.trans ok1 mm.st) mm.ok (s1.free ok1 hp0) mm.n mm.i hH ds (hd acc hl2 pr)
end
end DL

set_option Elab.async false
set_option linter.all false
set_option maxRecDepth 100000
set_option maxHeartbeats 2000000
/-! the law's own call, of a def whose promise asks that the guards are known -/
namespace DL
open PySem PySem.Spec PyProof.Rows L2
/-- what is tracked when the law is called: the script alone, and that only where it is no object of the module -/
def given (K : PySem.W.Frag) (a : Addr) (o : Obj) (ns : List Int) : Hp := fun b => if b = a ∧ K.lookup a = none then some (.frz o (.lst (ns.map V.int))) else none
theorem given_is {K : PySem.W.Frag} {a b : Addr} {o : Obj} {ns : List Int} {u : HO} (h : given K a o ns b = some u) : b = a ∧ K.lookup a = none ∧ u = .frz o (.lst (ns.map V.int)) := by
  unfold given at h
  by_cases c : b = a ∧ K.lookup a = none
  · rw [if_pos c] at h
    exact ⟨c.1, c.2, (Option.some.inj h).symm⟩
  · rw [if_neg c] at h
    cases h
theorem law_gn {P : Program} {w : World} {K : PySem.W.Frag} {mg mb : Str → Option Value} {k : Nat} {fa a : Addr} {fd : FuncData} {x : Str} {sp : SpG} {t : Shared} {vs : List Value} {ns : List Int}
    (kin : K.In t.heap) (glob : t.heap.Ns mainGlobals mg) (bl : t.heap.Ns builtinsNs mb) (boot : ∀ x : Str, x ≠ "__name__" → mb x = bootBuiltins x) (lim : t.heap.NoLimit) (gens : t.gens = #[])
    (script : t.heap.get? a = some { cls := .type "list", data := .seq vs.toArray }) (iv : IntsAre vs ns) (len : ns.length ≤ sizeLine) (room : Room k callerA)
    (F : ∀ base : Heap, K.In base → base.Ns mainGlobals mg → GnOk P w K mg base k fa fd [x] sp) (bind : ∀ (s : Shared) (u : Value), BindsTo s fd ⟨[u], []⟩ [(x, u)])
    (q : ∀ H : Hp, SqL K H a (ns.map V.int) → sp [] [.ref a] H fun v _ => v = .bl true) :
    codeAny (model P w) callerA (.call (.ref fa) ⟨[.ref a], []⟩) (fun r s' => r = .ok (.ret (.bool true)) ∧ OldK t.heap s'.heap ∧ s'.os = t.os ∧ AllBare s'.gens) t := by
  have rel : Vals (ns.map V.int) vs := vals_ints iv
  obtain ⟨H, eH⟩ : ∃ H, H = given K a { cls := .type "list", data := .seq vs.toArray } ns := ⟨_, rfl⟩
  have one : ∀ {b : Addr} {u : HO}, H b = some u → b = a ∧ K.lookup a = none ∧ u = .frz { cls := .type "list", data := .seq vs.toArray } (.lst (ns.map V.int)) := fun {b u} e => given_is (by rw [← eH]; exact e)
  -- what is tracked is no dict and nothing of the module
  have untracked : ∀ {b : Addr}, (b = a → K.lookup a = none → False) → H b = none := fun {b} n => by
    cases e : H b with
    | none => rfl
    | some u => exact (n (one e).1 (one e).2.1).elim
  have inBase : ∀ {b : Addr} {o : Obj}, t.heap.get? b = some o → (b = a → K.lookup a = none → False) → (hidT t.heap H).get? b = some o := fun e n => hidT_get e (untracked n)
  have dict : ∀ {b : Addr} {m : Str → Option Value}, t.heap.Ns b m → (hidT t.heap H).Ns b m := fun {b m} ⟨o, es, n, e, d, r⟩ => ⟨o, es, n, inBase e (fun z _ => by
    rw [z, script] at e
    cases e
    exact nomatch (show Data.seq vs.toArray _ = Data.dict es n from d)), d, r⟩
  have kin' : K.In (hidT t.heap H) := fun b o e => inBase (kin b o e) fun z n => by rw [z, n] at e; cases e
  have hold : HOk P w H t.heap := fun b u e => by
    obtain ⟨rfl, _, rfl⟩ := one e
    exact ⟨script, by rw [List.length_map]; exact len, vs, _, rel, script⟩
  have seq : SqL K H a (ns.map V.int) := by
    cases c : K.lookup a with
    | none => exact .inl (.inr ⟨{ cls := .type "list", data := .seq vs.toArray }, by rw [eH]; exact if_pos ⟨rfl, c⟩⟩)
    | some o =>
      have e := kin a o c
      rw [script] at e
      cases e
      exact .inr ⟨_, vs.toArray, _, c, rfl, rfl, rfl, by rw [List.size_toArray, iv.length]; exact len, rel⟩
  have md : Mod K mg (hidT t.heap H) := ⟨kin', dict glob, ⟨mb, dict bl, boot⟩, let ⟨mc, h1, h2⟩ := lim; ⟨mc, dict h1, h2⟩⟩
  have env : Env0 P w K mg (hidT t.heap H) callerA [] t H := ⟨rfl, md, fun b o e => of_hidT e, Nat.le_of_eq (hidT_size _ _), trivial, fun b z => absurd (show b ∈ ([] : List Addr) from z) List.not_mem_nil, hold, .of_eq gens⟩
  refine codeAny_mono ((F _ kin' (dict glob)).run callerA [] [] t H ⟨[.ref a], []⟩ [.ref a] [.ref a] _ room rfl env (bind t (.ref a)) (.cons rfl .nil) (q H seq)) fun r s' back => ?_
  match r, back with
  | .error e, back => exact back.elim
  | .ok (.ret u), ⟨v, H', os, bare, un, hold', ru, ev⟩ =>
    have ev' : v = .bl true := ev
    subst ev'
    obtain rfl : u = Value.bool true := ru
    refine ⟨rfl, OldK.of_keep fun b o e => ?_, os, bare⟩
    cases c : H b with
    | none => exact un.keep b o e c (fun z => absurd (show b ∈ ([] : List Addr) from z) List.not_mem_nil) List.not_mem_nil
    | some u =>
      obtain ⟨rfl, _, rfl⟩ := one c
      have after := (hold' _ _ (un.frzs _ _ _ c)).1
      rw [script] at e
      cases e
      exact after
/-- the goal that the head of an open law leaves, from the law's promise -/
theorem walk_gn {l : PySem.W.OpenLaw} {n k : Nat} {q : Program} {loose : List Str} {XP : (Str → Option Value) → Heap → Prop} {YP : World → Heap → Prop} {d : DefRec} {K : Params → PySem.W.Frag} {sp : World → SpG} {x : Str}
    (hn : l.most = some n) (hn2 : n ≤ sizeLine) (hdf : d.params.defaults = []) (hr : Room k callerA) (hY : ∀ (w : World) (h : Heap), YP w h → (K w.params).In h)
    (F : ∀ (w : World) (mg : Str → Option Value) (fa : Addr) (h : Heap), (K w.params).In h → h.Ns mainGlobals mg → mg d.name = some (.ref fa) →
      ∃ fd : FuncData, (∀ (s : Shared) (u : Value), BindsTo s fd ⟨[u], []⟩ [(x, u)]) ∧ ∀ base : Heap, (K w.params).In base → base.Ns mainGlobals mg → GnOk l.prog w (K w.params) mg base k fa fd [x] (sp w))
    (hsp : ∀ (w : World) (H : Hp) (a : Addr) (ns : List Int), ns.length ≤ n → SqL (K w.params) H a (ns.map V.int) → sp w [] [.ref a] H fun v _ => v = .bl true) :
    PySem.W.WalkO q loose XP YP l.row.toRowW d [] (fun f vs => PySem.call f vs) :=
  Att.attach_call hn hdf fun w s₀ s₁ mg mb fa o pm cd doc a vs ns G Y ho hd hcd hmg hobj hints hlen hg =>
    let ⟨fd, hb, hF⟩ := F w mg fa _ (hY w _ Y) G.T.g hmg
    law_gn (hY w _ Y) G.T.g G.T.b G.T.builtins G.T.nolimit hg hobj hints (Nat.le_trans hlen hn2) hr hF hb fun H hS => hsp w H a ns hlen hS
end DL

set_option Elab.async false
set_option linter.all false
set_option maxRecDepth 100000
set_option maxHeartbeats 2000000
/-! k46: the text by places, the data, the promises -/
namespace K46
open PySem L2 DL
def top (i : Nat) : Stmt := PySem.Challenge.pw_onecrest_k46_whole_amounts_moved.main.body.getD i (.Pass ⟨0, 0, 0, 0⟩)
abbrev sIsInt : Stmt := top 3
abbrev sIsList : Stmt := top 5
abbrev sIsCount : Stmt := top 4
abbrev ble (j : Nat) : Stmt := inClass (top 29) j
abbrev rat (j : Nat) : Stmt := inClass (top 21) j
abbrev sIsNumber : Stmt := top 22
abbrev sRatioOf : Stmt := top 24
/-! ### fractions -/
abbrev Fr := Int × Int
/-- the common part, with the sign of the bottom -/
def gs (t b : Int) : Int := if b > 0 then (Nat.gcd t.natAbs b.natAbs : Int) else -(Nat.gcd t.natAbs b.natAbs : Int)
def low (t b : Int) : Fr := (t.fdiv (gs t b), b.fdiv (gs t b))
/-- a fraction as it is held: below 2 ^ n, the bottom above 0 -/
structure Bd (n : Nat) (p : Fr) : Prop where
  t : p.1.natAbs < 2 ^ n
  b : p.2.natAbs < 2 ^ n
  pos : 0 < p.2
theorem gs_ne {t b : Int} (h : b ≠ 0) : gs t b ≠ 0 := by
  have g : 0 < Nat.gcd t.natAbs b.natAbs := Nat.gcd_pos_of_pos_right _ (by omega)
  unfold gs
  split <;> omega
theorem gs_dvd_t {t b : Int} : gs t b ∣ t := by
  have h : ((Nat.gcd t.natAbs b.natAbs : Nat) : Int) ∣ t := Int.ofNat_dvd_left.mpr (Nat.gcd_dvd_left _ _)
  unfold gs
  split
  · exact h
  · exact Int.neg_dvd.mpr h
theorem gs_dvd_b {t b : Int} : gs t b ∣ b := by
  have h : ((Nat.gcd t.natAbs b.natAbs : Nat) : Int) ∣ b := Int.ofNat_dvd_left.mpr (Nat.gcd_dvd_right _ _)
  unfold gs
  split
  · exact h
  · exact Int.neg_dvd.mpr h
theorem fdiv_small {x d : Int} (h : d ∣ x) : (x.fdiv d).natAbs ≤ x.natAbs := by
  rw [Int.fdiv_eq_ediv_of_dvd h]
  obtain ⟨c, rfl⟩ := h
  by_cases z : d = 0
  · subst z; simp
  · rw [Int.mul_ediv_cancel_left _ z, Int.natAbs_mul]
    exact Nat.le_mul_of_pos_left _ (by omega)
theorem low_pos {t b : Int} (h : b ≠ 0) : 0 < (low t b).2 := by
  show 0 < b.fdiv (gs t b)
  have d := gs_dvd_b (t := t) (b := b)
  have n := gs_ne (t := t) h
  rw [Int.fdiv_eq_ediv_of_dvd d]
  obtain ⟨c, hc⟩ := d
  have e : b / gs t b = c := by
    conv => lhs; lhs; rw [hc]
    exact Int.mul_ediv_cancel_left _ n
  rw [e]
  have g : 0 < Nat.gcd t.natAbs b.natAbs := Nat.gcd_pos_of_pos_right _ (by omega)
  by_cases p : b > 0
  · have e2 : gs t b = (Nat.gcd t.natAbs b.natAbs : Int) := by unfold gs; rw [if_pos p]
    rw [e2] at hc
    by_cases q : 0 < c
    · exact q
    · have : (Nat.gcd t.natAbs b.natAbs : Int) * c ≤ 0 := Int.mul_nonpos_of_nonneg_of_nonpos (by omega) (by omega)
      omega
  · have e2 : gs t b = -(Nat.gcd t.natAbs b.natAbs : Int) := by unfold gs; rw [if_neg p]
    rw [e2] at hc
    by_cases q : 0 < c
    · exact q
    · have : 0 ≤ -(Nat.gcd t.natAbs b.natAbs : Int) * c := Int.mul_nonneg_of_nonpos_of_nonpos (by omega) (by omega)
      omega
theorem low_bd {n : Nat} {t b : Int} (h : b ≠ 0) (ht : t.natAbs < 2 ^ n) (hb : b.natAbs < 2 ^ n) : Bd n (low t b) :=
  ⟨Nat.lt_of_le_of_lt (fdiv_small gs_dvd_t) ht, Nat.lt_of_le_of_lt (fdiv_small gs_dvd_b) hb, low_pos h⟩
theorem low_gcd {t b : Int} (h : b ≠ 0) : Nat.gcd (low t b).1.natAbs (low t b).2.natAbs = 1 := by
  show Nat.gcd (t.fdiv (gs t b)).natAbs (b.fdiv (gs t b)).natAbs = 1
  have g : 0 < Nat.gcd t.natAbs b.natAbs := Nat.gcd_pos_of_pos_right _ (by omega)
  have e : (gs t b).natAbs = Nat.gcd t.natAbs b.natAbs := by
    unfold gs
    split <;> omega
  have key : ∀ x : Int, gs t b ∣ x → (x.fdiv (gs t b)).natAbs = x.natAbs / Nat.gcd t.natAbs b.natAbs := fun x hx => by
    rw [Int.fdiv_eq_ediv_of_dvd hx, ← e]
    obtain ⟨c, rfl⟩ := hx
    have n := gs_ne (t := t) h
    rw [Int.mul_ediv_cancel_left _ n, Int.natAbs_mul, Nat.mul_div_cancel_left _ (by omega)]
  rw [key t gs_dvd_t, key b gs_dvd_b]
  rw [Nat.gcd_div (Nat.gcd_dvd_left _ _) (Nat.gcd_dvd_right _ _)]
  exact Nat.div_self g
/-- what is in lowest terms stays -/
theorem low_id {t b : Int} (hb : 0 < b) (h : Nat.gcd t.natAbs b.natAbs = 1) : low t b = (t, b) := by
  have e : gs t b = 1 := by unfold gs; rw [if_pos hb, h]; rfl
  unfold low
  rw [e, Int.fdiv_one, Int.fdiv_one]
theorem low_one (n : Int) : low n 1 = (n, 1) := low_id (by decide) (Nat.gcd_one_right _)
theorem mul_bd {a b : Int} {m n : Nat} (h : a.natAbs < 2 ^ m) (k : b.natAbs < 2 ^ n) : (a * b).natAbs < 2 ^ (m + n) := by
  rw [Int.natAbs_mul, Nat.pow_add]
  exact Nat.mul_lt_mul'' h k
theorem add_bd {a b : Int} {m : Nat} (h : a.natAbs < 2 ^ m) (k : b.natAbs < 2 ^ m) : (a + b).natAbs < 2 ^ (m + 1) := by
  have := Int.natAbs_add_le a b
  rw [Nat.pow_succ]
  omega
theorem bd_mono {a : Int} {m n : Nat} (h : a.natAbs < 2 ^ m) (k : m ≤ n) : a.natAbs < 2 ^ n := Nat.lt_of_lt_of_le h (Nat.pow_le_pow_right (by decide) k)
theorem Bd.mono {p : Fr} {m n : Nat} (h : Bd m p) (k : m ≤ n) : Bd n p := ⟨bd_mono h.t k, bd_mono h.b k, h.pos⟩
theorem cmul {a b : Int} {m n : Nat} (h : a.natAbs < 2 ^ m) (k : b.natAbs < 2 ^ n) (hm : m ≤ 60000000) (hn : n ≤ 60000000) : CMulX a b := by
  have e1 := intBits_le_iff.mpr h
  have e2 := intBits_le_iff.mpr k
  show (Builtin.Int.intBits a : Int) + (Builtin.Int.intBits b : Int) ≤ 134217728
  omega
theorem cdivg {a b : Int} {n : Nat} (h : b ≠ 0) (k : b.natAbs < 2 ^ n) (hn : n ≤ 9000) : CDivG a b :=
  ⟨h, Nat.lt_of_lt_of_le ((Nat.log2_lt (by omega)).mpr k) hn⟩
theorem gs_bd {t b : Int} {n : Nat} (h : b ≠ 0) (hb : b.natAbs < 2 ^ n) : (gs t b).natAbs < 2 ^ n := by
  have e : (gs t b).natAbs = Nat.gcd t.natAbs b.natAbs := by
    unfold gs
    split <;> omega
  rw [e]
  exact Nat.lt_of_le_of_lt (Nat.gcd_le_right _ (by omega)) hb
end K46

set_option Elab.async false
set_option linter.all false
set_option maxRecDepth 100000
set_option maxHeartbeats 2000000
/-! k46: the promises, the checks, Ratio -/
namespace K46
open PySem L2 DL
section
variable {X : Cx} {B : Hp} {S : En} {pos : Pos} {Q : D → Prop} {x : Str} {d : D}
theorem nm (i : Nat) (q : Q d) (hN : X.N[i]? = some x := by rfl) (h : S[i]? = some (some (.val d)) := by rfl) (hv : Vis X.env.scope x := by first | exact Or.inl rfl | exact Or.inr (Or.inl rfl) | exact Or.inr (Or.inr rfl))
    (hd : (x == ("__debug__" : Str)) = false := by decide) (hcd : (x == ("__classdict__" : Str)) = false := by decide) : ED X B S (.Name x pos) Q := ed_name i hN h q hv hd hcd
theorem sd_post {W0 : Wd} {st : Stmt} {E : Ends'} (QS : En → Prop) (h : SD X B W0 S st { E with nx := QS }) (k : ∀ S', QS S' → E.nx S') : SD X B W0 S st E := fun σ W H r z D' q => h σ W H r z D' ⟨fun S' σ' W' H' r' z' x' y => q.nx S' σ' W' H' r' z' x' (k S' y), q.rt, q.bk, q.ct⟩
theorem kB {QB : Bool → Prop} {b : Bool} (q : QB b) : ∃ k, D.bl b = .bl k ∧ QB k := ⟨b, rfl, q⟩
end
/-! ### data -/
def rf (p : Fr) : List (Str × D) := [("_top", .int p.1), ("_bottom", .int p.2)]
abbrev Ra (C : Addr) (p : Fr) : D := .obj C (rf p)
def pr (p : Fr) : D := .tup [.int p.1, .int p.2]
/-- what may be handed to a check -/
inductive Kn (C : Addr) : D → Prop
  | non : Kn C .non
  | bl (b) : Kn C (.bl b)
  | int (i) : Kn C (.int i)
  | str (s) : Kn C (.str s)
  | tup (l) : Kn C (.tup l)
  | lst (l) : Kn C (.lst l)
  | dct : Kn C .dct
  | rat (p) : Kn C (Ra C p)
def isI : D → Bool
  | .int _ => true
  | _ => false
def isB : D → Bool
  | .bl _ => true
  | _ => false
def isO : D → Bool
  | .obj _ _ => true
  | _ => false
structure Txt (K : PySem.W.Frag) (mg : Str → Option Value) (C : Addr) : Prop where
  nu : Num K C
  is : Isi K C
  nT : NoAttr K C "_top"
  nB : NoAttr K C "_bottom"
  ne : PySem.W.findIn K (.ref C) "__ne__" = some (some (.builtin "object.__ne__"))
  mC : mg "Ratio" = some (.ref C)
  gcd : mg "gcd" = some (.builtin "math.gcd")
  isi : mg "isinstance" = none
  int : mg "int" = none
  bool : mg "bool" = none
  list : mg "list" = none
  tuple : mg "tuple" = none
  abs : mg "abs" = none
  len : mg "len" = none
  max : mg "max" = none
  divmod : mg "divmod" = none
  str : mg "str" = none
  repr : mg "repr" = none
  range : mg "range" = none
  k1 : PySem.W.kitOne K (.type "NoneType") (.type "int") = some false
  k2 : PySem.W.kitOne K (.type "bool") (.type "int") = some true
  k3 : PySem.W.kitOne K (.type "str") (.type "int") = some false
  k4 : PySem.W.kitOne K (.type "tuple") (.type "int") = some false
  k5 : PySem.W.kitOne K (.type "list") (.type "int") = some false
  k6 : PySem.W.kitOne K (.ref C) (.type "int") = some false
  k7 : PySem.W.kitOne K (.type "int") (.type "bool") = some false
  r1 : PySem.W.kitOne K (.type "NoneType") (.ref C) = some false
  r2 : PySem.W.kitOne K (.type "bool") (.ref C) = some false
  r3 : PySem.W.kitOne K (.type "str") (.ref C) = some false
  r4 : PySem.W.kitOne K (.type "tuple") (.ref C) = some false
  r5 : PySem.W.kitOne K (.type "list") (.ref C) = some false
  r7 : PySem.W.kitOne K (.type "int") (.ref C) = some false
  k8 : PySem.W.kitOne K (.type "dict") (.type "int") = some false
  r8 : PySem.W.kitOne K (.type "dict") (.ref C) = some false
  l0 : ∀ T : String, T = "NoneType" ∨ T = "bool" ∨ T = "str" ∨ T = "int" ∨ T = "dict" → PySem.W.kitAny K (.type T) [.type "list", .type "tuple"] = some false
  l3 : PySem.W.kitAny K (.ref C) [.type "list", .type "tuple"] = some false
  all : mg "all" = none
  zip : mg "zip" = none
  l1 : PySem.W.kitAny K (.type "list") [.type "list", .type "tuple"] = some true
  l2 : PySem.W.kitAny K (.type "tuple") [.type "list", .type "tuple"] = some true
theorem same {K : PySem.W.Frag} {t : Value} (h : (t == t) = true) : PySem.W.kitOne K t t = some true := by
  unfold PySem.W.kitOne
  rw [if_pos h]
theorem Kn.ty {K : PySem.W.Frag} {mg : Str → Option Value} {C : Addr} (T : Txt K mg C) {d : D} (h : Kn C d) : ∃ t, TyD K d t ∧ PySem.W.kitOne K t (.type "int") = some (isI d || isB d) ∧ ((isI d || isB d) = true → PySem.W.kitOne K t (.type "bool") = some (isB d)) ∧ PySem.W.kitOne K t (.ref C) = some (isO d) := by
  cases h with
  | non => exact ⟨_, .non, T.k1, fun z => Bool.noConfusion z, T.r1⟩
  | bl b => exact ⟨_, .bl b, T.k2, fun _ => same (by decide +kernel), T.r2⟩
  | int i => exact ⟨_, .int i, same (by decide +kernel), fun _ => T.k7, T.r7⟩
  | str s => exact ⟨_, .str s, T.k3, fun z => Bool.noConfusion z, T.r3⟩
  | tup l => exact ⟨_, .tup l, T.k4, fun z => Bool.noConfusion z, T.r4⟩
  | dct => exact ⟨_, .dct, T.k8, fun z => Bool.noConfusion z, T.r8⟩
  | lst l => exact ⟨_, .lst l, T.k5, fun z => Bool.noConfusion z, T.r5⟩
  | rat p => exact ⟨_, .obj _ T.is, T.k6, fun z => Bool.noConfusion z, same (beq_self_eq_true _)⟩
/-! ### promises -/
abbrev spB (C : Addr) (f : D → Bool) : SpD := fun as Q => ∃ d, as = [.val d] ∧ Kn C d ∧ Q (.bl (f d))
section
variable {P : Program} {w : World} {K : PySem.W.Frag} {mg : Str → Option Value} {base : Heap} {C : Addr}
theorem sc_isint : FnScope ["value"] ["value"] (defScope sIsInt) := ⟨rfl, rfl, rfl, by decide +kernel, rfl, by decide +kernel, by decide +kernel⟩
theorem ok_isint {f : Addr} {fd : FuncData} (F : FunS K "is_integer" "is_integer" sIsInt f fd) (T : Txt K mg C) : GnOk P w K mg base 1 f fd ["value"] (lift K (spB C isI)) := by
  refine gn_dl F sc_isint (fun as Q h => by obtain ⟨d, rfl, _⟩ := h; rfl) (fun cdv A outer s H hr hG W as Q h => ?_)
  obtain ⟨d, rfl, kn, q⟩ := h
  obtain ⟨t, ty, h1, h2, _⟩ := kn.ty T
  refine sds_cons (sd_ret (ed_and (ed_callB T.isi (ad_cons (nm 0 (ad_cons (ed_ty T.int (ad_nil (cd_isi ty (.ty _) h1 (kB ?_))))))))))
  have e : isI d = ((isI d || isB d) && !isB d) := by cases d <;> rfl
  rw [e] at q
  cases c : (isI d || isB d) with
  | false =>
    rw [c] at q
    exact q
  | true =>
    rw [c] at q
    show ED _ _ _ _ _
    exact ed_one (ed_not (ed_callB T.isi (ad_cons (nm 0 (ad_cons (ed_ty T.bool (ad_nil (cd_isi ty (.ty _) (h2 c) (kB q)))))))))

/-- is_count: an int from 0 on -/
def isC : D → Bool
  | .int i => decide (0 ≤ i)
  | _ => false
theorem sc_iscount : FnScope ["value"] ["value"] (defScope sIsCount) := ⟨rfl, rfl, rfl, by decide +kernel, rfl, by decide +kernel, by decide +kernel⟩
theorem ok_iscount {f : Addr} {fd : FuncData} (F : FunS K "is_count" "is_count" sIsCount f fd) (T : Txt K mg C) (G : Df P w K mg base "is_integer" 1 1 (spB C isI)) : GnOk P w K mg base 2 f fd ["value"] (lift K (spB C isC)) := by
  refine gn_dl F sc_iscount (fun as Q h => by obtain ⟨d, rfl, _⟩ := h; rfl) (fun cdv A outer s H hr hG W as Q h => ?_)
  obtain ⟨d, rfl, kn, q⟩ := h
  refine sds_cons (sd_ret (ed_and (ed_call G hr hG (ad_cons (nm 0 (ad_nil ⟨d, rfl, kn, kB ?_⟩))))))
  cases kn with
  | int i => exact ed_one (show ED _ _ _ _ _ from ed_cmp (nm 0 (ed_int (od_ge q))))
  | _ => exact q
abbrev spL : SpD := fun as Q => ∃ d l, as = [.val d] ∧ (d = .lst l ∨ d = .tup l) ∧ Q (.bl true)
theorem sc_islist : FnScope ["value"] ["value"] (defScope sIsList) := ⟨rfl, rfl, rfl, by decide +kernel, rfl, by decide +kernel, by decide +kernel⟩
theorem ok_islist {f : Addr} {fd : FuncData} (F : FunS K "is_list" "is_list" sIsList f fd) (T : Txt K mg C) : GnOk P w K mg base 1 f fd ["value"] (lift K spL) := by
  refine gn_dl F sc_islist (fun as Q h => by obtain ⟨d, l, rfl, _⟩ := h; rfl) (fun cdv A outer s H hr hG W as Q h => ?_)
  obtain ⟨d, l, rfl, hd, q⟩ := h
  refine sds_cons (sd_ret (ed_callB T.isi (ad_cons (nm 0 (ad_cons (ed_tup (ad_cons (ed_ty T.list (ad_cons (ed_ty T.tuple (ad_nil ⟨[.ty "list", .ty "tuple"], rfl, by decide, ad_nil ?_⟩)))))))))))
  rcases hd with rfl | rfl
  · exact cd_isi2 (.lst l) (.ty _) (.ty _) T.l1 q
  · exact cd_isi2 (.tup l) (.ty _) (.ty _) T.l2 q
def isN (d : D) : Bool := isI d || isO d
theorem sc_isnumber : FnScope ["value"] ["value"] (defScope sIsNumber) := ⟨rfl, rfl, rfl, by decide +kernel, rfl, by decide +kernel, by decide +kernel⟩
theorem ok_isnumber {f : Addr} {fd : FuncData} (F : FunS K "is_number" "is_number" sIsNumber f fd) (T : Txt K mg C) (G : Df P w K mg base "is_integer" 1 1 (spB C isI)) : GnOk P w K mg base 2 f fd ["value"] (lift K (spB C isN)) := by
  refine gn_dl F sc_isnumber (fun as Q h => by obtain ⟨d, rfl, _⟩ := h; rfl) (fun cdv A outer s H hr hG W as Q h => ?_)
  obtain ⟨d, rfl, kn, q⟩ := h
  obtain ⟨t, ty, _, _, h3⟩ := kn.ty T
  refine sds_cons (sd_ret (ed_or (ed_call G hr hG (ad_cons (nm 0 (ad_nil ⟨d, rfl, kn, kB ?_⟩))))))
  unfold isN at q
  cases c : isI d with
  | true =>
    simp only [c, Bool.true_or] at q
    exact q
  | false =>
    simp only [c, Bool.false_or] at q
    exact ed_one (show ED _ _ _ _ _ from ed_callB T.isi (ad_cons (nm 0 (ad_cons (ed_cls T.mC (ad_nil (cd_isi ty (.cls _) h3 q)))))))
/-! ### Ratio(top, bottom) -/
abbrev sInit : Stmt := rat 0
abbrev spInit : SpI := fun as Q => ∃ t b, as = [.val (.int t), .val (.int b)] ∧ b ≠ 0 ∧ t.natAbs < 2 ^ 8000 ∧ b.natAbs < 2 ^ 8000 ∧ Q (rf (low t b))
theorem sc_init : FnScope ["self", "top", "bottom", "value", "shared"] ["self", "top", "bottom"] (defScope sInit) := ⟨rfl, rfl, rfl, by decide +kernel, rfl, by decide +kernel, by decide +kernel⟩
theorem ok_init {f : Addr} {fd : FuncData} (F : FunS K "__init__" "Ratio.__init__" sInit f fd) (T : Txt K mg C) (G : Df P w K mg base "is_integer" 1 1 (spB C isI)) : GnOk P w K mg base 2 f fd ["self", "top", "bottom"] (liftI K C spInit) := by
  refine init_dl F sc_init (fun as Q h => by obtain ⟨t, b, rfl, _⟩ := h; rfl) (fun cdv A outer s H hr hG W B as Q p dx h => ?_)
  obtain ⟨t, b, rfl, hb, bt, bb, q⟩ := h
  have nd := sc_init.nd
  refine sds_cons (sd_forT (l := [.int t, .int b]) PassesOwn.never rfl (fun _ S' => ∃ v, notInst v = true ∧ S' = [some (.inst C p dx []), some (.val (.int t)), some (.val (.int b)), v, none]) (ed_tup (ad_cons (nm 1 (ad_cons (nm 2 (ad_nil ⟨[.int t, .int b], rfl, by simp, rfl, none, rfl, rfl⟩)))))) ?_ ?_)
  · rintro i d S' hi ⟨v, nv, rfl⟩
    refine gd_name 3 nd rfl ?_
    refine sds_cons (sd_if (td_not (td_val (ed_call G hr hG (ad_cons (nm 3 (ad_nil ⟨d, rfl, ?_, kB ?_⟩)))))))
    · rcases i with _ | _ | i
      · cases hi; exact .int _
      · cases hi; exact .int _
      · simp at hi
    · have e : isI d = true := by
        rcases i with _ | _ | i
        · cases hi; rfl
        · cases hi; rfl
        · simp at hi
      rw [e]
      exact sds_nil (sds_nil ⟨_, rfl, rfl⟩)
  · rintro S' ⟨v, nv, rfl⟩
    refine sds_cons (sd_if (td_cmp (nm 2 (ed_int (od_eqi (kB ?_))))))
    rw [decide_eq_false hb]
    refine sds_nil ?_
    refine sds_cons (sd_set 4 nd rfl (ed_callM T.gcd (ad_cons (nm 1 (ad_cons (nm 2 (ad_nil (cd_gcd ?_))))))))
    refine sds_cons (sd_post (fun S' => S' = [some (.inst C p dx []), some (.val (.int t)), some (.val (.int b)), v, some (.val (.int (gs t b)))]) (sd_if (td_cmp (nm 2 (ed_int (od_lt (kB ?_)))))) ?_)
    · by_cases c : b < 0
      · rw [decide_eq_true c]
        refine sds_cons (sd_set 4 nd rfl (ed_neg (nm 4 ⟨_, rfl, sds_nil ?_⟩)))
        have e : gs t b = -(Nat.gcd t.natAbs b.natAbs : Int) := by unfold gs; rw [if_neg (by omega)]
        rw [e]
        rfl
      · rw [decide_eq_false c]
        refine sds_nil ?_
        have e : gs t b = (Nat.gcd t.natAbs b.natAbs : Int) := by unfold gs; rw [if_pos (by omega)]
        rw [e]
        rfl
    · rintro S' rfl
      have gb := gs_bd (t := t) hb bb
      have g0 := gs_ne (t := t) hb
      refine sds_cons (sd_fld 0 [] T.nu.cl T.nT rfl rfl (by decide) (by simp [notInst]; exact nv) (ed_bin (nm 1 (nm 4 (od_fdiv (cdivg g0 gb (by decide)) ?_)))))
      refine sds_cons (sd_fld 0 _ T.nu.cl T.nB rfl rfl (by simp [putD]) (by simp [notInst]; exact nv) (ed_bin (nm 2 (nm 4 (od_fdiv (cdivg g0 gb (by decide)) ?_)))))
      refine sds_nil ⟨_, rfl, ?_⟩
      have e : putD "_bottom" (D.int (b.fdiv (gs t b))) (putD "_top" (D.int (t.fdiv (gs t b))) []) = rf (low t b) := by
        show (if ("_top" : Str) = "_bottom" then _ else (("_top" : Str), D.int _) :: [(("_bottom" : Str), D.int _)]) = _
        rw [if_neg (by decide +kernel)]
        rfl
      rw [e]
      exact q
end
end K46

set_option Elab.async false
set_option linter.all false
set_option maxRecDepth 100000
set_option maxHeartbeats 2000000
/-! k46: what a Ratio does -/
namespace K46
open PySem L2 DL
theorem lookT (p : Fr) : (rf p).lookup ("_top" : Str) = some (.int p.1) := rfl
theorem lookB (p : Fr) : (rf p).lookup ("_bottom" : Str) = some (.int p.2) := by
  unfold rf
  rw [List.lookup_cons, show (("_bottom" : Str) == ("_top" : Str)) = false by decide +kernel]
  rfl
/-- a Ratio or an int, and the fraction it is -/
inductive Nr (C : Addr) (n : Nat) : D → Fr → Prop
  | rat (p) (h : Bd n p) : Nr C n (Ra C p) p
  | int (i : Int) (h : i.natAbs < 2 ^ n) (h1 : 1 < 2 ^ n) : Nr C n (.int i) (i, 1)
theorem Nr.bd {C : Addr} {n : Nat} {x : D} {p : Fr} (h : Nr C n x p) : Bd n p := by
  cases h with
  | rat p h => exact h
  | int i h h1 => exact ⟨h, h1, Int.one_pos⟩
def addF (p q : Fr) : Fr := low (p.1 * q.2 + q.1 * p.2) (p.2 * q.2)
def subF (p q : Fr) : Fr := low (p.1 * q.2 - q.1 * p.2) (p.2 * q.2)
def mulF (p q : Fr) : Fr := low (p.1 * q.1) (p.2 * q.2)
def overF (p q : Fr) : Fr := low (p.1 * q.2) (p.2 * q.1)
def sgF (p : Fr) : Int := if p.1 > 0 then 1 else if p.1 < 0 then -1 else 0
abbrev sp1 (C : Addr) (f : Fr → D) : SpD := fun as Q => ∃ p, as = [.val (Ra C p)] ∧ Q (f p)
/-- .. of a fraction that is not great -/
abbrev sp1b (C : Addr) (n : Nat) (f : Fr → D) : SpD := fun as Q => ∃ p, as = [.val (Ra C p)] ∧ Bd n p ∧ Q (f p)
abbrev spRat (C : Addr) : SpD := fun as Q => ∃ x p, as = [.val x] ∧ Nr C 3000 x p ∧ Q (Ra C p)
abbrev spOp (C : Addr) (f : Fr → Fr → D) : SpD := fun as Q => ∃ p x q, as = [.val (Ra C p), .val x] ∧ Bd 3000 p ∧ Nr C 3000 x q ∧ Q (f p q)
/-- what a Ratio's method stands on -/
structure Rt (P : Program) (w : World) (K : PySem.W.Frag) (mg : Str → Option Value) (base : Heap) (C : Addr) : Prop where
  T : Txt K mg C
  mk2 : Kl P w K mg base "Ratio" C 2 [] spInit
  mk1 : Kl P w K mg base "Ratio" C 2 [.int 1] spInit
  top : Pr P w K mg base C "top" 1 (sp1 C fun p => .int p.1)
  bot : Pr P w K mg base C "bottom" 1 (sp1 C fun p => .int p.2)
section
variable {P : Program} {w : World} {K : PySem.W.Frag} {mg : Str → Option Value} {base : Heap} {C : Addr}
section
variable {X : Cx} {B : Hp} {S : En} {pos : Pos} {Q : D → Prop} {o : Expr}
/-- o._top, o._bottom -/
theorem fT {p : Fr} (T : Txt X.K X.mg C) (h : ED X B S o fun x => x = Ra C p ∧ Q (.int p.1)) (hb : attributeBase o "_top" X.env (eval o X.env) = eval o X.env := by rfl) : ED X B S (.Attribute o "_top" pos) Q :=
  ed_fld T.nu.cl T.nT (fun σ W H r R c => h σ W H r R fun d v W' H' s ok n ⟨e, q⟩ => c d v W' H' s ok n ⟨rf p, .int p.1, e, lookT p, q⟩) hb
theorem fB {p : Fr} (T : Txt X.K X.mg C) (h : ED X B S o fun x => x = Ra C p ∧ Q (.int p.2)) (hb : attributeBase o "_bottom" X.env (eval o X.env) = eval o X.env := by rfl) : ED X B S (.Attribute o "_bottom" pos) Q :=
  ed_fld T.nu.cl T.nB (fun σ W H r R c => h σ W H r R fun d v W' H' s ok n ⟨e, q⟩ => c d v W' H' s ok n ⟨rf p, .int p.2, e, lookB p, q⟩) hb
/-- o.top, o.bottom -/
theorem pT {p : Fr} (V : Rt X.prog X.w X.K X.mg X.base C) (hr : Room 2 X.A) (hG : X.A.guards = some (gOf X)) (h : ED X B S o fun x => x = Ra C p ∧ Q (.int p.1)) (hb : attributeBase o "top" X.env (eval o X.env) = eval o X.env := by rfl) : ED X B S (.Attribute o "top" pos) Q :=
  ed_prop V.T.nu.cl V.top hr hG (fun σ W H r R c => h σ W H r R fun d v W' H' s ok n ⟨e, q⟩ => c d v W' H' s ok n ⟨rf p, e, p, by rw [e], q⟩) hb
theorem pB {p : Fr} (V : Rt X.prog X.w X.K X.mg X.base C) (hr : Room 2 X.A) (hG : X.A.guards = some (gOf X)) (h : ED X B S o fun x => x = Ra C p ∧ Q (.int p.2)) (hb : attributeBase o "bottom" X.env (eval o X.env) = eval o X.env := by rfl) : ED X B S (.Attribute o "bottom" pos) Q :=
  ed_prop V.T.nu.cl V.bot hr hG (fun σ W H r R c => h σ W H r R fun d v W' H' s ok n ⟨e, q⟩ => c d v W' H' s ok n ⟨rf p, e, p, by rw [e], q⟩) hb
end
theorem sc_top : FnScope ["self"] ["self"] (defScope (rat 1)) := ⟨rfl, rfl, rfl, by decide +kernel, rfl, by decide +kernel, by decide +kernel⟩
theorem ok_top {f : Addr} {fd : FuncData} (F : FunS K "top" "Ratio.top" (rat 1) f fd) (T : Txt K mg C) : GnOk P w K mg base 1 f fd ["self"] (lift K (sp1 C fun p => .int p.1)) := by
  refine gn_dl F sc_top (fun as Q h => by obtain ⟨d, rfl, _⟩ := h; rfl) (fun cdv A outer s H hr hG W as Q h => ?_)
  obtain ⟨p, rfl, q⟩ := h
  exact sds_cons (sd_ret (fT T (nm 0 ⟨rfl, q⟩)))
theorem sc_bot : FnScope ["self"] ["self"] (defScope (rat 2)) := ⟨rfl, rfl, rfl, by decide +kernel, rfl, by decide +kernel, by decide +kernel⟩
theorem ok_bot {f : Addr} {fd : FuncData} (F : FunS K "bottom" "Ratio.bottom" (rat 2) f fd) (T : Txt K mg C) : GnOk P w K mg base 1 f fd ["self"] (lift K (sp1 C fun p => .int p.2)) := by
  refine gn_dl F sc_bot (fun as Q h => by obtain ⟨d, rfl, _⟩ := h; rfl) (fun cdv A outer s H hr hG W as Q h => ?_)
  obtain ⟨p, rfl, q⟩ := h
  exact sds_cons (sd_ret (fB T (nm 0 ⟨rfl, q⟩)))
theorem sc_sign : FnScope ["self"] ["self"] (defScope (rat 3)) := ⟨rfl, rfl, rfl, by decide +kernel, rfl, by decide +kernel, by decide +kernel⟩
theorem ok_sign {f : Addr} {fd : FuncData} (F : FunS K "sign" "Ratio.sign" (rat 3) f fd) (T : Txt K mg C) : GnOk P w K mg base 1 f fd ["self"] (lift K (sp1 C fun p => .int (sgF p))) := by
  refine gn_dl F sc_sign (fun as Q h => by obtain ⟨d, rfl, _⟩ := h; rfl) (fun cdv A outer s H hr hG W as Q h => ?_)
  obtain ⟨p, rfl, q⟩ := h
  refine sds_cons (sd_if (td_cmp (fT T (nm 0 ⟨rfl, ed_int (od_gt (kB ?_))⟩))))
  have q : Q (.int (sgF p)) := q
  unfold sgF at q
  by_cases c : p.1 > 0
  · rw [if_pos c] at q
    rw [decide_eq_true (show 0 < p.1 from c)]
    exact sds_cons (sd_ret (ed_int q))
  · rw [if_neg c] at q
    rw [decide_eq_false (show ¬ 0 < p.1 from c)]
    refine sds_nil (sds_cons (sd_ret (ed_ifx (td_cmp (fT T (nm 0 ⟨rfl, ed_int (od_lt (kB ?_))⟩))))))
    by_cases e : p.1 < 0
    · rw [if_pos e] at q
      rw [decide_eq_true e]
      exact ed_neg (ed_int ⟨_, rfl, q⟩)
    · rw [if_neg e] at q
      rw [decide_eq_false e]
      exact ed_int q
theorem sc_ratof : FnScope ["value"] ["value"] (defScope sRatioOf) := ⟨rfl, rfl, rfl, by decide +kernel, rfl, by decide +kernel, by decide +kernel⟩
theorem ok_ratof {f : Addr} {fd : FuncData} (F : FunS K "ratio_of" "ratio_of" sRatioOf f fd) (V : Rt P w K mg base C) : GnOk P w K mg base 4 f fd ["value"] (lift K (spRat C)) := by
  refine gn_dl F sc_ratof (fun as Q h => by obtain ⟨d, _, rfl, _⟩ := h; rfl) (fun cdv A outer s H hr hG W as Q h => ?_)
  obtain ⟨x, p, rfl, n, q⟩ := h
  have T := V.T
  cases n with
  | rat p h =>
    obtain ⟨t, ty, _, _, h3⟩ := (Kn.rat (C := C) p).ty T
    refine sds_cons (sd_ret (ed_ifx (td_val (ed_callB T.isi (ad_cons (nm 0 (ad_cons (ed_cls T.mC (ad_nil (cd_isi ty (.cls _) h3 (kB ?_)))))))))))
    exact nm 0 q
  | int i h h1 =>
    obtain ⟨t, ty, _, _, h3⟩ := (Kn.int (C := C) i).ty T
    refine sds_cons (sd_ret (ed_ifx (td_val (ed_callB T.isi (ad_cons (nm 0 (ad_cons (ed_cls T.mC (ad_nil (cd_isi ty (.cls _) h3 (kB ?_)))))))))))
    refine ed_make V.mk1 hr hG (ad_cons (nm 0 (ad_nil ⟨i, 1, rfl, by decide, bd_mono h (by decide), bd_mono (m := 1) (by decide) (by decide), ?_⟩)))
    rw [low_one]
    exact q
end
end K46

set_option Elab.async false
set_option linter.all false
set_option maxRecDepth 100000
set_option maxHeartbeats 2000000
/-! k46: the operators, the comparisons, the texts of a Ratio -/
namespace K46
open PySem L2 DL
section
variable {P : Program} {w : World} {K : PySem.W.Frag} {mg : Str → Option Value} {base : Heap} {C : Addr}
theorem mk_ok {n : Nat} {t b : Int} {Q : List (Str × D) → Prop} (hb : b ≠ 0) (h1 : t.natAbs < 2 ^ n) (h2 : b.natAbs < 2 ^ n) (hn : n ≤ 8000) (q : Q (rf (low t b))) : spInit [.val (.int t), .val (.int b)] Q :=
  ⟨t, b, rfl, hb, bd_mono h1 hn, bd_mono h2 hn, q⟩
theorem mul_ne {a b : Int} (h : a ≠ 0) (k : b ≠ 0) : a * b ≠ 0 := Int.mul_ne_zero h k
theorem Bd.ne {n : Nat} {p : Fr} (h : Bd n p) : p.2 ≠ 0 := by have := h.pos; omega
theorem cm {m n : Nat} {a b : Int} (h : a.natAbs < 2 ^ m) (k : b.natAbs < 2 ^ n) (hm : m ≤ 3000 := by decide) (hn : n ≤ 3000 := by decide) : CMulX a b := cmul h k (by omega) (by omega)
theorem sc_add : FnScope ["self", "other", "right", "top"] ["self", "other"] (defScope (rat 5)) := ⟨rfl, rfl, rfl, by decide +kernel, rfl, by decide +kernel, by decide +kernel⟩
theorem ok_add {f : Addr} {fd : FuncData} (F : FunS K "__add__" "Ratio.__add__" (rat 5) f fd) (V : Rt P w K mg base C) (G : Df P w K mg base "ratio_of" 4 1 (spRat C)) : GnOk P w K mg base 5 f fd ["self", "other"] (lift K (spOp C fun p q => Ra C (addF p q))) := by
  refine gn_dl F sc_add (fun as Q h => by obtain ⟨_, _, _, rfl, _⟩ := h; rfl) (fun cdv A outer s H hr hG W as Q h => ?_)
  obtain ⟨p, x, q, rfl, hp, hx, k⟩ := h
  have T := V.T
  have hq := hx.bd
  have r2 := hr.mono (j := 2) (by decide)
  have nd := sc_add.nd
  refine sds_cons (sd_set 2 nd rfl (ed_call G hr hG (ad_cons (nm 1 (ad_nil ⟨x, q, rfl, hx, ?_⟩)))))
  refine sds_cons (sd_set 3 nd rfl (ed_bin (ed_bin (fT T (nm 0 ⟨rfl, pB V r2 hG (nm 2 ⟨rfl, od_mul (cm hp.t hq.b) (ed_bin (pT V r2 hG (nm 2 ⟨rfl, fB T (nm 0 ⟨rfl, od_mul (cm hq.t hp.b) (od_add ?_)⟩)⟩)))⟩)⟩)))))
  refine sds_cons (sd_ret (ed_makeA V.mk2 (hr.mono (by decide)) hG (ad_cons (nm 3 (ad_cons (ed_bin (fB T (nm 0 ⟨rfl, pB V r2 hG (nm 2 ⟨rfl, od_mul (cm hp.b hq.b) (ad_nil (mk_ok (n := 6001) (mul_ne hp.ne hq.ne) (add_bd (mul_bd hp.t hq.b) (mul_bd hq.t hp.b)) (bd_mono (mul_bd hp.b hq.b) (by decide)) (by decide) ?_))⟩)⟩))))))))
  exact k
theorem sc_mul : FnScope ["self", "other", "right"] ["self", "other"] (defScope (rat 9)) := ⟨rfl, rfl, rfl, by decide +kernel, rfl, by decide +kernel, by decide +kernel⟩
theorem ok_mul {f : Addr} {fd : FuncData} (F : FunS K "__mul__" "Ratio.__mul__" (rat 9) f fd) (V : Rt P w K mg base C) (G : Df P w K mg base "ratio_of" 4 1 (spRat C)) : GnOk P w K mg base 5 f fd ["self", "other"] (lift K (spOp C fun p q => Ra C (mulF p q))) := by
  refine gn_dl F sc_mul (fun as Q h => by obtain ⟨_, _, _, rfl, _⟩ := h; rfl) (fun cdv A outer s H hr hG W as Q h => ?_)
  obtain ⟨p, x, q, rfl, hp, hx, k⟩ := h
  have T := V.T
  have hq := hx.bd
  have r2 := hr.mono (j := 2) (by decide)
  have nd := sc_mul.nd
  refine sds_cons (sd_set 2 nd rfl (ed_call G hr hG (ad_cons (nm 1 (ad_nil ⟨x, q, rfl, hx, ?_⟩)))))
  refine sds_cons (sd_ret (ed_makeA V.mk2 (hr.mono (by decide)) hG (ad_cons (ed_bin (fT T (nm 0 ⟨rfl, pT V r2 hG (nm 2 ⟨rfl, od_mul (cm hp.t hq.t) (ad_cons (ed_bin (fB T (nm 0 ⟨rfl, pB V r2 hG (nm 2 ⟨rfl, od_mul (cm hp.b hq.b) (ad_nil (mk_ok (n := 6000) (mul_ne hp.ne hq.ne) (mul_bd hp.t hq.t) (mul_bd hp.b hq.b) (by decide) ?_))⟩)⟩))))⟩)⟩))))))
  exact k
/-! an int on the left -/
abbrev spOver (C : Addr) : SpD := fun as Q => ∃ p x q, as = [.val (Ra C p), .val x] ∧ Bd 3000 p ∧ Nr C 3000 x q ∧ q.1 ≠ 0 ∧ Q (Ra C (overF p q))
theorem sc_radd : FnScope ["self", "other"] ["self", "other"] (defScope (rat 6)) := ⟨rfl, rfl, rfl, by decide +kernel, rfl, by decide +kernel, by decide +kernel⟩
theorem ok_radd {f : Addr} {fd : FuncData} (F : FunS K "__radd__" "Ratio.__radd__" (rat 6) f fd) (V : Rt P w K mg base C) (G : Df P w K mg base "ratio_of" 4 1 (spRat C)) (M : Sm P w K mg base C "__add__" 5 (spOp C fun p q => Ra C (addF p q))) : GnOk P w K mg base 6 f fd ["self", "other"] (lift K (spOp C fun p q => Ra C (addF q p))) := by
  refine gn_dl F sc_radd (fun as Q h => by obtain ⟨_, _, _, rfl, _⟩ := h; rfl) (fun cdv A outer s H hr hG W as Q h => ?_)
  obtain ⟨p, x, q, rfl, hp, hx, k⟩ := h
  exact sds_cons (sd_ret (ed_bin (ed_call G (hr.mono (by decide)) hG (ad_cons (nm 1 (ad_nil ⟨x, q, rfl, hx, nm 0 (od_oo V.T.nu M hr hG ⟨q, _, p, rfl, hx.bd, .rat p hp, k⟩)⟩))))))
theorem sc_rmul : FnScope ["self", "other"] ["self", "other"] (defScope (rat 10)) := ⟨rfl, rfl, rfl, by decide +kernel, rfl, by decide +kernel, by decide +kernel⟩
theorem ok_rmul {f : Addr} {fd : FuncData} (F : FunS K "__rmul__" "Ratio.__rmul__" (rat 10) f fd) (V : Rt P w K mg base C) (G : Df P w K mg base "ratio_of" 4 1 (spRat C)) (M : Sm P w K mg base C "__mul__" 5 (spOp C fun p q => Ra C (mulF p q))) : GnOk P w K mg base 6 f fd ["self", "other"] (lift K (spOp C fun p q => Ra C (mulF q p))) := by
  refine gn_dl F sc_rmul (fun as Q h => by obtain ⟨_, _, _, rfl, _⟩ := h; rfl) (fun cdv A outer s H hr hG W as Q h => ?_)
  obtain ⟨p, x, q, rfl, hp, hx, k⟩ := h
  exact sds_cons (sd_ret (ed_bin (ed_call G (hr.mono (by decide)) hG (ad_cons (nm 1 (ad_nil ⟨x, q, rfl, hx, nm 0 (od_oo V.T.nu M hr hG ⟨q, _, p, rfl, hx.bd, .rat p hp, k⟩)⟩))))))
/-! of one -/
end
end K46

set_option Elab.async false
set_option linter.all false
set_option maxRecDepth 100000
set_option maxHeartbeats 2000000
/-! k46: Ratio.total, ==, the texts, the shares -/
namespace K46
open PySem L2 DL
section
variable {P : Program} {w : World} {K : PySem.W.Frag} {mg : Str → Option Value} {base : Heap} {C : Addr}
/-! == -/
abbrev spEq (C : Addr) : SpD := fun as Q => ∃ p x, as = [.val (Ra C p), .val x] ∧ ((∃ q, x = Ra C q ∧ Q (.bl (decide (p.1 = q.1) && decide (p.2 = q.2)))) ∨ (∃ i, x = .int i ∧ Q (.bl false)))
theorem sc_eq : FnScope ["self", "other"] ["self", "other"] (defScope (rat 17)) := ⟨rfl, rfl, rfl, by decide +kernel, rfl, by decide +kernel, by decide +kernel⟩
theorem ok_eq {f : Addr} {fd : FuncData} (F : FunS K "__eq__" "Ratio.__eq__" (rat 17) f fd) (T : Txt K mg C) : GnOk P w K mg base 1 f fd ["self", "other"] (lift K (spEq C)) := by
  refine gn_dl F sc_eq (fun as Q h => by obtain ⟨_, _, rfl, _⟩ := h; rfl) (fun cdv A outer s H hr hG W as Q h => ?_)
  obtain ⟨p, x, rfl, h⟩ := h
  rcases h with ⟨q, rfl, k⟩ | ⟨i, rfl, k⟩
  · obtain ⟨t, ty, _, _, h3⟩ := (Kn.rat (C := C) q).ty T
    refine sds_cons (sd_ret (ed_and (ed_callB T.isi (ad_cons (nm 1 (ad_cons (ed_cls T.mC (ad_nil (cd_isi ty (.cls _) h3 (kB ?_))))))))))
    show ED _ _ _ _ _
    refine ed_and (ed_cmp (fT T (nm 0 ⟨rfl, fT T (nm 1 ⟨rfl, od_eqi (kB ?_)⟩)⟩)))
    by_cases c : p.1 = q.1
    · rw [decide_eq_true c] at k ⊢
      rw [Bool.true_and] at k
      show ED _ _ _ _ _
      exact ed_one (ed_cmp (fB T (nm 0 ⟨rfl, fB T (nm 1 ⟨rfl, od_eqi k⟩)⟩)))
    · rw [decide_eq_false c] at k ⊢
      exact k
  · obtain ⟨t, ty, _, _, h3⟩ := (Kn.int (C := C) i).ty T
    refine sds_cons (sd_ret (ed_and (ed_callB T.isi (ad_cons (nm 1 (ad_cons (ed_cls T.mC (ad_nil (cd_isi ty (.cls _) h3 (kB ?_))))))))))
    exact k
/-! texts -/
/-! shares -/
end
end K46

set_option Elab.async false
set_option linter.all false
set_option maxRecDepth 100000
set_option maxHeartbeats 4000000
/-! k46: fractions told by rational numbers -/
namespace K46
open PySem L2 DL
def fr (r : Rat) : Fr := (r.num, (r.den : Int))
theorem low_fr {t b : Int} (h : b ≠ 0) : low t b = fr (Rat.divInt t b) := by
  have dt := gs_dvd_t (t := t) (b := b)
  have db := gs_dvd_b (t := t) (b := b)
  have g0 := gs_ne (t := t) h
  obtain ⟨x, y, e⟩ : ∃ x y, low t b = (x, y) := ⟨_, _, rfl⟩
  have hp := low_pos (t := t) h
  have hg := low_gcd (t := t) h
  rw [e] at hp hg
  have ex : t.fdiv (gs t b) = x := congrArg Prod.fst e
  have ey : b.fdiv (gs t b) = y := congrArg Prod.snd e
  have tx : t = gs t b * x := by rw [← ex, Int.fdiv_eq_ediv_of_dvd dt, Int.mul_ediv_cancel' dt]
  have bx : b = gs t b * y := by rw [← ey, Int.fdiv_eq_ediv_of_dvd db, Int.mul_ediv_cancel' db]
  have hy : (y.natAbs : Int) = y := Int.natAbs_of_nonneg (Int.le_of_lt hp)
  have q : Rat.divInt t b = Rat.divInt x y := (Rat.divInt_eq_divInt_iff h (Int.ne_of_gt hp)).mpr (by
    generalize gs t b = k at tx bx
    rw [tx, bx, Int.mul_assoc, Int.mul_comm x (k * y), Int.mul_assoc, Int.mul_comm x y])
  have nz : y.natAbs ≠ 0 := by have : 0 < y := hp; omega
  have r := Rat.mk_eq_divInt (num := x) (den := y.natAbs) (nz := nz) (c := hg)
  rw [hy] at r
  rw [e, q, ← r]
  show (x, y) = (x, (y.natAbs : Int))
  rw [hy]
theorem fr_ne (r : Rat) : (fr r).2 ≠ 0 := by have := r.den_nz; show (r.den : Int) ≠ 0; omega
theorem fr_val (r : Rat) : Rat.divInt (fr r).1 (fr r).2 = r := Rat.num_divInt_den r
theorem addF_fr (r s : Rat) : addF (fr r) (fr s) = fr (r + s) := by
  unfold addF
  rw [low_fr (Int.mul_ne_zero (fr_ne r) (fr_ne s)), ← Rat.divInt_add_divInt _ _ (fr_ne r) (fr_ne s), fr_val, fr_val]
theorem mulF_fr (r s : Rat) : mulF (fr r) (fr s) = fr (r * s) := by
  unfold mulF
  rw [low_fr (Int.mul_ne_zero (fr_ne r) (fr_ne s)), ← Rat.divInt_mul_divInt, fr_val, fr_val]
abbrev Bq (n : Nat) (r : Rat) : Prop := Bd n (fr r)
theorem Bq.le {m n : Nat} {r : Rat} (a : Bq m r) (k : m ≤ n) : Bq n r := Bd.mono a k
theorem Bq.int {n : Nat} {i : Int} (h : i.natAbs < 2 ^ n) (h1 : 1 ≤ n) : Bq n (i : Rat) := ⟨h, by show (1 : Int).natAbs < 2 ^ n; exact Nat.lt_of_lt_of_le (by decide : 1 < 2 ^ 1) (Nat.pow_le_pow_right (by decide) h1), by show (0 : Int) < 1; decide⟩
/-- a Ratio or an int that is this number -/
inductive Nq (C : Addr) (n : Nat) : D → Rat → Prop
  | rat (r : Rat) (h : Bq n r) : Nq C n (Ra C (fr r)) r
  | int (i : Int) (h : Bq n (i : Rat)) : Nq C n (.int i) (i : Rat)
section
variable {C : Addr} {n m : Nat} {d : D} {r : Rat}
theorem Nq.b (h : Nq C n d r) : Bq n r := by cases h <;> assumption
theorem Nq.nr (h : Nq C n d r) : Nr C n d (fr r) := by
  cases h with
  | rat r h => exact .rat _ h
  | int i h => exact .int i h.t h.b
theorem Nq.mono (h : Nq C n d r) (k : n ≤ m) : Nq C m d r := by
  cases h with
  | rat r h => exact .rat _ (h.le k)
  | int i h => exact .int i (h.le k)
theorem Nq.kn (h : Nq C n d r) : Kn C d := by
  cases h with
  | rat r h => exact .rat _
  | int i h => exact .int i
theorem Nq.num (h : Nq C n d r) : isN d = true := by cases h <;> rfl
end
/-- numbers, each its own -/
def Nqs (C : Addr) (n : Nat) (l : List D) (rs : List Rat) : Prop := Paired (Nq C n) l rs
end K46

set_option Elab.async false
set_option linter.all false
set_option maxRecDepth 100000
set_option maxHeartbeats 2000000
/-! slices of tuples and texts; methods of texts; x[i] += j; tuple(tuple) -/
namespace DL
open PySem L2 PyProof.Rows
section
variable {X : Cx} {B : Hp} {W0 : Wd} {S : En} {pos p2 px p1 p apos cpos tpos : Pos} {Q : D → Prop} {a b c e e2 o : Expr} {es : List Expr} {E : Ends'} {x : Str}
/-- s[i:] of a text -/
theorem ed_slS (h : ED X B S e fun d => ED X B S b fun y => ∃ z : List Nat, ∃ j : Nat, d = .str (SX.S z) ∧ y = .int (j : Int) ∧ z.length ≤ 50000 ∧ Q (.str (SX.S (z.drop j)))) : ED X B S (.Subscript e (.Slice (some b) none none p2) pos) Q := fun σ W H r R k => by
  refine PE.w (pe_slice C8.sl_txt we_pe (po_some we_pe) po_none) ?_
  refine h σ W H r _ fun d v W1 H1 s1 ok1 n1 q1 => ?_
  show WE X b σ H1 _
  refine q1 σ W1 H1 (r.step s1 ok1) _ fun d2 u W2 H2 s2 ok2 n2 q2 => ?_
  obtain ⟨z, j, rfl, rfl, hz, q2⟩ := q2
  cases n1
  cases n2
  refine ⟨_, rfl, SX.S z, rfl, Nat.le_trans (by rw [SX.S_len]; exact hz) (by decide), ?_⟩
  rw [SX.slice_from (by omega), Int.toNat_natCast]
  exact ((k.step s1 ok1).step s2 ok2).now ok2 (.str _) q2
/-! methods of texts -/
section
variable {k0 : Nat}
end
/-- tuple(a tuple) -/
theorem cd_tupleT {l : List D} (q : Q (.tup l)) : CD X (.type "tuple") [.val (.tup l)] Q := cd_of call_tupleT fun vs W H ok ha R c => by
  obtain ⟨v, rfl, h⟩ := one_arg ha
  cases h with
  | tup h m => exact ⟨_, _, rfl, SqT.of (ok.ex _ _ h), c.now ok (.tup h m) q⟩
/-! x[i] += j, x the owner of its list -/
def rGetL (K : PySem.W.Frag) : V → V → Hp → VK → Prop := fun x y H Q => ∃ p xs, ∃ j : Nat, ∃ v, x = .ref p ∧ y = .int (j : Int) ∧ H p = some (.lst xs) ∧ j < 100000 ∧ xs[j]? = some v ∧ Q v H
theorem get_list : PGet X (rGetL X.K) := by
  intro pins s σ H x y v u Q I rx ry h
  obtain ⟨p, xs, j, z, rfl, rfl, hp, hj, he, q⟩ := h
  cases rx
  obtain ⟨t, rfl⟩ := ry
  obtain ⟨its, r, pl, hz⟩ := I.list (SqL.of hp)
  obtain ⟨w, ew, rw'⟩ := r.get he
  exact wpAny_getItem_list pl.isList (by omega) (by omega) (by rw [Int.toNat_natCast]; simpa using ew) ⟨z, H, I, rw', q⟩
theorem sd_augOwn {iv : Expr} (i : Nat) (l : List D) (hN : X.N[i]? = some x) (h : S[i]? = some (some (.own l)))
    (he : ED X B S iv fun d => ∃ j : Nat, ∃ n : Int, d = .int (j : Int) ∧ j < 100000 ∧ l[j]? = some (.int n) ∧ ED X B S e fun y => ∃ m : Int, y = .int m ∧ E.nx (S.set i (some (.own (l.set j (.int (n + m)))))))
    (hps : PS X (.AugAssign (.Subscript (.Name x px) iv tpos) .Add e pos) (tAugS (tVar i) (WE X iv) (WE X e) (rGetL X.K) (ipI fun i j => i + j) rSetL) := by
      exact ps_augS (pe_var (by rfl) (by first | exact Or.inl rfl | exact Or.inr (Or.inl rfl))) DL.we_pe DL.get_list DL.we_pe ip_add set_list) :
    SD X B W0 S (.AugAssign (.Subscript (.Name x px) iv tpos) .Add e pos) E := fun σ W H r z D' k => by
  refine PS.w hps ?_
  obtain ⟨v, e1, p, xs, ev, hB, n0, hI, hH, d0⟩ := r.sl i _ h
  subst ev
  refine ⟨_, e1, ?_⟩
  refine he σ W H r _ fun d v W1 H1 s1 ok1 n1 q1 => ?_
  obtain ⟨j, n, rfl, hj, hl, q1⟩ := q1
  cases n1
  have hH1 : H1 p = some (.lst xs) := s1.keep _ _ hH n0
  have nP : ¬ W1.P p := fun q => n0 (s1.oldP p _ hH q)
  have hI1 : W1.I p = none := s1.old p _ hH (fun _ z => by cases z) hI
  have d1 := d0.mono s1.I
  obtain ⟨v, ex, nv⟩ := d1.get' hl
  cases nv
  refine ⟨p, xs, j, _, rfl, rfl, hH1, hj, ex, ?_⟩
  refine q1 σ W1 H1 (r.step s1 ok1) _ fun d2 u W2 H2 s2 ok2 n2 q2 => ?_
  obtain ⟨m, rfl, q2⟩ := q2
  cases n2
  have hH2 : H2 p = some (.lst xs) := s2.keep _ _ hH1 nP
  have nP2 : ¬ W2.P p := fun q => nP (s2.oldP p _ hH1 q)
  have hI2 : W2.I p = none := s2.old p _ hH1 (fun _ z => by cases z) hI1
  have lt : j < xs.length := (List.getElem?_eq_some_iff.mp ex).1
  refine ⟨n, m, rfl, rfl, p, xs, j, j, rfl, rfl, hH2, ixN_lt lt, ?_⟩
  have de : Dns X.K W2.I (l.set j (.int (n + m))) (xs.set j (.int (n + m))) := Dns.set (.int _) j (d1.mono s2.I)
  exact k.nx _ σ W2 _ (((r.step s1 ok1).step s2 ok2).putOwn h e1 hB nP2 hI2 hH2 de) (stp_upd ((z.trans r.ok s1).trans ok1 s2) hB) (s1.I.trans s2.I) q2
end
end DL

set_option Elab.async false
set_option linter.all false
set_option maxRecDepth 100000
set_option maxHeartbeats 2000000
/-! k46: entries: keys of counts, amounts; sorted by the keys -/
namespace K46
open PySem L2 DL
abbrev Ent := List Int × Rat
theorem code_inj {B : Int} : ∀ {a b : List Int}, a.length = b.length → TS.Bd B a → TS.Bd B b → TS.code B a = TS.code B b → a = b
  | [], [], _, _, _, _ => rfl
  | x :: a, y :: b, hl, ha, hb, e => by
    have hl' : a.length = b.length := Nat.succ.inj hl
    have xy : x = y := by
      rcases Int.lt_trichotomy x y with h | h | h
      · have := TS.code_lt hl' ha.tail hb.tail h; omega
      · exact h
      · have := TS.code_lt hl'.symm hb.tail ha.tail h; omega
    subst xy
    have e' : TS.code B a = TS.code B b := by
      have e2 : x * B ^ a.length + TS.code B a = x * B ^ b.length + TS.code B b := e
      rw [hl'] at e2
      omega
    rw [code_inj hl' ha.tail hb.tail e']
theorem le_sum : ∀ {l : List Int}, (∀ c ∈ l, 0 ≤ c) → 0 ≤ l.sum ∧ ∀ c ∈ l, c ≤ l.sum
  | [], _ => ⟨Int.le_refl _, fun c h => by cases h⟩
  | x :: l, h => by
    obtain ⟨h0, h1⟩ := le_sum (l := l) fun c hc => h c (List.mem_cons_of_mem _ hc)
    have hx := h x (List.mem_cons_self ..)
    rw [List.sum_cons]
    refine ⟨by omega, fun c hc => ?_⟩
    rcases List.mem_cons.mp hc with rfl | hc
    · omega
    · have := h1 c hc; omega
/-- keys of m counts that make n, amounts above nought -/
structure GE (m n b : Nat) (es : List Ent) : Prop where
  len : ∀ e ∈ es, e.1.length = m
  nn : ∀ e ∈ es, ∀ c ∈ e.1, 0 ≤ c
  sum : ∀ e ∈ es, e.1.sum = (n : Int)
  pos : ∀ e ∈ es, 0 < e.2
  bq : ∀ e ∈ es, Bq b e.2
  nd : (es.map (·.1)).Nodup
  ln : es.length ≤ 60
theorem GE.nil {m n b : Nat} : GE m n b [] := ⟨nofun, nofun, nofun, nofun, nofun, .nil, by simp⟩
theorem GE.perm {m n b : Nat} {es fs : List Ent} (h : GE m n b es) (p : fs.Perm es) : GE m n b fs :=
  ⟨fun e he => h.len e (p.mem_iff.mp he), fun e he => h.nn e (p.mem_iff.mp he), fun e he => h.sum e (p.mem_iff.mp he), fun e he => h.pos e (p.mem_iff.mp he), fun e he => h.bq e (p.mem_iff.mp he), (p.map _).nodup_iff.mpr h.nd, by rw [p.length_eq]; exact h.ln⟩
theorem GE.cnt {m n b : Nat} {es : List Ent} (h : GE m n b es) {e : Ent} (he : e ∈ es) {c : Int} (hc : c ∈ e.1) : 0 ≤ c ∧ c ≤ n := ⟨h.nn e he c hc, by rw [← h.sum e he]; exact (le_sum (h.nn e he)).2 c hc⟩
theorem GE.bd {m n b : Nat} {es : List Ent} (h : GE m n b es) (hn : n ≤ 8) {e : Ent} (he : e ∈ es) : TS.Bd 9 e.1 := fun c hc => by have := h.cnt he hc; omega
theorem GE.mono {m n b c : Nat} {es : List Ent} (h : GE m n b es) (k : b ≤ c) : GE m n c es := ⟨h.len, h.nn, h.sum, h.pos, fun e he => (h.bq e he).le k, h.nd, h.ln⟩
def leE (a b : Ent) : Bool := decide (TS.code 9 a.1 ≤ TS.code 9 b.1)
def srt (es : List Ent) : List Ent := es.mergeSort leE
theorem srt_perm (es : List Ent) : (srt es).Perm es := List.mergeSort_perm _ _
theorem srt_pair (es : List Ent) : (srt es).Pairwise fun a b => TS.code 9 a.1 ≤ TS.code 9 b.1 := by
  have := List.pairwise_mergeSort (le := leE) (fun a b c h1 h2 => by unfold leE at *; simp at *; omega) (fun a b => by unfold leE; simp; omega) es
  exact this.imp fun h => by simpa [leE] using h
theorem nd_inj {es : List Ent} (h : (es.map (·.1)).Nodup) {a b : Ent} (ha : a ∈ es) (hb : b ∈ es) (e : a.1 = b.1) : a = b := by
  induction es with
  | nil => cases ha
  | cons x es ih =>
    rw [List.map_cons, List.nodup_cons] at h
    rcases List.mem_cons.mp ha with ha1 | ha1 <;> rcases List.mem_cons.mp hb with hb1 | hb1
    · rw [ha1, hb1]
    · exact absurd (by rw [← ha1, e]; exact List.mem_map_of_mem hb1) h.1
    · exact absurd (by rw [← hb1, ← e]; exact List.mem_map_of_mem ha1) h.1
    · exact ih h.2 ha1 hb1
theorem uniq {m n b : Nat} {es fs : List Ent} (h : GE m n b es) (hn : n ≤ 8) (p : fs.Perm es) (h1 : fs.Pairwise fun a b => TS.code 9 a.1 ≤ TS.code 9 b.1) (h2 : es.Pairwise fun a b => TS.code 9 a.1 ≤ TS.code 9 b.1) : fs = es :=
  List.Perm.eq_of_pairwise (fun a b ha hb l1 l2 => by
    have ha' := p.mem_iff.mp ha
    exact nd_inj h.nd ha' hb (code_inj (by rw [h.len a ha', h.len b hb]) (h.bd hn ha') (h.bd hn hb) (by omega))) h1 h2 p
theorem srt_eq {m n b : Nat} {es fs : List Ent} (h : GE m n b es) (hn : n ≤ 8) (p : fs.Perm es) (h1 : fs.Pairwise fun a b => TS.code 9 a.1 ≤ TS.code 9 b.1) : fs = srt es :=
  uniq (h.perm (srt_perm es)) hn (p.trans (srt_perm es).symm) h1 (srt_pair es)
theorem srt_congr {m n b : Nat} {es fs : List Ent} (h : GE m n b es) (hn : n ≤ 8) (p : fs.Perm es) : srt fs = srt es := srt_eq h hn ((srt_perm fs).trans p) (srt_pair fs)
theorem srt_srt {m n b : Nat} {es : List Ent} (h : GE m n b es) (hn : n ≤ 8) : srt (srt es) = srt es := srt_congr h hn (srt_perm es)
theorem srt_ge {m n b : Nat} {es : List Ent} (h : GE m n b es) : GE m n b (srt es) := h.perm (srt_perm es)
theorem srt_nil : srt [] = [] := by simp [srt]
/-- the keys, sorted -/
theorem keys_srt {m n b : Nat} {es : List Ent} (h : GE m n b es) (hn : n ≤ 8) {ks : List (List Int)} (p : ks.Perm (es.map (·.1))) (h1 : ks.Pairwise fun a b => TS.code 9 a ≤ TS.code 9 b) : ks = (srt es).map (·.1) := by
  refine List.Perm.eq_of_pairwise (le := fun a b => TS.code 9 a ≤ TS.code 9 b) (fun a b ha hb l1 l2 => ?_) h1 (List.pairwise_map.mpr (srt_pair es)) (p.trans ((srt_perm es).map _).symm)
  obtain ⟨x, hx, rfl⟩ := List.mem_map.mp (p.mem_iff.mp ha)
  obtain ⟨y, hy, rfl⟩ := List.mem_map.mp hb
  have hy' := (srt_perm es).mem_iff.mp hy
  exact code_inj (by rw [h.len x hx, h.len y hy']) (h.bd hn hx) (h.bd hn hy') (by omega)
/-! as dicts, as lists -/
section
variable (C : Addr)
def kvD (es : List Ent) : List (List Key × D) := es.map fun e => (ik e.1, Ra C (fr e.2))
def enD (es : List Ent) : List D := es.map fun e => .tup [tI e.1, Ra C (fr e.2)]
end
section
variable {C : Addr}
theorem ik_inj {a b : List Int} (h : ik a = ik b) : a = b := by
  exact (List.map_inj_right (f := (Sum.inl : Int → Key)) fun x y e => by cases e; rfl).mp h
theorem kvD_keys {es : List Ent} : (kvD C es).map (·.1) = (es.map (·.1)).map ik := by unfold kvD; rw [List.map_map, List.map_map]; rfl
theorem kvD_len {es : List Ent} : (kvD C es).length = es.length := by unfold kvD; rw [List.length_map]
theorem look_kvD {es : List Ent} (h : (es.map (·.1)).Nodup) {e : Ent} (he : e ∈ es) : look (kvD C es) (ik e.1) = some (Ra C (fr e.2)) := by
  induction es with
  | nil => cases he
  | cons x es ih =>
    rw [List.map_cons, List.nodup_cons] at h
    show Option.map _ (List.find? _ ((ik x.1, Ra C (fr x.2)) :: kvD C es)) = _
    by_cases c : ik x.1 = ik e.1
    · rw [List.find?_cons_of_pos (by simpa using c)]
      have c' := ik_inj c
      rcases List.mem_cons.mp he with rfl | he'
      · rfl
      · exact absurd (by rw [c']; exact List.mem_map_of_mem he') h.1
    · rw [List.find?_cons_of_neg (by simpa using c)]
      rcases List.mem_cons.mp he with rfl | he'
      · exact absurd rfl c
      · exact ih h.2 he'
theorem look_no {es : List Ent} {k : List Int} (h : k ∉ es.map (·.1)) : look (kvD C es) (ik k) = none := by
  unfold look
  rw [List.find?_eq_none.mpr]
  · rfl
  · intro p hp
    unfold kvD at hp
    obtain ⟨e, he, rfl⟩ := List.mem_map.mp hp
    simp only [decide_eq_true_eq]
    exact fun z => h (by rw [← ik_inj z]; exact List.mem_map_of_mem he)
theorem put_kvD {es : List Ent} {k : List Int} {r : Rat} (h : k ∉ es.map (·.1)) : putE (kvD C es) (ik k) (Ra C (fr r)) = kvD C (es ++ [(k, r)]) := by
  rw [putE_new]
  · unfold kvD; rw [List.map_append]; rfl
  · rw [kvD_keys]
    intro z
    obtain ⟨x, hx, e⟩ := List.mem_map.mp z
    exact h (by rw [← ik_inj e]; exact hx)
end
/-! the weight of a key -/
def pK : List Int → Nat
  | [] => 1
  | c :: k => fac c.toNat * pK k
def divE (e : Ent) : Ent := (e.1, e.2 / (pK e.1 : Rat))
def mulE (e : Ent) : Ent := (e.1, e.2 * (pK e.1 : Rat))
end K46

set_option Elab.async false
set_option linter.all false
set_option maxRecDepth 100000
set_option maxHeartbeats 2000000
/-! for x, y in zip(a, b) -/
namespace DL
open PySem L2 PyProof.Rows
section
variable {X : Cx} {B : Hp} {W0 : Wd} {S : En} {pos p p1 : Pos} {e e2 : Expr} {E : Ends'}
end
end DL

set_option Elab.async false
set_option linter.all false
set_option maxRecDepth 100000
set_option maxHeartbeats 4000000
/-! k46: the checks -/
namespace K46
open PySem L2 DL
section
variable {P : Program} {w : World} {K : PySem.W.Frag} {mg : Str → Option Value} {base : Heap} {C : Addr}
theorem un1 {k : Nat} {A : Around} (r : Room k A) : A.units + 1 < cLine := by have := r.units; omega
theorem un2 {k : Nat} {A : Around} (r : Room k A) : A.units + 2 < cLine := by have := r.units; omega
theorem all_true (n : Nat) : (List.replicate n true).all id = true := by induction n with
  | zero => rfl
  | succ n ih => rw [List.replicate_succ, List.all_cons, ih]; rfl
theorem trues : ∀ {out : List D}, (∀ y ∈ out, y = .bl true) → out = (List.replicate out.length true).map D.bl
  | [], _ => rfl
  | y :: out, h => by
    rw [List.length_cons, List.replicate_succ, List.map_cons, ← trues fun y hy => h y (List.mem_cons_of_mem _ hy), h y (List.mem_cons_self ..)]
theorem cd_allT {X : Cx} {Q : D → Prop} {out : List D} (hc : X.calm = true) (h : ∀ y ∈ out, y = .bl true) (q : Q (.bl true)) : CD X (.builtin "all") [.val (.lst out)] Q := by
  rw [trues h]
  exact cd_all hc (by rw [all_true]; exact q)
theorem paired_true : ∀ {α : Type} {l : List α} {out : List D}, Paired (fun _ y => y = D.bl true) l out → ∀ y ∈ out, y = .bl true
  | _, _, _, .nil, y, h => by cases h
  | _, _, _, .cons a b, y, h => by
    rcases List.mem_cons.mp h with rfl | h
    · exact a
    · exact paired_true b y h
abbrev spCounts : SpD := fun as Q => ∃ d, ∃ k : List Int, ∃ m : Nat, as = [.val d, .val (.int (m : Int))] ∧ SeqD d (k.map D.int) ∧ k.length = m ∧ m ≤ 100 ∧ (∀ c ∈ k, (0 : Int) ≤ c) ∧ Q (.bl true)
theorem sc_counts : FnScope ["value", "many", "count"] ["value", "many"] (defScope (top 6)) := ⟨rfl, rfl, rfl, by decide +kernel, rfl, by decide +kernel, by decide +kernel⟩
theorem ok_counts {f : Addr} {fd : FuncData} (F : FunS K "is_counts" "is_counts" (top 6) f fd) (T : Txt K mg C) (L : Df P w K mg base "is_list" 1 1 spL) (G : Df P w K mg base "is_count" 2 1 (spB C isC)) : GnOk P w K mg base 3 f fd ["value", "many"] (lift K spCounts) := by
  refine gn_dl F sc_counts (fun as Q h => by obtain ⟨_, _, _, rfl, _⟩ := h; rfl) (fun cdv A outer s H hr hG W as Q h => ?_)
  obtain ⟨d, k, m, rfl, sd, hl, hm, nn, q⟩ := h
  have nd := sc_counts.nd
  refine sds_cons (sd_ret (ed_and (ed_call L (hr.mono (j := 1) (by decide)) hG (ad_cons (nm 0 (ad_nil ⟨d, _, rfl, sd, kB ?_⟩))))))
  show ED _ _ _ _ _
  refine ed_and (ed_cmp (ed_callB T.len (ad_cons (nm 0 (ad_nil (cd_len sd (nm 1 (od_eqi (kB ?_)))))))))
  rw [decide_eq_true (by rw [List.length_map, hl])]
  show ED _ _ _ _ _
  refine ed_one (ed_callB T.all (ad_cons (ed_fd (fd_relS (fun _ y => y = .bl true) 2 (own := [("count", 2)]) rfl nd (blkOk_by (by show blkC ["value", "many", "count"] (defScope (top 6)) _ _ = true; decide +kernel)) (fun _ _ _ _ _ => pg_name (i := 2) nd rfl (Or.inl rfl)) sd (by rw [List.length_map]; omega) (nm 0 rfl) (by simp) ?_ ?_))))
  · intro d hd s2 H0 C2 cl fp
    obtain ⟨c, hc, rfl⟩ := List.mem_map.mp hd
    exact ed_call G (hr.mono (j := 2) (by decide)) hG (ad_cons (nm 2 (ad_nil ⟨_, rfl, .int c, by show D.bl (decide (0 ≤ c)) = _; rw [decide_eq_true (nn c hc)]⟩)))
  · intro out ho
    exact ad_nil (cd_allT rfl (paired_true ho) q)
/-! a number above nought -/
theorem num_pos {r : Rat} (h : 0 < r) : 0 < (fr r).1 := by
  have h1 : 0 ≤ r.num := Rat.num_nonneg.mpr (Rat.le_of_lt h)
  have h2 : r.num ≠ 0 := fun z => by rw [Rat.num_eq_zero.mp z] at h; exact absurd h (by decide)
  show 0 < r.num
  omega
theorem sg_pos {r : Rat} (h : 0 < r) : sgF (fr r) = 1 := by unfold sgF; rw [if_pos (num_pos h)]
theorem pS {X : Cx} {B : Hp} {S : En} {pos : Pos} {Q : D → Prop} {o : Expr} {p : Fr} (T : Txt X.K X.mg C) (G : Pr X.prog X.w X.K X.mg X.base C "sign" 1 (sp1 C fun p => .int (sgF p))) (hr : Room 2 X.A) (hG : X.A.guards = some (gOf X)) (h : ED X B S o fun x => x = Ra C p ∧ Q (.int (sgF p))) (hb : attributeBase o "sign" X.env (eval o X.env) = eval o X.env := by rfl) : ED X B S (.Attribute o "sign" pos) Q :=
  ed_prop T.nu.cl G hr hG (fun σ W H r R c => h σ W H r R fun d v W' H' s ok n ⟨e, q⟩ => c d v W' H' s ok n ⟨rf p, e, p, by rw [e], q⟩) hb
abbrev spAbove (C : Addr) : SpD := fun as Q => ∃ d r, as = [.val d] ∧ Nq C 1000 d r ∧ 0 < r ∧ Q (.bl true)
theorem sc_above : FnScope ["value"] ["value"] (defScope (top 23)) := ⟨rfl, rfl, rfl, by decide +kernel, rfl, by decide +kernel, by decide +kernel⟩
theorem ok_above {f : Addr} {fd : FuncData} (F : FunS K "is_above" "is_above" (top 23) f fd) (T : Txt K mg C) (G : Df P w K mg base "is_number" 2 1 (spB C isN)) (R : Df P w K mg base "ratio_of" 4 1 (spRat C)) (SG : Pr P w K mg base C "sign" 1 (sp1 C fun p => .int (sgF p))) : GnOk P w K mg base 5 f fd ["value"] (lift K (spAbove C)) := by
  refine gn_dl F sc_above (fun as Q h => by obtain ⟨_, _, rfl, _⟩ := h; rfl) (fun cdv A outer s H hr hG W as Q h => ?_)
  obtain ⟨d, r, rfl, hd, h0, q⟩ := h
  refine sds_cons (sd_ret (ed_and (ed_call G (hr.mono (j := 2) (by decide)) hG (ad_cons (nm 0 (ad_nil ⟨d, rfl, hd.kn, kB ?_⟩))))))
  rw [hd.num]
  show ED _ _ _ _ _
  refine ed_one (ed_cmp (pS T SG (hr.mono (j := 2) (by decide)) hG (ed_call R (hr.mono (j := 4) (by decide)) hG (ad_cons (nm 0 (ad_nil ⟨d, _, rfl, (hd.mono (by decide)).nr, rfl, ed_int (od_gt ?_)⟩))))))
  rw [sg_pos h0]
  exact q
/-! letters -/
structure LetZ (z : List Nat) : Prop where
  l1 : 1 ≤ z.length
  l8 : z.length ≤ 8
  lo : ∀ c ∈ z, 97 ≤ c ∧ c ≤ 122
  up : z.Pairwise (· < ·)
theorem LetZ.asc {z : List Nat} (h : LetZ z) : (SX.S z).cps.all (· < 128) = true := by
  rw [Array.all_eq_true_iff_forall_mem]
  intro c hc
  have := h.lo c (by simpa using hc)
  simp only [decide_eq_true_eq]
  omega
theorem lt1 {c d : Nat} : ((SX.S [c]).cps.toList < (SX.S [d]).cps.toList) ↔ c < d := by
  show [c] < [d] ↔ _
  rw [List.cons_lt_cons_iff]
  constructor
  · rintro (h | ⟨_, h⟩)
    · exact h
    · exact absurd h (List.lt_irrefl _)
  · exact .inl
abbrev spSmall : SpD := fun as Q => ∃ c : Nat, as = [.val (.str (sg c))] ∧ 97 ≤ c ∧ c ≤ 122 ∧ Q (.bl true)
theorem sc_small : FnScope ["value"] ["value"] (defScope (top 7)) := ⟨rfl, rfl, rfl, by decide +kernel, rfl, by decide +kernel, by decide +kernel⟩
theorem ok_small {f : Addr} {fd : FuncData} (F : FunS K "is_small_letter" "is_small_letter" (top 7) f fd) (T : Txt K mg C) : GnOk P w K mg base 1 f fd ["value"] (lift K spSmall) := by
  refine gn_dl F sc_small (fun as Q h => by obtain ⟨_, rfl, _⟩ := h; rfl) (fun cdv A outer s H hr hG W as Q h => ?_)
  obtain ⟨c, rfl, h1, h2, q⟩ := h
  refine sds_cons (sd_ret (ed_and (ed_callB T.isi (ad_cons (nm 0 (ad_cons (ed_ty T.str (ad_nil (cd_isi (.str _) (.ty _) (same (by decide +kernel)) (kB ?_))))))))))
  show ED _ _ _ _ _
  refine ed_and (ed_cmp (ed_callB T.len (ad_cons (nm 0 (ad_nil (cd_lenS (z := sg c) (by show 1 ≤ 50000; decide) (ed_int (od_eqi (kB ?_)))))))))
  show ED _ _ _ _ _
  refine ed_one (ed_chain (ed_str (nm 0 (od_leS (kB ?_)))))
  rw [decide_eq_false (fun z => by have := (lt1 (c := c) (d := 97)).mp z; omega)]
  show ED _ _ _ _ _
  refine ed_str (od_leS ?_)
  rw [decide_eq_false (fun z => by have := (lt1 (c := 122) (d := c)).mp z; omega)]
  exact q
abbrev spRising : SpD := fun as Q => ∃ z : List Nat, as = [.val (.str (SX.S z))] ∧ LetZ z ∧ Q (.bl true)
theorem sc_rising : FnScope ["parts", "one", "two"] ["parts"] (defScope (top 8)) := ⟨rfl, rfl, rfl, by decide +kernel, rfl, by decide +kernel, by decide +kernel⟩
theorem ok_rising {f : Addr} {fd : FuncData} (F : FunS K "is_rising" "is_rising" (top 8) f fd) (T : Txt K mg C) : GnOk P w K mg base 1 f fd ["parts"] (lift K spRising) := by
  refine gn_dl F sc_rising (fun as Q h => by obtain ⟨_, rfl, _⟩ := h; rfl) (fun cdv A outer s H hr hG W as Q h => ?_)
  obtain ⟨z, rfl, hz, q⟩ := h
  have nd := sc_rising.nd
  have a2 : (SX.S (z.drop 1)).cps.all (· < 128) = true := by
    rw [Array.all_eq_true_iff_forall_mem]
    intro c hc
    have := hz.lo c (List.mem_of_mem_drop (i := 1) (by rw [List.mem_toArray] at hc; exact hc))
    simp only [decide_eq_true_eq]
    omega
  refine sds_cons (sd_ret (ed_callB T.all (ad_cons (ed_fd (fd_relCC (s := SX.S z) (t := SX.S (z.drop 1)) (fun _ _ y => y = .bl true) 1 2 (own := [("one", 1), ("two", 2)]) rfl nd T.zip (blkOk_by (by show blkC ["parts", "one", "two"] (defScope (top 8)) _ _ = true; decide +kernel)) (fun _ _ _ _ _ => pg_tup rfl (pgs_cons (pg_name (i := 1) nd rfl (Or.inl rfl)) (pgs_cons (pg_name (i := 2) nd rfl (Or.inl rfl)) pgs_nil rfl) rfl)) hz.asc a2 (by have := hz.l8; simp; omega) ?_ (by simp) (by simp) ?_ ?_)))))
  · exact ad_cons (nm 0 (ad_cons (ed_slS (nm 0 (ed_int ⟨z, 1, rfl, rfl, by have := hz.l8; omega, ad_nil rfl⟩)))))
  · intro n c d hc hd s2 H0 C2 cl fp
    have e1 : z[n]? = some c := by simpa using hc
    have e2 : z[n + 1]? = some d := by
      have : (z.drop 1)[n]? = some d := by simpa using hd
      rw [List.getElem?_drop, Nat.add_comm] at this
      exact this
    have lt : c < d := by
      obtain ⟨h1, rfl⟩ := List.getElem?_eq_some_iff.mp e1
      obtain ⟨h2, rfl⟩ := List.getElem?_eq_some_iff.mp e2
      exact List.pairwise_iff_getElem.mp hz.up n (n + 1) h1 h2 (by omega)
    refine ed_cmp (nm 1 (nm 2 (od_ltS ?_)))
    rw [decide_eq_true (lt1.mpr lt)]
  · intro out hl ho
    refine ad_nil (cd_allT rfl (fun y hy => ?_) q)
    obtain ⟨n, hn, rfl⟩ := List.getElem_of_mem hy
    have l1 : n < (SX.S z).cps.size := by omega
    have l2 : n < (SX.S (z.drop 1)).cps.size := by omega
    exact ho n _ _ _ (Array.getElem?_eq_getElem l1) (Array.getElem?_eq_getElem l2) (List.getElem?_eq_getElem hn)
abbrev spLet : SpD := fun as Q => ∃ z : List Nat, as = [.val (.str (SX.S z))] ∧ LetZ z ∧ Q (.bl true)
theorem sc_let : FnScope ["value", "letter"] ["value"] (defScope (top 30)) := ⟨rfl, rfl, rfl, by decide +kernel, rfl, by decide +kernel, by decide +kernel⟩
theorem ok_let {f : Addr} {fd : FuncData} (F : FunS K "is_letters" "is_letters" (top 30) f fd) (T : Txt K mg C) {tk : Tok} (ml : mg "MOST_LETTERS" = some (.int 8 tk)) (RI : Df P w K mg base "is_rising" 1 1 spRising) (SM : Df P w K mg base "is_small_letter" 1 1 spSmall) : GnOk P w K mg base 2 f fd ["value"] (lift K spLet) := by
  refine gn_dl F sc_let (fun as Q h => by obtain ⟨_, rfl, _⟩ := h; rfl) (fun cdv A outer s H hr hG W as Q h => ?_)
  obtain ⟨z, rfl, hz, q⟩ := h
  have nd := sc_let.nd
  have hl : ((SX.S z).length : Int) = (z.length : Int) := by rw [SX.S_len]
  refine sds_cons (sd_if (td_of (tw_or (td_not (td_val (ed_callB T.isi (ad_cons (nm 0 (ad_cons (ed_ty T.str (ad_nil (cd_isi (.str _) (.ty _) (same (by decide +kernel)) (kB ?_)))))))))))))
  show TW _ _ _ _ _
  refine tw_or1 (td_not (td_chain (ed_int (ed_callB T.len (ad_cons (nm 0 (ad_nil (cd_lenS (z := SX.S z) (by rw [SX.S_len]; have := hz.l8; omega) (od_le (kB ?_))))))))))
  rw [hl, decide_eq_true (by have := hz.l1; omega)]
  show ED _ _ _ _ _
  refine ed_gint ml (od_le (kB ?_))
  rw [decide_eq_true (by have := hz.l8; omega)]
  show SDs _ _ _ _ _ _
  refine sds_nil (sds_cons (sd_ret (ed_and (ed_call RI (hr.mono (j := 1) (by decide)) hG (ad_cons (nm 0 (ad_nil ⟨z, rfl, hz, kB ?_⟩)))))))
  show ED _ _ _ _ _
  refine ed_one (ed_callB T.all (ad_cons (ed_fd (fd_relC (s := SX.S z) (fun _ y => y = .bl true) 1 (own := [("letter", 1)]) rfl nd (blkOk_by (by show blkC ["value", "letter"] (defScope (top 30)) _ _ = true; decide +kernel)) (fun _ _ _ _ _ => pg_name (i := 1) nd rfl (Or.inl rfl)) (by have := hz.l8; simp; omega) (nm 0 rfl) (by simp) ?_ ?_))))
  · intro i c hc s2 H0 C2 cl fp
    have hc' : z[i]? = some c := by simpa using hc
    have := hz.lo c (List.mem_of_getElem? hc')
    exact ed_call SM (hr.mono (j := 1) (by decide)) hG (ad_cons (nm 1 (ad_nil ⟨c, rfl, this.1, this.2, rfl⟩)))
  · intro out ho
    exact ad_nil (cd_allT rfl (paired_true ho) q)
/-! one entry -/
abbrev spEntry (C : Addr) : SpD := fun as Q => ∃ kd, ∃ k : List Int, ∃ ad r, ∃ m : Nat, ∃ dg, as = [.val (.tup [kd, ad]), .val (.int (m : Int)), .val dg] ∧ SeqD kd (k.map D.int) ∧ k.length = m ∧ m ≤ 100 ∧ (∀ c ∈ k, (0 : Int) ≤ c) ∧ k.sum ≤ 8 ∧ Nq C 1000 ad r ∧ 0 < r ∧ (dg = .non ∨ dg = .int k.sum) ∧ Q (.bl true)
theorem cd_sumS {X : Cx} {Q : D → Prop} {d : D} {l : List Int} (hc : X.calm = true) (sd : SeqD d (l.map D.int)) (q : Q (.int l.sum)) : CD X (.builtin "sum") [.val d] Q := by
  rcases sd with rfl | rfl
  · exact cd_sumL hc q
  · exact cd_sumT hc q
theorem sc_entry : FnScope ["entry", "many", "degree", "counts", "amount"] ["entry", "many", "degree"] (defScope (top 32)) := ⟨rfl, rfl, rfl, by decide +kernel, rfl, by decide +kernel, by decide +kernel⟩
theorem ok_entry {f : Addr} {fd : FuncData} (F : FunS K "_is_entry" "_is_entry" (top 32) f fd) (T : Txt K mg C) (hsum : mg "sum" = none) {tk : Tok} (md : mg "MOST_DEGREE" = some (.int 8 tk)) (CO : Df P w K mg base "is_counts" 3 2 spCounts) (AB : Df P w K mg base "is_above" 5 1 (spAbove C)) : GnOk P w K mg base 6 f fd ["entry", "many", "degree"] (lift K (spEntry C)) := by
  refine gn_dl F sc_entry (fun as Q h => by obtain ⟨_, _, _, _, _, _, rfl, _⟩ := h; rfl) (fun cdv A outer s H hr hG W as Q h => ?_)
  obtain ⟨kd, k, ad, r, m, dg, rfl, sd, hl, hm, nn, h8, na, h0, hdg, q⟩ := h
  have nd := sc_entry.nd
  refine sds_cons (sd_if (td_of (tw_or (td_not (td_val (ed_callB T.isi (ad_cons (nm 0 (ad_cons (ed_ty T.tuple (ad_nil (cd_isi (.tup _) (.ty _) (same (by decide +kernel)) (kB ?_)))))))))))))
  show TW _ _ _ _ _
  refine tw_or1 (td_cmp (ed_callB T.len (ad_cons (nm 0 (ad_nil (cd_len (.inr rfl) (ed_int (od_nei (kB ?_)))))))))
  show SDs _ _ _ _ _ _
  refine sds_nil (sds_cons (sd_asg (nm 0 (gd_tup rfl (gds_cons (gd_name 3 nd rfl (gds_cons (gd_name 4 nd rfl (gds_nil ?_))))) rfl))))
  refine sds_cons (sd_if (td_of (tw_or (td_not (td_val (ed_call CO (hr.mono (j := 3) (by decide)) hG (ad_cons (nm 3 (ad_cons (nm 1 (ad_nil ⟨kd, k, m, rfl, sd, hl, hm, nn, kB ?_⟩)))))))))))
  show TW _ _ _ _ _
  refine tw_or1 (td_cmp (ed_callB hsum (ad_cons (nm 3 (ad_nil (cd_sumS rfl sd (ed_gint md (od_gt (kB ?_)))))))))
  rw [decide_eq_false (by omega)]
  show SDs _ _ _ _ _ _
  refine sds_nil (sds_cons (sd_ret (ed_and (ed_call AB (hr.mono (j := 5) (by decide)) hG (ad_cons (nm 4 (ad_nil ⟨ad, r, rfl, na, h0, kB ?_⟩)))))))
  show ED _ _ _ _ _
  refine ed_one (ed_or (ed_cmp (nm 2 (ed_non (od_isN (kB ?_))))))
  rcases hdg with rfl | rfl
  · exact q
  · show ED _ _ _ _ _
    refine ed_one (ed_cmp (ed_callB hsum (ad_cons (nm 3 (ad_nil (cd_sumS rfl sd (nm 2 (od_eqi ?_))))))))
    rw [decide_eq_true rfl]
    exact q
end
end K46

set_option Elab.async false
set_option linter.all false
set_option maxRecDepth 100000
set_option maxHeartbeats 4000000
/-! k46: what is reckoned with entries -/
namespace K46
open PySem L2 DL
section
variable {P : Program} {w : World} {K : PySem.W.Frag} {mg : Str → Option Value} {base : Heap} {C CB : Addr}
/-- what stands under the blends -/
structure Lv (P : Program) (w : World) (K : PySem.W.Frag) (mg : Str → Option Value) (base : Heap) (C : Addr) : Prop where
  V : Rt P w K mg base C
  ratof : Df P w K mg base "ratio_of" 4 1 (spRat C)
  mul : Sm P w K mg base C "__mul__" 5 (spOp C fun p q => Ra C (mulF p q))
  rmul : Sm P w K mg base C "__rmul__" 6 (spOp C fun p q => Ra C (mulF q p))
  eq : Sm P w K mg base C "__eq__" 1 (spEq C)
  add : Sm P w K mg base C "__add__" 5 (spOp C fun p q => Ra C (addF p q))
  radd : Sm P w K mg base C "__radd__" 6 (spOp C fun p q => Ra C (addF q p))
  sign : Pr P w K mg base C "sign" 1 (sp1 C fun p => .int (sgF p))
  lm : ∃ r, PySem.W.findIn K (.type "int") "__rmul__" = some r
  la : ∃ r, PySem.W.findIn K (.type "int") "__radd__" = some r
section
variable {X : Cx} {Q : D → Prop} {y : D} {r s : Rat}
/-- two fractions that are the same -/
theorem eqR_Ra (L : Lv X.prog X.w X.K X.mg X.base C) (r : Rat) : EqR X 1 (Ra C (fr r)) (Ra C (fr r)) :=
  (rcR_ins L.V.T.nu L.eq ⟨_, _, rfl, .inl ⟨_, rfl, by rw [decide_eq_true rfl, decide_eq_true rfl]; rfl⟩⟩).eq rfl rfl
end
structure Tb (K : PySem.W.Frag) (mg : Str → Option Value) (C CB : Addr) : Prop where
  T : Txt K mg C
  nu : Num K CB
  is : Isi K CB
  nL : NoAttr K CB "_letters"
  nD : NoAttr K CB "_degree"
  nA : NoAttr K CB "_amounts"
  ne : PySem.W.findIn K (.ref CB) "__ne__" = some (some (.builtin "object.__ne__"))
  mB : mg "Blend" = some (.ref CB)
  enum : mg "enumerate" = none
  sorted : mg "sorted" = none
  sum : mg "sum" = none
  min : mg "min" = none
  dict : mg "dict" = none
  ml : ∃ tk, mg "MOST_LETTERS" = some (.int 8 tk)
  md : ∃ tk, mg "MOST_DEGREE" = some (.int 8 tk)
  me : ∃ tk, mg "MOST_ENTRIES" = some (.int 300 tk)
/-! gathered -/
abbrev spGath (C : Addr) : SpD := fun as Q => ∃ es : List Ent, as = [Sl.val (.lst (enD C es))] ∧ (es.map (·.1)).Nodup ∧ es.length ≤ 40000 ∧ Q (.lst (enD C es))
theorem enD_len {es : List Ent} : (enD C es).length = es.length := by unfold enD; rw [List.length_map]
theorem enD_get {es : List Ent} {i : Nat} {d : D} (h : (enD C es)[i]? = some d) : ∃ e, es[i]? = some e ∧ d = .tup [tI e.1, Ra C (fr e.2)] := by
  unfold enD at h
  rw [List.getElem?_map] at h
  cases e : es[i]? with
  | none => rw [e] at h; cases h
  | some x => rw [e] at h; cases h; exact ⟨x, rfl, rfl⟩
theorem enD_snoc {es : List Ent} {i : Nat} {e : Ent} (h : es[i]? = some e) : enD C (es.take (i + 1)) = enD C (es.take i) ++ [.tup [tI e.1, Ra C (fr e.2)]] := by
  rw [List.take_add_one, h]
  unfold enD
  rw [List.map_append]
  rfl
theorem fresh {es : List Ent} {i : Nat} {e : Ent} (nd : (es.map (·.1)).Nodup) (h : es[i]? = some e) : e.1 ∉ (es.take i).map (·.1) := by
  intro z
  have s : es.take (i + 1) = es.take i ++ [e] := by rw [List.take_add_one, h]; rfl
  have n2 : ((es.take (i + 1)).map (·.1)).Nodup := nd.sublist ((List.take_sublist _ _).map _)
  rw [s, List.map_append, List.nodup_append] at n2
  exact n2.2.2 _ z _ (by simp) rfl
/-! all products -/
def plus (a b : List Int) : List Int := List.zipWith (· + ·) a b
def prods (es fs : List Ent) : List Ent := es.flatMap fun e => fs.map fun f => (plus e.1 f.1, e.2 * f.2)
abbrev spProds (C : Addr) : SpD := fun as Q => ∃ es fs : List Ent, ∃ m : Nat, as = [.val (.lst (enD C es)), .val (.lst (enD C fs))] ∧ (∀ e ∈ es, e.1.length = m) ∧ (∀ e ∈ fs, e.1.length = m) ∧ m ≤ 100 ∧ (∀ e ∈ es, Bq 1000 e.2) ∧ (∀ e ∈ fs, Bq 1000 e.2) ∧ es.length ≤ 60 ∧ fs.length ≤ 60 ∧ Q (.lst (enD C (prods es fs)))
theorem zip_out {a b : List Int} {out : List D} (hl : a.length = b.length) (lo : out.length = a.length) (h : ∀ (n : Nat) (x y : Int) z, a[n]? = some x → b[n]? = some y → out[n]? = some z → z = .int (x + y)) : out = (plus a b).map D.int := by
  refine List.ext_getElem? fun i => ?_
  unfold plus
  rw [List.getElem?_map, List.getElem?_zipWith]
  by_cases c : i < a.length
  · have a1 : a[i]? = some a[i] := List.getElem?_eq_getElem c
    have a2 : b[i]? = some (b[i]'(hl ▸ c)) := List.getElem?_eq_getElem (hl ▸ c)
    have a3 : out[i]? = some (out[i]'(lo ▸ c)) := List.getElem?_eq_getElem (lo ▸ c)
    rw [a1, a2, a3, h i _ _ _ a1 a2 a3]
    rfl
  · rw [List.getElem?_eq_none (by omega), List.getElem?_eq_none (l := a) (by omega)]
    rfl
abbrev NPr : List Str := ["entries", "others", "pairs", "counts", "amount", "more", "factor", "both", "one", "two"]
end
end K46

set_option Elab.async false
set_option linter.all false
set_option maxRecDepth 100000
set_option maxHeartbeats 2000000
/-! the empty tuple that a def has as a default: known by its address -/
namespace DL
open PySem L2 PyProof.Rows
def EmpT (K : PySem.W.Frag) (a : Addr) : Prop := ∃ (o : Obj) (n : Nat), K.lookup a = some o ∧ o.cls = .type "tuple" ∧ o.data = .seq #[] n
theorem EmpT.sq {K : PySem.W.Frag} {a : Addr} (h : EmpT K a) (H : Hp) : SqT K H a [] := by
  obtain ⟨o, n, e, c, d⟩ := h
  exact .inr ⟨o, #[], n, e, c, d, by decide, .nil⟩
section
variable {X : Cx} {B : Hp} {W0 : Wd} {S : En} {pos p p1 : Pos} {Q : D → Prop} {e : Expr} {E : Ends'}
theorem cd_isiK {a : Addr} {c c' : D} {u u' : Value} {k : Bool} (em : EmpT X.K a) (hc : ClD c u) (hc' : ClD c' u') (hk : PySem.W.kitAny X.K (.type "tuple") [u, u'] = some k) (q : Q (.bl k)) : CD X (.builtin "isinstance") [.val (.cls a), .val (.tup [c, c'])] Q := cd_of call_isiT fun vs W H ok ha R cc => by
  obtain ⟨v, w, rfl, h, h'⟩ := two_args ha
  obtain ⟨o, n, e, ec, ed⟩ := em
  cases h
  cases h' with
  | tup hp m =>
    cases m with
    | cons h1 m => cases m with
      | cons h2 m =>
        cases m
        exact ⟨_, _, _, .type "tuple", [u, u'], k, rfl, ok.ex _ _ hp, .cons (hc.v h1) (.cons (hc'.v h2) .nil), .kTuple e ec, hk, cc.now ok (.bl k) q⟩
theorem sd_forEnK {a : Addr} {elts : List Expr} {kk : Nat} {tpos : Pos} {body : List Stmt} (em : EmpT X.K a) (hp : PassesOwn (model X.prog X.w) X.A X.env X.xe) (hc : X.calm = true) (hm : X.mg "enumerate" = none) (h : AD X B S [e] fun as => as = [.val (.cls a)] ∧ E.nx S) (hg : Gl X "enumerate" := by rfl) (hs : starEach [e] X.env = [(false, eval e X.env)] := by rfl)
    (hf : ∀ x, foldedSetIterable (.Call (.Name "enumerate" p) [e] [] p1) X.env x = pure x := by intro _; rfl) : SD X B W0 S (.For (.Tuple elts kk tpos) (.Call (.Name "enumerate" p) [e] [] p1) body [] pos) E := fun σ W H r z D' k => by
  refine PS.w (ps_for hp hc (pi_en hg hm wa_pa hs) wg_pg wss_pss hf) ?_
  refine h σ W H r _ fun as vs W1 H1 s1 ok1 n1 q1 => ?_
  obtain ⟨rfl, q⟩ := q1
  obtain ⟨v, rfl, m⟩ := one_arg n1
  cases m
  refine ⟨a, rfl, em.sq H1, fun i m σ' H' => i = 0 ∧ σ' = σ ∧ H' = H1, ⟨0, rfl, rfl, rfl⟩, ?_⟩
  rintro i m σ' H' ⟨rfl, rfl, rfl⟩
  exact .inl ⟨⟨rfl, em.sq H'⟩, k.nx S σ' W1 H' (r.step s1 ok1) (z.trans r.ok s1) s1.I q⟩
end
end DL

set_option Elab.async false
set_option linter.all false
set_option maxRecDepth 100000
set_option maxHeartbeats 4000000
/-! k46: Blend -/
namespace K46
open PySem L2 DL
def dgD (n : Nat) (es : List Ent) : D := if es.isEmpty = true then .non else .int (n : Int)
def bf (C : Addr) (z : List Nat) (n : Nat) (es : List Ent) : List (Str × D) := [("_letters", .str (SX.S z)), ("_degree", dgD n es), ("_amounts", .dcT (kvD C es))]
abbrev Bo (C CB : Addr) (z : List Nat) (n : Nat) (es : List Ent) : D := .obj CB (bf C z n es)
section
variable {C : Addr} {z : List Nat} {n : Nat} {es : List Ent}
theorem lkL : (bf C z n es).lookup ("_letters" : Str) = some (.str (SX.S z)) := rfl
theorem lkD : (bf C z n es).lookup ("_degree" : Str) = some (dgD n es) := by
  unfold bf
  rw [List.lookup_cons, show (("_degree" : Str) == ("_letters" : Str)) = false by decide +kernel]
  rfl
theorem lkA : (bf C z n es).lookup ("_amounts" : Str) = some (.dcT (kvD C es)) := by
  unfold bf
  rw [List.lookup_cons, show (("_amounts" : Str) == ("_letters" : Str)) = false by decide +kernel]
  show List.lookup _ (_ :: _) = _
  rw [List.lookup_cons, show (("_amounts" : Str) == ("_degree" : Str)) = false by decide +kernel]
  rfl
theorem lkN {m : Str} (h1 : (m == ("_letters" : Str)) = false) (h2 : (m == ("_degree" : Str)) = false) (h3 : (m == ("_amounts" : Str)) = false) : (bf C z n es).lookup m = none := by
  unfold bf
  rw [List.lookup_cons, h1, List.lookup_cons, h2, List.lookup_cons, h3]
  rfl
theorem dgD_ne (h : es ≠ []) : dgD n es = .int (n : Int) := by
  unfold dgD
  rw [if_neg (by cases es with
    | nil => exact absurd rfl h
    | cons _ _ => simp)]
end
section
variable {P : Program} {w : World} {K : PySem.W.Frag} {mg : Str → Option Value} {base : Heap} {C CB : Addr}
section
variable {X : Cx} {B : Hp} {S : En} {pos : Pos} {Q : D → Prop} {o : Expr} {z : List Nat} {n : Nat} {es : List Ent}
theorem fL (T : Tb X.K X.mg C CB) (h : ED X B S o fun x => x = Bo C CB z n es ∧ Q (.str (SX.S z))) (hb : attributeBase o "_letters" X.env (eval o X.env) = eval o X.env := by rfl) : ED X B S (.Attribute o "_letters" pos) Q :=
  ed_fld T.nu.cl T.nL (fun σ W H r R c => h σ W H r R fun d v W' H' s ok n' ⟨e, q⟩ => c d v W' H' s ok n' ⟨bf C z n es, _, e, lkL, q⟩) hb
theorem fD (T : Tb X.K X.mg C CB) (h : ED X B S o fun x => x = Bo C CB z n es ∧ Q (dgD n es)) (hb : attributeBase o "_degree" X.env (eval o X.env) = eval o X.env := by rfl) : ED X B S (.Attribute o "_degree" pos) Q :=
  ed_fld T.nu.cl T.nD (fun σ W H r R c => h σ W H r R fun d v W' H' s ok n' ⟨e, q⟩ => c d v W' H' s ok n' ⟨bf C z n es, _, e, lkD, q⟩) hb
theorem fA (T : Tb X.K X.mg C CB) (h : ED X B S o fun x => x = Bo C CB z n es ∧ Q (.dcT (kvD C es))) (hb : attributeBase o "_amounts" X.env (eval o X.env) = eval o X.env := by rfl) : ED X B S (.Attribute o "_amounts" pos) Q :=
  ed_fld T.nu.cl T.nA (fun σ W H r R c => h σ W H r R fun d v W' H' s ok n' ⟨e, q⟩ => c d v W' H' s ok n' ⟨bf C z n es, _, e, lkA, q⟩) hb
end
abbrev spB1 (C CB : Addr) (f : List Nat → Nat → List Ent → D) : SpD := fun as Q => ∃ z n es, as = [.val (Bo C CB z n es)] ∧ Q (f z n es)
theorem sc_letters : FnScope ["self"] ["self"] (defScope (ble 1)) := ⟨rfl, rfl, rfl, by decide +kernel, rfl, by decide +kernel, by decide +kernel⟩
theorem ok_letters {f : Addr} {fd : FuncData} (F : FunS K "letters" "Blend.letters" (ble 1) f fd) (T : Tb K mg C CB) : GnOk P w K mg base 1 f fd ["self"] (lift K (spB1 C CB fun z _ _ => .str (SX.S z))) := by
  refine gn_dl F sc_letters (fun as Q h => by obtain ⟨_, _, _, rfl, _⟩ := h; rfl) (fun cdv A outer s H hr hG W as Q h => ?_)
  obtain ⟨z, n, es, rfl, q⟩ := h
  exact sds_cons (sd_ret (fL T (nm 0 ⟨rfl, q⟩)))
theorem sc_degree : FnScope ["self"] ["self"] (defScope (ble 2)) := ⟨rfl, rfl, rfl, by decide +kernel, rfl, by decide +kernel, by decide +kernel⟩
theorem ok_degree {f : Addr} {fd : FuncData} (F : FunS K "degree" "Blend.degree" (ble 2) f fd) (T : Tb K mg C CB) : GnOk P w K mg base 1 f fd ["self"] (lift K (spB1 C CB fun _ n es => dgD n es)) := by
  refine gn_dl F sc_degree (fun as Q h => by obtain ⟨_, _, _, rfl, _⟩ := h; rfl) (fun cdv A outer s H hr hG W as Q h => ?_)
  obtain ⟨z, n, es, rfl, q⟩ := h
  exact sds_cons (sd_ret (fD T (nm 0 ⟨rfl, q⟩)))
theorem sc_nought : FnScope ["self"] ["self"] (defScope (ble 3)) := ⟨rfl, rfl, rfl, by decide +kernel, rfl, by decide +kernel, by decide +kernel⟩
theorem ok_nought {f : Addr} {fd : FuncData} (F : FunS K "is_nought" "Blend.is_nought" (ble 3) f fd) (T : Tb K mg C CB) : GnOk P w K mg base 1 f fd ["self"] (lift K (spB1 C CB fun _ _ es => .bl es.isEmpty)) := by
  refine gn_dl F sc_nought (fun as Q h => by obtain ⟨_, _, _, rfl, _⟩ := h; rfl) (fun cdv A outer s H hr hG W as Q h => ?_)
  obtain ⟨z, n, es, rfl, q⟩ := h
  refine sds_cons (sd_ret (ed_cmp (fD T (nm 0 ⟨rfl, ed_non (od_isN ?_)⟩))))
  cases es with
  | nil => exact q
  | cons _ _ => exact q
/-! entries -/
abbrev spEnts (C CB : Addr) : SpD := fun as Q => ∃ z n es, as = [.val (Bo C CB z n es)] ∧ (es.map (·.1)).Nodup ∧ es.length ≤ 60 ∧ Q (.lst (enD C es))
theorem sc_entries : FnScope ["self", "counts"] ["self"] (defScope (ble 5)) := ⟨rfl, rfl, rfl, by decide +kernel, rfl, by decide +kernel, by decide +kernel⟩
theorem ok_entries {f : Addr} {fd : FuncData} (F : FunS K "entries" "Blend.entries" (ble 5) f fd) (T : Tb K mg C CB) : GnOk P w K mg base 1 f fd ["self"] (lift K (spEnts C CB)) := by
  refine gn_dl F sc_entries (fun as Q h => by obtain ⟨_, _, _, rfl, _⟩ := h; rfl) (fun cdv A outer s H hr hG W as Q h => ?_)
  obtain ⟨z, n, es, rfl, nde, hl, q⟩ := h
  have nd := sc_entries.nd
  refine sds_cons (sd_ret (ed_fd (fd_lcK (kvs := kvD C es) (fun i acc => acc = enD C (es.take i)) (fun d => itE [some (.val (Bo C CB z n es)), none] [("counts", 1)] 1 d) rfl nd (blkOk_by (by show blkC ["self", "counts"] (defScope (ble 5)) _ _ = true; decide +kernel)) (fun _ _ _ _ _ => pg_name (i := 1) nd rfl (Or.inl rfl)) (fA T (nm 0 ⟨rfl, rfl, by rw [kvD_len]; omega, rfl⟩)) (fun d => pat_name 1 (by simp)) ?_ ?_)))
  · rintro i k d acc hi hacc rfl s2 H0 C2 cl fp
    have hi' : (es.map fun e => (ik e.1, Ra C (fr e.2)))[i]? = some (k, d) := hi
    rw [List.getElem?_map] at hi'
    cases e : es[i]? with
    | none => rw [e] at hi'; cases hi'
    | some x =>
      rw [e] at hi'
      cases hi'
      rw [tD_ik]
      refine ed_tup (ad_cons (nm 1 (ad_cons (ed_dget (un1 hr) (fA T (nm 0 ⟨rfl, nm 1 ⟨_, ik x.1, _, rfl, (tD_ik _).symm, look_kvD nde (List.mem_of_getElem? e), ad_nil ⟨[tI x.1, Ra C (fr x.2)], rfl, by simp, ?_⟩⟩⟩))))))
      rw [enD_snoc e]
  · rintro acc hacc rfl
    rw [kvD_len, List.take_length]
    exact q
/-! == -/
section
variable {X : Cx} {z : List Nat} {n : Nat} {es : List Ent}
theorem rcR_kv (L : Lv X.prog X.w X.K X.mg X.base C) (nde : (es.map (·.1)).Nodup) : RcR X 2 (.dcT (kvD C es)) (.dcT (kvD C es)) := rcR_dct rfl fun k d h => by
  unfold kvD at h
  obtain ⟨e, he, q⟩ := List.mem_map.mp h
  cases q
  exact ⟨_, look_kvD nde he, eqR_Ra L e.2⟩
end
abbrev spBEq (C CB : Addr) : SpD := fun as Q => ∃ z n es, as = [.val (Bo C CB z n es), .val (Bo C CB z n es)] ∧ (es.map (·.1)).Nodup ∧ Q (.bl true)
theorem sc_beq : FnScope ["self", "other"] ["self", "other"] (defScope (ble 10)) := ⟨rfl, rfl, rfl, by decide +kernel, rfl, by decide +kernel, by decide +kernel⟩
theorem ok_beq {f : Addr} {fd : FuncData} (F : FunS K "__eq__" "Blend.__eq__" (ble 10) f fd) (T : Tb K mg C CB) (L : Lv P w K mg base C) : GnOk P w K mg base 4 f fd ["self", "other"] (lift K (spBEq C CB)) := by
  refine gn_dl F sc_beq (fun as Q h => by obtain ⟨_, _, _, rfl, _⟩ := h; rfl) (fun cdv A outer s H hr hG W as Q h => ?_)
  obtain ⟨z, n, es, rfl, nde, q⟩ := h
  refine sds_cons (sd_ret (ed_and (ed_callB T.T.isi (ad_cons (nm 1 (ad_cons (ed_cls T.mB (ad_nil (cd_isi (.obj _ T.is) (.cls _) (same (beq_self_eq_true _)) (kB ?_))))))))))
  show ED _ _ _ _ _
  refine ed_and (ed_cmp (fL T (nm 0 ⟨rfl, fL T (nm 1 ⟨rfl, od_eqs (kB ?_)⟩)⟩)))
  rw [decide_eq_true rfl]
  show ED _ _ _ _ _
  exact ed_one (ed_cmp (fA T (nm 0 ⟨rfl, fA T (nm 1 ⟨rfl, od_eqR (rcR_kv L nde) (hr.mono (j := 2) (by decide)) hG q⟩)⟩)))
/-! check_blend -/
abbrev spCk (C CB : Addr) : SpD := fun as Q => ∃ z n es, as = [.val (Bo C CB z n es)] ∧ Q .non
theorem sc_ck : FnScope ["blend"] ["blend"] (defScope (top 35)) := ⟨rfl, rfl, rfl, by decide +kernel, rfl, by decide +kernel, by decide +kernel⟩
theorem ok_ck {f : Addr} {fd : FuncData} (F : FunS K "check_blend" "check_blend" (top 35) f fd) (T : Tb K mg C CB) : GnOk P w K mg base 1 f fd ["blend"] (lift K (spCk C CB)) := by
  refine gn_dl F sc_ck (fun as Q h => by obtain ⟨_, _, _, rfl, _⟩ := h; rfl) (fun cdv A outer s H hr hG W as Q h => ?_)
  obtain ⟨z, n, es, rfl, q⟩ := h
  refine sds_cons (sd_if (td_not (td_val (ed_callB T.T.isi (ad_cons (nm 0 (ad_cons (ed_cls T.mB (ad_nil (cd_isi (.obj _ T.is) (.cls _) (same (beq_self_eq_true _)) (kB ?_)))))))))))
  exact sds_nil (sds_nil q)
/-! is_list, also of the empty default -/
abbrev spLK (K : PySem.W.Frag) : SpD := fun as Q => ∃ d, as = [.val d] ∧ ((∃ l, d = .lst l ∨ d = .tup l) ∨ ∃ a, d = .cls a ∧ EmpT K a) ∧ Q (.bl true)
theorem ok_islistK {f : Addr} {fd : FuncData} (F : FunS K "is_list" "is_list" sIsList f fd) (T : Txt K mg C) : GnOk P w K mg base 1 f fd ["value"] (lift K (spLK K)) := by
  refine gn_dl F sc_islist (fun as Q h => by obtain ⟨_, rfl, _⟩ := h; rfl) (fun cdv A outer s H hr hG W as Q h => ?_)
  obtain ⟨d, rfl, hd, q⟩ := h
  refine sds_cons (sd_ret (ed_callB T.isi (ad_cons (nm 0 (ad_cons (ed_tup (ad_cons (ed_ty T.list (ad_cons (ed_ty T.tuple (ad_nil ⟨[.ty "list", .ty "tuple"], rfl, by decide, ad_nil ?_⟩)))))))))))
  rcases hd with ⟨l, rfl | rfl⟩ | ⟨a, rfl, em⟩
  · exact cd_isi2 (.lst l) (.ty _) (.ty _) T.l1 q
  · exact cd_isi2 (.tup l) (.ty _) (.ty _) T.l2 q
  · exact cd_isiK em (.ty _) (.ty _) T.l2 q
/-! Blend(letters, entries) -/
def EntD (C : Addr) (b : Nat) (x : D) (e : Ent) : Prop := ∃ kd ad, x = .tup [kd, ad] ∧ SeqD kd (e.1.map D.int) ∧ Nq C b ad e.2
theorem paired_get {α β : Type} {R : α → β → Prop} : ∀ {l : List α} {m : List β} {i : Nat} {x : α}, Paired R l m → l[i]? = some x → ∃ y, m[i]? = some y ∧ R x y
  | _, _, _, _, .nil, e => by simp at e
  | _, _, 0, _, .cons h _, e => by cases e; exact ⟨_, rfl, h⟩
  | _, _, i + 1, _, .cons _ t, e => paired_get (i := i) t e
abbrev spBl (K : PySem.W.Frag) (C : Addr) : SpI := fun as Q => (∃ z, ∃ m n b : Nat, ∃ es xs, as = [.val (.str (SX.S z)), .val (.lst xs)] ∧ LetZ z ∧ z.length = m ∧ n ≤ 8 ∧ b ≤ 1000 ∧ GE m n b es ∧ Paired (EntD C b) xs es ∧ Q (bf C z n (srt es))) ∨
  (∃ z a, as = [.val (.str (SX.S z)), .val (.cls a)] ∧ LetZ z ∧ EmpT K a ∧ ∀ n, Q (bf C z n []))
theorem cd_tupleS {X : Cx} {Q : D → Prop} {d : D} {l : List D} (sd : SeqD d l) (q : Q (.tup l)) : CD X (.type "tuple") [.val d] Q := by
  rcases sd with rfl | rfl
  · exact cd_tuple q
  · exact cd_tupleT q
abbrev NB : List Str := ["self", "letters", "entries", "amounts", "degree", "position", "entry", "counts"]
theorem sc_binit : FnScope NB ["self", "letters", "entries"] (defScope (ble 0)) := ⟨rfl, rfl, rfl, by decide +kernel, rfl, by decide +kernel, by decide +kernel⟩
theorem dg_take {n : Nat} {es : List Ent} {i : Nat} {e : Ent} (h : es[i]? = some e) : dgD n (es.take (i + 1)) = .int (n : Int) := dgD_ne fun z => by
  rw [List.take_add_one, h] at z
  simp at z
/-- what stands behind the loop -/
theorem binit_end {f : Addr} {cdv : Value} {A : Around} {outer : List Env} {s : Shared} {H B : Hp} {W : Wd} {Q : List (Str × D) → Prop} {p dx : Addr} {z : List Nat} {m n b : Nat} {es : List Ent} {d2 : D} {o5 o6 : Option Sl} (T : Tb K mg C CB)
    (hr : Room 6 (A.deeper (PyProof.Rows.envOfC "Blend.__init__" (defScope (ble 0)) s.heap.objs.size f cdv))) (hz : LetZ z) (hm : z.length = m) (hn : n ≤ 8) (ge : GE m n b es) (n5 : notInst o5 = true) (n6 : notInst o6 = true) (q : Q (bf C z n (srt es))) :
    SDs (Bx P w K mg base NB "Blend.__init__" (ble 0) f cdv A outer s H) B W [some (.inst CB p dx []), some (.val (.str (SX.S z))), some (.val d2), some (.ownT (kvD C es)), some (.val (dgD n es)), o5, o6, none] ((defBody (ble 0)).drop 5) { nx := fun S' => ∃ fs, S'[0]? = some (some (.inst CB p dx fs)) ∧ Q fs, rt := fun _ => False } := by
  have nd := sc_binit.nd
  obtain ⟨tk, me⟩ := T.me
  refine sds_frzT 3 _ rfl ?_
  refine sds_cons (sd_if (td_cmp (ed_callB T.T.len (ad_cons (nm 3 (ad_nil (cd_lenT (ed_gint me (od_gt (kB ?_))))))))))
  rw [decide_eq_false (by rw [kvD_len]; have := ge.ln; omega)]
  refine sds_nil ?_
  refine sds_cons (sd_fld 0 [] T.nu.cl T.nL rfl rfl (by decide) (by simp [notInst, List.all_cons]; exact ⟨n5, n6⟩) (nm 1 ?_))
  refine sds_cons (sd_fld 0 _ T.nu.cl T.nD rfl rfl (by simp [putD]) (by simp [notInst, List.all_cons]; exact ⟨n5, n6⟩) (nm 4 ?_))
  have ed : dgD n es = dgD n (srt es) := by
    unfold dgD
    have : es.isEmpty = (srt es).isEmpty := by
      rw [Bool.eq_iff_iff, List.isEmpty_iff_length_eq_zero, List.isEmpty_iff_length_eq_zero, (srt_perm es).length_eq]
    rw [this]
  have m1 : 1 ≤ m := by rw [← hm]; exact hz.l1
  refine sds_cons (sd_fld 0 _ T.nu.cl T.nA rfl rfl (by simp [putD]; split <;> simp) (by simp [notInst, List.all_cons]; exact ⟨n5, n6⟩) (ed_ft (ft_dcL (l := ((srt es).map (·.1)).map tI) (fun i acc => acc = kvD C ((srt es).take i)) (fun d => itE _ [("counts", 7)] 7 d) rfl (un1 hr) nd (blkOk_by (by show blkC NB (defScope (ble 0)) _ _ = true; decide +kernel)) (fun _ _ _ _ _ => pg_name (i := 7) nd rfl (Or.inl rfl)) (ed_callB T.sorted (ad_cons (nm 3 (ad_nil (cd_sortK rfl (dd := m) (B := 9) (ls := es.map (·.1)) m1 kvD_keys (by rw [List.length_map]; have := ge.ln; omega) ?_ ?_))))) (fun d _ => pat_name 7 (by simp)) ?_ ?_)))
  · intro l hl
    obtain ⟨e, he, rfl⟩ := List.mem_map.mp hl
    exact ⟨ge.len e he, ge.bd hn he⟩
  · intro ls' pm pw
    refine ⟨by rw [keys_srt ge hn pm pw], by rw [List.length_map, List.length_map, (srt_perm es).length_eq]; have := ge.ln; omega, rfl⟩
  · rintro i d acc hi rfl s2 H0 C2 cl fp
    rw [List.getElem?_map, List.getElem?_map] at hi
    cases e : (srt es)[i]? with
    | none => rw [e] at hi; cases hi
    | some x =>
      rw [e] at hi
      cases hi
      have mx := (srt_perm es).mem_iff.mp (List.mem_of_getElem? e)
      refine nm 7 ⟨ik x.1, (tD_ik _).symm, fun s3 H3 C3 cl3 fp3 => ed_dget (un1 hr) (nm 3 (nm 7 ⟨_, ik x.1, _, rfl, (tD_ik _).symm, look_kvD ge.nd mx, ?_⟩))⟩
      have fs := fresh (srt_ge ge).nd e
      rw [put_kvD fs, List.take_add_one, e]
      rfl
  · rintro acc rfl
    refine sds_nil ⟨_, rfl, ?_⟩
    rw [List.length_map, List.length_map, List.take_length, ed]
    have e1 : putD "_amounts" (D.dcT (kvD C (srt es))) (putD "_degree" (dgD n (srt es)) (putD "_letters" (D.str (SX.S z)) [])) = bf C z n (srt es) := by
      show putD _ _ (if ("_letters" : Str) = "_degree" then _ else (("_letters" : Str), D.str _) :: [(("_degree" : Str), dgD n (srt es))]) = _
      rw [if_neg (by decide +kernel)]
      show (if ("_letters" : Str) = "_amounts" then _ else (("_letters" : Str), D.str _) :: (if ("_degree" : Str) = "_amounts" then _ else (("_degree" : Str), dgD n (srt es)) :: [(("_amounts" : Str), D.dcT (kvD C (srt es)))])) = _
      rw [if_neg (by decide +kernel), if_neg (by decide +kernel)]
      rfl
    rw [e1]
    exact q
end
end K46

set_option Elab.async false
set_option linter.all false
set_option maxRecDepth 100000
set_option maxHeartbeats 4000000
/-! k46: a Blend made; normal, abnormal -/
namespace K46
open PySem L2 DL
section
variable {P : Program} {w : World} {K : PySem.W.Frag} {mg : Str → Option Value} {base : Heap} {C CB : Addr}
theorem dg_or (n : Nat) (es : List Ent) : dgD n es = .non ∨ dgD n es = .int (n : Int) := by
  unfold dgD
  split
  · exact .inl rfl
  · exact .inr rfl
theorem ok_binit {f : Addr} {fd : FuncData} (F : FunS K "__init__" "Blend.__init__" (ble 0) f fd) (T : Tb K mg C CB) (R : Df P w K mg base "ratio_of" 4 1 (spRat C)) (LE : Df P w K mg base "is_letters" 2 1 spLet) (IL : Df P w K mg base "is_list" 1 1 (spLK K)) (EN : Df P w K mg base "_is_entry" 6 3 (spEntry C)) : GnOk P w K mg base 7 f fd ["self", "letters", "entries"] (liftI K CB (spBl K C)) := by
  refine init_dl F sc_binit (fun as Q h => by rcases h with ⟨_, _, _, _, _, _, rfl, _⟩ | ⟨_, _, rfl, _⟩ <;> rfl) (fun cdv A outer s H hr hG W B as Q p dx h => ?_)
  have nd := sc_binit.nd
  rcases h with ⟨z, m, n, b, es, xs, rfl, hz, hm, hn, hb, ge, pe, q⟩ | ⟨z, a, rfl, hz, em, q⟩
  · refine sds_cons (sd_if (td_not (td_val (ed_call LE (hr.mono (j := 2) (by decide)) hG (ad_cons (nm 1 (ad_nil ⟨z, rfl, hz, kB ?_⟩)))))))
    refine sds_nil (sds_cons (sd_if (td_not (td_val (ed_call IL (hr.mono (j := 1) (by decide)) hG (ad_cons (nm 2 (ad_nil ⟨_, rfl, .inl ⟨xs, .inl rfl⟩, kB ?_⟩))))))))
    refine sds_nil (sds_cons (sd_newT 3 nd rfl (sds_cons (sd_set 4 nd rfl (ed_non ?_)))))
    have lx : xs.length = es.length := Paired.length pe
    have hl : ((SX.S z).length : Int) = (m : Int) := by rw [SX.S_len, hm]
    refine sds_cons (sd_forE (l := xs) PassesOwn.never rfl T.enum (fun i S' => ∃ o5 o6, notInst o5 = true ∧ notInst o6 = true ∧ S' = [some (.inst CB p dx []), some (.val (.str (SX.S z))), some (.val (.lst xs)), some (.ownT (kvD C (es.take i))), some (.val (dgD n (es.take i))), o5, o6, none]) (ad_cons (nm 2 (ad_nil ⟨rfl, none, none, rfl, rfl, rfl⟩))) ?_ ?_)
    · rintro i d S' hi ⟨o5, o6, n5, n6, rfl⟩
      obtain ⟨e, he, kd, ad, rfl, sd, na⟩ := paired_get pe hi
      have me := List.mem_of_getElem? he
      have li : i < es.length := (List.getElem?_eq_some_iff.mp he).1
      have fs := fresh ge.nd he
      have ln := ge.ln
      refine gd_tup rfl (gds_cons (gd_name 5 nd rfl (gds_cons (gd_name 6 nd rfl (gds_nil ?_))))) rfl
      refine sds_cons (sd_if (td_of (tw_or (td_not (td_val (ed_call EN (hr.mono (j := 6) (by decide)) hG (ad_cons (nm 6 (ad_cons (ed_callB T.T.len (ad_cons (nm 1 (ad_nil (cd_lenS (z := SX.S z) (by rw [SX.S_len]; have := hz.l8; omega) (ad_cons (nm 4 (ad_nil ⟨kd, e.1, ad, e.2, m, dgD n (es.take i), by rw [hl], sd, ge.len e me, by have := hz.l8; omega, ge.nn e me, by rw [ge.sum e me]; omega, na.mono hb, ge.pos e me, by rw [ge.sum e me]; exact dg_or n (es.take i), kB ?_⟩)))))))))))))))))
      show TW _ _ _ _ _
      refine tw_or1 (td_inT 3 (kvD C (es.take i)) (un1 hr) rfl rfl (ed_callTy T.T.tuple (ad_cons (ed_ix (nm 6 (ed_int ⟨_, 0, kd, .inr rfl, rfl, rfl, ad_nil (cd_tupleS sd ⟨ik e.1, (tD_ik _).symm, ?_⟩)⟩))))))
      rw [look_no fs]
      show SDs _ _ _ _ _ _
      refine sds_nil (sds_cons (sd_putT 3 (kvD C (es.take i)) (un1 hr) rfl rfl (by rw [kvD_len, List.length_take]; omega) (ed_call R (hr.mono (j := 4) (by decide)) hG (ad_cons (ed_ix (nm 6 (ed_int ⟨_, 1, ad, .inr rfl, rfl, rfl, ad_nil ⟨ad, _, rfl, (na.mono (by omega)).nr, ed_callTy T.T.tuple (ad_cons (ed_ix (nm 6 (ed_int ⟨_, 0, kd, .inr rfl, rfl, rfl, ad_nil (cd_tupleS sd ⟨ik e.1, (tD_ik _).symm, ?_⟩)⟩))))⟩⟩)))))))
      refine sds_cons (sd_set 4 nd rfl (ed_callB T.sum (ad_cons (ed_ix (nm 6 (ed_int ⟨_, 0, kd, .inr rfl, rfl, rfl, ad_nil (cd_sumS rfl sd ?_)⟩))))))
      refine sds_nil ⟨some (.val (.int (i : Int))), some (.val (.tup [kd, ad])), rfl, rfl, ?_⟩
      rw [put_kvD fs, dg_take he, ge.sum e me, List.take_add_one, he]
      rfl
    · rintro S' ⟨o5, o6, n5, n6, rfl⟩
      rw [lx, List.take_length]
      exact binit_end T hr hz hm hn ge n5 n6 q
  · refine sds_cons (sd_if (td_not (td_val (ed_call LE (hr.mono (j := 2) (by decide)) hG (ad_cons (nm 1 (ad_nil ⟨z, rfl, hz, kB ?_⟩)))))))
    refine sds_nil (sds_cons (sd_if (td_not (td_val (ed_call IL (hr.mono (j := 1) (by decide)) hG (ad_cons (nm 2 (ad_nil ⟨_, rfl, .inr ⟨a, rfl, em⟩, kB ?_⟩))))))))
    refine sds_nil (sds_cons (sd_newT 3 nd rfl (sds_cons (sd_set 4 nd rfl (ed_non ?_)))))
    refine sds_cons (sd_forEnK em PassesOwn.never rfl T.enum (ad_cons (nm 2 (ad_nil ⟨rfl, ?_⟩))))
    exact binit_end (es := []) (n := 0) (b := 0) T hr hz rfl (by decide) GE.nil rfl rfl (by rw [srt_nil]; exact q 0)
structure Bt (P : Program) (w : World) (K : PySem.W.Frag) (mg : Str → Option Value) (base : Heap) (C CB : Addr) : Prop where
  T : Tb K mg C CB
  L : Lv P w K mg base C
  mkA : Kl P w K mg base "Blend" CB 7 [] (spBl K C)
  mk0 : ∃ a, EmpT K a ∧ Kl P w K mg base "Blend" CB 7 [.cls a] (spBl K C)
  letters : Pr P w K mg base CB "letters" 1 (spB1 C CB fun z _ _ => .str (SX.S z))
  degree : Pr P w K mg base CB "degree" 1 (spB1 C CB fun _ n es => dgD n es)
  nought : Pr P w K mg base CB "is_nought" 1 (spB1 C CB fun _ _ es => .bl es.isEmpty)
  entries : Mt P w K mg base CB "entries" 1 (spEnts C CB)
  beq : Sm P w K mg base CB "__eq__" 4 (spBEq C CB)
  ck : Df P w K mg base "check_blend" 1 1 (spCk C CB)
section
variable {X : Cx} {B : Hp} {S : En} {pos apos : Pos} {Q : D → Prop} {o : Expr} {z : List Nat} {n m b : Nat} {es : List Ent}
theorem pL (V : Bt X.prog X.w X.K X.mg X.base C CB) (hr : Room 2 X.A) (hG : X.A.guards = some (gOf X)) (h : ED X B S o fun x => x = Bo C CB z n es ∧ Q (.str (SX.S z))) (hb : attributeBase o "letters" X.env (eval o X.env) = eval o X.env := by rfl) : ED X B S (.Attribute o "letters" pos) Q :=
  ed_prop V.T.nu.cl V.letters hr hG (fun σ W H r R c => h σ W H r R fun d v W' H' s ok n' ⟨e, q⟩ => c d v W' H' s ok n' ⟨bf C z n es, e, z, n, es, by rw [e], q⟩) hb
theorem pD (V : Bt X.prog X.w X.K X.mg X.base C CB) (hr : Room 2 X.A) (hG : X.A.guards = some (gOf X)) (h : ED X B S o fun x => x = Bo C CB z n es ∧ Q (dgD n es)) (hb : attributeBase o "degree" X.env (eval o X.env) = eval o X.env := by rfl) : ED X B S (.Attribute o "degree" pos) Q :=
  ed_prop V.T.nu.cl V.degree hr hG (fun σ W H r R c => h σ W H r R fun d v W' H' s ok n' ⟨e, q⟩ => c d v W' H' s ok n' ⟨bf C z n es, e, z, n, es, by rw [e], q⟩) hb
theorem pN (V : Bt X.prog X.w X.K X.mg X.base C CB) (hr : Room 2 X.A) (hG : X.A.guards = some (gOf X)) (h : ED X B S o fun x => x = Bo C CB z n es ∧ Q (.bl es.isEmpty)) (hb : attributeBase o "is_nought" X.env (eval o X.env) = eval o X.env := by rfl) : ED X B S (.Attribute o "is_nought" pos) Q :=
  ed_prop V.T.nu.cl V.nought hr hG (fun σ W H r R c => h σ W H r R fun d v W' H' s ok n' ⟨e, q⟩ => c d v W' H' s ok n' ⟨bf C z n es, e, z, n, es, by rw [e], q⟩) hb
theorem mE {pl : Sem Bool} (V : Bt X.prog X.w X.K X.mg X.base C CB) (ge : GE m n b es) (hr : Room 1 X.A) (hG : X.A.guards = some (gOf X)) (h : ED X B S o fun x => x = Bo C CB z n es ∧ Q (.lst (enD C es)))
    (ht : eval (.Call (.Attribute o "entries" apos) [] [] pos) X.env = (do
      let ov ← eval o X.env
      standAt apos.atName
      let (f, first) ← holding [ov] (getMethod ov "entries" pl)
      callWith pos f first (backTo pos (starEach [] X.env)) (backToKw pos (keywordEach [] X.env))) := by rfl) : ED X B S (.Call (.Attribute o "entries" apos) [] [] pos) Q :=
  ed_meth0 V.T.nu.cl V.entries hr hG (fun σ W H r R c => h σ W H r R fun d v W' H' s ok n' ⟨e, q⟩ => c d v W' H' s ok n' ⟨bf C z n es, e, lkN (by decide +kernel) (by decide +kernel) (by decide +kernel), z, n, es, by rw [e], ge.nd, ge.ln, q⟩) ht
theorem od_neB (V : Bt X.prog X.w X.K X.mg X.base C CB) (nde : (es.map (·.1)).Nodup) (hr : Room 5 X.A) (hG : X.A.guards = some (gOf X)) (q : Q (.bl false)) : OD X (compareOp .NotEq) (Bo C CB z n es) (Bo C CB z n es) Q :=
  od_neO V.T.nu V.T.ne V.beq hr hG ⟨z, n, es, rfl, nde, true, rfl, q⟩
end
theorem pe_en {b : Nat} : ∀ {es : List Ent}, (∀ e ∈ es, Bq b e.2) → Paired (EntD C b) (enD C es) es
  | [], _ => .nil
  | e :: es, h => .cons ⟨tI e.1, Ra C (fr e.2), rfl, .inr rfl, .rat _ (h e (List.mem_cons_self ..))⟩ (pe_en fun e he => h e (List.mem_cons_of_mem _ he))
structure Okb (z : List Nat) (m n b : Nat) (es : List Ent) : Prop where
  hz : LetZ z
  hm : z.length = m
  hn : n ≤ 8
  hb : b ≤ 800
  ge : GE m n b es
  so : srt es = es
abbrev spNorm (C CB : Addr) (g : Ent → Ent) : SpD := fun as Q => ∃ z, ∃ m n b : Nat, ∃ es, as = [.val (Bo C CB z n es)] ∧ Okb z m n b es ∧ Q (Bo C CB z n (es.map g))
end
end K46

set_option Elab.async false
set_option linter.all false
set_option maxRecDepth 100000
set_option maxHeartbeats 2000000
/-! name = [elt for x in a text]; texts that are the same -/
namespace DL
open PySem L2 PyProof.Rows
section
variable {X : Cx} {B : Hp} {S : En} {elt iter : Expr}
end
end DL

set_option Elab.async false
set_option linter.all false
set_option maxRecDepth 100000
set_option maxHeartbeats 2000000
/-! [..] * n of one's own; a loop over a range that is not empty -/
namespace DL
open PySem L2 PyProof.Rows
section
variable {X : Cx} {B : Hp} {W0 : Wd} {S : En} {pos : Pos} {a b : Expr}
theorem fd_repL {Q : List D → Prop} (h : ED X B S a fun x => ED X B S b fun y => ∃ l, ∃ k : Nat, x = .lst l ∧ y = .int (k : Int) ∧ l.length * k ≤ 100000 ∧ k ≤ 100000 ∧ Q (List.replicate k l).flatten) : FD X B S (.BinOp a .Mult b pos) Q := fun σ W H r R c => by
  refine PE.w (pe_op op_rep we_pe we_pe) ?_
  refine h σ W H r _ fun d v W1 H1 s1 ok1 n1 q1 => ?_
  refine q1 σ W1 H1 (r.step s1 ok1) _ fun d2 u W2 H2 s2 ok2 n2 q2 => ?_
  obtain ⟨l, k, rfl, rfl, hl, hk, q2⟩ := q2
  cases n2
  cases n1.mono s2.I with
  | @lst _ a xs ha m =>
    refine ⟨_, (k : Int), _, rfl, rfl, ok2.ex _ _ ha, by omega, by omega, Nat.le_trans (by rw [← m.length, Int.toNat_natCast]; exact hl) (by decide), fun p hp => ?_⟩
    rw [Int.toNat_natCast]
    have s12 := s1.trans ok1 s2
    exact c _ p _ W2 _ (s12.trans ok2 (Stp.own hp)) (ok2.own hp) (s12.free ok2 hp) (ok2.notP hp) (ok2.free hp) upd_same (m.rep k) q2
end
section
variable {X : Cx} {B : Hp} {W0 : Wd} {S : En} {pos : Pos}
theorem sd_forR1 {tg a : Expr} {p pos1 : Pos} {N : Nat} {body : List Stmt} {E : Ends'} (hp : PassesOwn (model X.prog X.w) X.A X.env X.xe) (hc : X.calm = true) (hm : X.mg "range" = none) (Inv : Nat → En → Prop) (h : AD X B S [a] fun as => ∃ n : Nat, as = [.val (.int (n : Int))] ∧ 1 ≤ n ∧ n ≤ N ∧ n ≤ 50000 ∧ Inv 0 S)
    (hs : ∀ (i : Nat) S', i < N → Inv i S' → GD X B W0 S' tg (.int i) fun S2 => SDs X B W0 S2 body { nx := Inv (i + 1), rt := E.rt, bk := E.nx, ct := Inv (i + 1) })
    (hd : ∀ (n : Nat) S', 1 ≤ n → n ≤ N → Inv n S' → E.nx S') (hg : Gl X "range" := by rfl) (hst : starEach [a] X.env = [(false, eval a X.env)] := by rfl) (hf : ∀ x, foldedSetIterable (.Call (.Name "range" p) [a] [] pos1) X.env x = pure x := by intro _; rfl) : SD X B W0 S (.For tg (.Call (.Name "range" p) [a] [] pos1) body [] pos) E := fun σ W H r z D' k => by
  refine PS.w (ps_for hp hc (pi_range1 hg hm wa_pa hst) wg_pg wss_pss hf) ?_
  refine h σ W H r _ fun as vs W1 H1 s1 ok1 n1 q1 => ?_
  obtain ⟨n, rfl, hn1, hn, hn2, i0⟩ := q1
  obtain ⟨v, rfl, m⟩ := one_arg n1
  cases m
  refine ⟨(n : Int), rfl, by omega, by omega, for_range (lo := 0) (n := (n : Int).toNat) (fun i σ' H' => ∃ S' W', Rep X.K (gOf X) B S' σ' W' H' ∧ Stp W0 B W' H' ∧ Ex W1.I W'.I ∧ Inv i S') ⟨S, W1, r.step s1 ok1, z.trans r.ok s1, Ex.refl _, i0⟩ ?_ ?_⟩
  · rintro i σ' H' hi ⟨S', W', r', z', e', i'⟩
    rw [Int.zero_add]
    refine hs i S' (by omega) i' σ' W' H' _ r' z' (.int _) _ fun S2 σ2 W2 H2 r2 z2 e2 q2 => ?_
    exact q2 σ2 W2 H2 r2 z2 _ ⟨fun S3 σ3 W3 H3 r3 z3 e3 q3 => ⟨S3, W3, r3, z3, (e'.trans e2).trans e3, q3⟩, fun d3 v3 W3 H3 r3 z3 e3 n3 q3 => k.rt d3 v3 W3 H3 r3 z3 (((s1.I.trans e').trans e2).trans e3) n3 q3,
      fun S3 σ3 W3 H3 r3 z3 e3 q3 => k.nx S3 σ3 W3 H3 r3 z3 (((s1.I.trans e').trans e2).trans e3) q3, fun S3 σ3 W3 H3 r3 z3 e3 q3 => ⟨S3, W3, r3, z3, (e'.trans e2).trans e3, q3⟩⟩
  · rintro σ' H' ⟨S', W', r', z', e', i'⟩
    rw [Int.toNat_natCast] at i'
    exact k.nx S' σ' W' H' r' z' (s1.I.trans e') (hd n S' hn1 hn i')
end
end DL

set_option Elab.async false
set_option linter.all false
set_option maxRecDepth 100000
set_option maxHeartbeats 2000000
/-! d.get(k, x) of a dict that is data -/
namespace DL
open PySem L2 PyProof.Rows
section
variable {X : Cx} {B : Hp} {S : En} {Q : D → Prop} {o e f : Expr} {apos cpos : Pos}
theorem ed_get2 (hu : X.A.units + 1 < cLine) (h : ED X B S o fun d => ∃ kvs, d = .dcT kvs ∧ ED X B S e fun y => ED X B S f fun z => ∃ k, y = tD k ∧ Q ((look kvs k).getD z)) (m : M2 X o "get" apos e f cpos := by exact ⟨rfl, rfl, rfl, rfl⟩) : ED X B S (.Call (.Attribute o "get" apos) [e, f] [] cpos) Q := fun σ W H r R k0 => by
  refine PE.w (pe_dget2 hu we_pe we_pe we_pe m) ?_
  refine h σ W H r _ fun d v W1 H1 s1 ok1 n1 q1 => ?_
  obtain ⟨kvs, rfl, q1⟩ := q1
  cases id n1 with
  | @dcT _ a o ws hp mm =>
    refine ⟨a, rfl, .inr ⟨ws, .inr ⟨o, ok1.ex _ _ hp⟩⟩, ?_⟩
    refine q1 σ W1 H1 (r.step s1 ok1) _ fun y u W2 H2 s2 ok2 n2 q2 => ?_
    refine q2 σ W2 H2 ((r.step s1 ok1).step s2 ok2) _ fun z x W3 H3 s3 ok3 n3 q3 => ?_
    obtain ⟨k, rfl, q3⟩ := q3
    obtain ⟨q, rfl, hb⟩ := dn_tupkey ok3 (n2.mono s3.I)
    have m3 := (mm.mono s2.I).mono s3.I
    have e3 : Rd H3 a (.dT ws) := .inr ⟨o, ok3.ex _ _ (s3.I _ _ (s2.I _ _ hp))⟩
    refine ⟨_, dget_of e3 hb, ?_⟩
    have k3 := ((k0.step s1 ok1).step s2 ok2).step s3 ok3
    obtain ⟨l1, l2⟩ := dnt_look (k := k) m3
    cases hl : look kvs k with
    | none =>
      rw [l2 hl]
      rw [hl] at q3
      exact k3.now ok3 n3 q3
    | some d =>
      obtain ⟨v, ev, nv⟩ := l1 d hl
      rw [ev]
      rw [hl] at q3
      exact k3.now ok3 nv q3
end
end DL

set_option Elab.async false
set_option linter.all false
set_option maxRecDepth 100000
set_option maxHeartbeats 4000000
/-! k46: amount, +, scaled -/
namespace K46
open PySem L2 DL
section
variable {P : Program} {w : World} {K : PySem.W.Frag} {mg : Str → Option Value} {base : Heap} {C CB : Addr}
/-! the amount at a key -/
def amt (es : List Ent) (k : List Int) : Rat := ((es.find? fun e => decide (e.1 = k)).map (·.2)).getD 0
theorem amt_look {es : List Ent} (k : List Int) : (look (kvD C es) (ik k)).getD (Ra C (fr 0)) = Ra C (fr (amt es k)) := by
  unfold amt look kvD
  rw [List.find?_map]
  have e : ((fun kv : List Key × D => decide (kv.1 = ik k)) ∘ fun e : Ent => (ik e.1, Ra C (fr e.2))) = fun e : Ent => decide (e.1 = k) := funext fun e => by
    show decide (ik e.1 = ik k) = decide (e.1 = k)
    by_cases h : e.1 = k
    · rw [decide_eq_true h, decide_eq_true (by rw [h])]
    · rw [decide_eq_false h, decide_eq_false fun z => h (ik_inj z)]
  rw [e]
  cases es.find? fun e => decide (e.1 = k) with
  | none => rfl
  | some x => rfl
abbrev spAmount (C CB : Addr) : SpD := fun as Q => ∃ z n es kd, ∃ k : List Int, as = [.val (Bo C CB z n es), .val kd] ∧ SeqD kd (k.map D.int) ∧ k.length = z.length ∧ z.length ≤ 8 ∧ (∀ c ∈ k, (0 : Int) ≤ c) ∧ Q (Ra C (fr (amt es k)))
theorem sc_amount : FnScope ["self", "counts"] ["self", "counts"] (defScope (ble 6)) := ⟨rfl, rfl, rfl, by decide +kernel, rfl, by decide +kernel, by decide +kernel⟩
theorem ok_amount {f : Addr} {fd : FuncData} (F : FunS K "amount" "Blend.amount" (ble 6) f fd) (V : Bt P w K mg base C CB) (CO : Df P w K mg base "is_counts" 3 2 spCounts) : GnOk P w K mg base 4 f fd ["self", "counts"] (lift K (spAmount C CB)) := by
  refine gn_dl F sc_amount (fun as Q h => by obtain ⟨_, _, _, _, _, rfl, _⟩ := h; rfl) (fun cdv A outer s H hr hG W as Q h => ?_)
  obtain ⟨z, n, es, kd, k, rfl, sd, hl, h8, nn, q⟩ := h
  have T := V.T
  have hz : ((SX.S z).length : Int) = (z.length : Int) := by rw [SX.S_len]
  refine sds_cons (sd_if (td_not (td_val (ed_call CO (hr.mono (j := 3) (by decide)) hG (ad_cons (nm 1 (ad_cons (ed_callB T.T.len (ad_cons (fL T (nm 0 ⟨rfl, ad_nil (cd_lenS (z := SX.S z) (by rw [SX.S_len]; omega) (ad_nil ⟨kd, k, z.length, by rw [hz], sd, hl, by omega, nn, kB ?_⟩))⟩)))))))))))
  refine sds_nil (sds_cons (sd_ret (ed_get2 (un1 hr) (fA T (nm 0 ⟨rfl, _, rfl, ed_callTy T.T.tuple (ad_cons (nm 1 (ad_nil (cd_tupleS sd (ed_make V.L.V.mk1 (hr.mono (j := 3) (by decide)) hG (ad_cons (ed_int (ad_nil (mk_ok (n := 1) (by decide) (by decide) (by decide) (by decide) ⟨ik k, (tD_ik _).symm, ?_⟩)))))))))⟩)))))
  rw [low_one]
  show Q ((look (kvD C es) (ik k)).getD (Ra C (fr 0)))
  rw [amt_look]
  exact q
/-! gathered, keys more than once -/
def insE (acc : List Ent) (p : Ent) : List Ent := if p.1 ∈ acc.map (·.1) then acc.map (fun e => if e.1 = p.1 then (e.1, e.2 + p.2) else e) else acc ++ [p]
def gath (ps : List Ent) : List Ent := ps.foldl insE []
abbrev spGathG (C : Addr) : SpD := fun as Q => ∃ ps : List Ent, as = [.val (.lst (enD C ps))] ∧ ps.length ≤ 4000 ∧ (∀ e ∈ ps, Bq 3000 e.2) ∧ (∀ i, ∀ e ∈ gath (ps.take i), Bq 3000 e.2) ∧ Q (.lst (enD C (gath ps)))
/-! + -/
abbrev spBAdd (C CB : Addr) : SpD := fun as Q => ∃ z, ∃ m n n2 n3 b : Nat, ∃ es fs, as = [.val (Bo C CB z n es), .val (Bo C CB z n2 fs)] ∧ LetZ z ∧ z.length = m ∧ n3 ≤ 8 ∧ b ≤ 1000 ∧ GE m n b es ∧ GE m n2 b fs ∧ (es = [] ∨ fs = [] ∨ n = n2) ∧ (∀ i, ∀ e ∈ gath ((es ++ fs).take i), Bq 3000 e.2) ∧ GE m n3 b (gath (es ++ fs)) ∧ Q (Bo C CB z n3 (srt (gath (es ++ fs))))
/-! scaled -/
def scE (r : Rat) (e : Ent) : Ent := (e.1, e.2 * r)
abbrev spScaled (C CB : Addr) : SpD := fun as Q => ∃ z, ∃ m n b c : Nat, ∃ es x r, as = [.val (Bo C CB z n es), .val x] ∧ Okb z m n b es ∧ Nq C c x r ∧ 0 < r ∧ b + c ≤ 800 ∧ Q (Bo C CB z n (es.map (scE r)))
end
end K46

set_option Elab.async false
set_option linter.all false
set_option maxRecDepth 100000
set_option maxHeartbeats 2000000
/-! sorted of a list or a tuple of data, by itself -/
namespace SRT
open PySem PySem.W PySem.Calls PyProof.Rows
section
variable {prog : Program} {w : World} {A : Around} {E : Value → Shared → Prop} {s : Shared}
end
end SRT
namespace DL
open PySem PySem.Spec PySem.W PyProof.Rows L2
section
variable {X : Cx} {α : Type} {f : α → D} {enc : α → PyData} {bs : List α} {Q : D → Prop}
end
end DL

set_option Elab.async false
set_option linter.all false
set_option maxRecDepth 100000
set_option maxHeartbeats 2000000
/-! sorted(.., key=f), f a def of the text -/
namespace SRT
open PySem PySem.W PySem.Calls PyProof.Rows
section
variable {prog : Program} {w : World} {A : Around} {E : Value → Shared → Prop} {s : Shared} {a kS : Addr} {vs : List Value} {keys : Array Value} {e e1 : Nat} {P : PySem.Fin → Shared → Prop}
/-- the heap behind the sort: the keys' list emptied, the items put back -/
def endHeap (h : Heap) (kS a : Addr) (out : List Value) : Heap := (h.update kS (Obj.mapSeq fun _ => (#[] : Array Value))).update a (Obj.mapSeq fun _ => out.toArray)
end
end SRT
namespace DL
open PySem PySem.Spec PySem.W PyProof.Rows L2
section
variable {X : Cx} {α : Type} {f kD : α → D} {enc : α → PyData} {bs : List α} {Q : D → Prop} {B : Hp} {S : En}
theorem ed_imp {Q Q' : D → Prop} {e : Expr} (h : ED X B S e Q) (k : ∀ d, Q d → Q' d) : ED X B S e Q' := fun σ W H r R c => h σ W H r R fun d v W' H' st ok n q => c d v W' H' st ok n (k d q)
end
end DL

set_option Elab.async false
set_option linter.all false
set_option maxRecDepth 100000
set_option maxHeartbeats 2000000
/-! tuples and lists of ints: added, cut, looked into; comprehensions with a test, of two fors; enumerate of a tuple -/
namespace DL
open PySem PySem.Spec PyProof.Rows L2
section
variable {X : Cx} {B : Hp} {W0 : Wd} {S : En} {pos px p1 p p2 : Pos} {Q : D → Prop} {a b c e : Expr} {E : Ends'} {x : Str}
/-! ### + of tuples -/
/-! ### slices of lists -/
/-! ### in -/
abbrev pI (l : List Int) : PyData := .tuple (l.map .int)
theorem pyd_ints : ∀ l : List Int, PyDs (l.map D.int) (l.map .int)
  | [] => .nil
  | i :: l => .cons (.int i) (pyd_ints l)
theorem pyd_tI (l : List Int) : PyD (tI l) (pI l) := .tup (pyd_ints l)
theorem eqvA_ints : ∀ a b : List Int, PyData.eqvAll (a.map .int) (b.map .int) = decide (a = b)
  | [], [] => by simp [PyData.eqvAll]
  | [], _ :: _ => by simp [PyData.eqvAll]
  | _ :: _, [] => by simp [PyData.eqvAll]
  | x :: a, y :: b => by
    have := eqvA_ints a b
    simp only [List.map_cons, PyData.eqvAll, PyData.eqv, this]
    by_cases h : x = y <;> simp [h]
theorem eqv_pI (a b : List Int) : PyData.eqv (pI a) (pI b) = decide (a = b) := by
  show PyData.eqvAll _ _ = _
  exact eqvA_ints a b
theorem can_ints : ∀ l : List Int, PyData.canLayAll0 (l.map .int) = true
  | [] => rfl
  | i :: l => by
    rw [List.map_cons, PyData.canLayAll0, can_ints l]
    rfl
theorem shaped_pI (l : List Int) : SeqAt.shaped (pI l) = true := by
  unfold SeqAt.shaped
  rw [Bool.and_eq_true, decide_eq_true_eq]
  refine ⟨can_ints l, ?_⟩
  show PyData.depthAll _ + 1 ≤ 64
  rw [PySem.W.depth_ints]
  decide
end
end DL

set_option Elab.async false
set_option linter.all false
set_option maxRecDepth 100000
set_option maxHeartbeats 2000000
/-! comprehensions told by functions: what each item becomes, which are kept -/
namespace DL
open PySem PySem.Spec PyProof.Rows L2
theorem take1 {α β : Type} (u : α → β) {l : List α} {i : Nat} {a : α} (h : l[i]? = some a) : (l.take (i + 1)).map u = (l.take i).map u ++ [u a] := by
  rw [List.take_add_one, h]
  simp
theorem take1f {α β : Type} (t : α → Bool) (u : α → β) {l : List α} {i : Nat} {a : α} (h : l[i]? = some a) : ((l.take (i + 1)).filter t).map u = ((l.take i).filter t).map u ++ if t a = true then [u a] else [] := by
  rw [List.take_add_one, h]
  cases c : t a with
  | true => simp [List.filter_append, c]
  | false => simp [List.filter_append, c]
section
variable {X : Cx} {B : Hp} {W0 : Wd} {S : En} {pos : Pos} {e elt iter c : Expr} {x : Str} {px : Pos} {scope : Scope} {own : List (Str × Nat)} {d0 : D} {Q : List D → Prop} {E : Ends'} {α : Type} {f u : α → D} {t : α → Bool} {l : List α}
/-- [elt for x in a list or a tuple] -/
theorem fd_mp (j : Nat) (hc : X.calm = true) (hN : X.N.Nodup) (ok : BlkOk X.N X.env.scope scope own) (hg : AllBlk X scope fun Y => PG Y (.Name x px) (gName j)) (hj : j ∈ own.map (·.2)) (hl : l.length ≤ 50000) (sd : SeqD d0 (l.map f)) (hit : ED X B S iter fun d => d = d0)
    (he : ∀ a ∈ l, AllBlk X scope fun Y => ED Y B (itE S own j (f a)) elt fun y => y = u a) (q : Q (l.map u)) (hs : ∀ x, foldedSetIterable iter X.env x = pure x := by intro _; rfl) : FD X B S (.ListComp elt [⟨.Name x px, iter, [], 0⟩] scope pos) Q := by
  have step : ∀ (i : Nat) d acc, (l.map f)[i]? = some d → acc.length = i → acc = (l.take i).map u → AllBlk X scope fun Y => ED Y B (itE S own j d) elt fun y => acc ++ [y] = (l.take (i + 1)).map u := by
    intro i d acc hi _ ha s H0 C cl fp
    rw [List.getElem?_map] at hi
    obtain ⟨a, h1, rfl⟩ := Option.map_eq_some_iff.mp hi
    refine ed_imp (he a (List.mem_of_getElem? h1) s H0 C cl fp) fun y ey => ?_
    rw [take1 u h1, ha, ey]
  have fin : ∀ acc : List D, acc.length = (l.map f).length → acc = (l.take (l.map f).length).map u → Q acc := by
    intro acc _ e
    rw [List.length_map, List.take_length] at e
    rw [e]
    exact q
  have hl' : (l.map f).length ≤ 50000 := by rw [List.length_map]; exact hl
  rcases sd with rfl | rfl
  · exact fd_lcL (fun i acc => acc = (l.take i).map u) (fun d => itE S own j d) hc hN ok hg (ed_imp hit fun d e => ⟨e, hl', rfl⟩) (fun d _ => pat_name j hj) step fin hs
  · exact fd_lcT (fun i acc => acc = (l.take i).map u) (fun d => itE S own j d) hc hN ok hg (ed_imp hit fun d e => ⟨e, hl', rfl⟩) (fun d _ => pat_name j hj) step fin hs
/-- [elt for x in a list or a tuple if c] -/
theorem fd_ft (j : Nat) (hc : X.calm = true) (hN : X.N.Nodup) (ok : BlkOk X.N X.env.scope scope own) (hg : AllBlk X scope fun Y => PG Y (.Name x px) (gName j)) (hj : j ∈ own.map (·.2)) (hl : l.length ≤ 50000) (sd : SeqD d0 (l.map f)) (hit : ED X B S iter fun d => d = d0)
    (ht : ∀ a ∈ l, AllBlk X scope fun Y => TD Y B (itE S own j (f a)) c fun b => b = t a) (he : ∀ a ∈ l, t a = true → AllBlk X scope fun Y => ED Y B (itE S own j (f a)) elt fun y => y = u a) (q : Q ((l.filter t).map u)) (hs : ∀ x, foldedSetIterable iter X.env x = pure x := by intro _; rfl) : FD X B S (.ListComp elt [⟨.Name x px, iter, [c], 0⟩] scope pos) Q := by
  have step : ∀ (i : Nat) d acc, (l.map f)[i]? = some d → acc.length ≤ i → acc = ((l.take i).filter t).map u → AllBlk X scope fun Y => TD Y B (itE S own j d) c fun b => if b = true then AllBlk X scope fun Y => ED Y B (itE S own j d) elt fun y => acc ++ [y] = ((l.take (i + 1)).filter t).map u else acc = ((l.take (i + 1)).filter t).map u := by
    intro i d acc hi _ ha s H0 C cl fp σ W H r R k
    rw [List.getElem?_map] at hi
    obtain ⟨a, h1, rfl⟩ := Option.map_eq_some_iff.mp hi
    have am := List.mem_of_getElem? h1
    refine ht a am s H0 C cl fp σ W H r R fun b W' H' st ok' eb => k b W' H' st ok' ?_
    subst eb
    rw [take1f t u h1]
    cases ta : t a with
    | true =>
      refine iteT ?_
      intro s H0 C cl fp
      refine ed_imp (he a am ta s H0 C cl fp) fun y ey => ?_
      rw [ha, ey, if_pos rfl]
    | false =>
      refine iteF ?_
      rw [ha, if_neg (by decide), List.append_nil]
  have fin : ∀ acc : List D, acc.length ≤ (l.map f).length → acc = ((l.take (l.map f).length).filter t).map u → Q acc := by
    intro acc _ e
    rw [List.length_map, List.take_length] at e
    rw [e]
    exact q
  have hl' : (l.map f).length ≤ 50000 := by rw [List.length_map]; exact hl
  rcases sd with rfl | rfl
  · exact fd_lcLI (fun i acc => acc = ((l.take i).filter t).map u) (fun d => itE S own j d) hc hN ok hg (ed_imp hit fun d e => ⟨e, hl', rfl⟩) (fun d _ => pat_name j hj) step fin hs
  · exact fd_lcTI (fun i acc => acc = ((l.take i).filter t).map u) (fun d => itE S own j d) hc hN ok hg (ed_imp hit fun d e => ⟨e, hl', rfl⟩) (fun d _ => pat_name j hj) step fin hs
/-- [elt for x in range(n)] -/
theorem fd_mpR {p1 pos1 : Pos} {n : Nat} {u : Nat → D} (j : Nat) (hc : X.calm = true) (hN : X.N.Nodup) (hm : X.mg "range" = none) (ok : BlkOk X.N X.env.scope scope own) (hg : AllBlk X scope fun Y => PG Y (.Name x px) (gName j)) (hj : j ∈ own.map (·.2)) (hn : n ≤ 50000) (h : AD X B S [e] fun as => as = [.val (.int (n : Int))])
    (he : ∀ i, i < n → AllBlk X scope fun Y => ED Y B (itE S own j (.int (i : Int))) elt fun y => y = u i) (q : Q ((List.range n).map u)) (hgl : Gl X "range" := by rfl) (hst : starEach [e] X.env = [(false, eval e X.env)] := by rfl)
    (hs : ∀ x, foldedSetIterable (.Call (.Name "range" p1) [e] [] pos1) X.env x = pure x := by intro _; rfl) : FD X B S (.ListComp elt [⟨.Name x px, .Call (.Name "range" p1) [e] [] pos1, [], 0⟩] scope pos) Q := by
  refine fd_lcR (n := (n : Int)) (fun i acc => acc = (List.range i).map u) (fun d => itE S own j d) hc hN hm ok hg ?_ (fun d => pat_name j hj) ?_ ?_ hgl hst hs
  · intro σ W H r R k
    refine h σ W H r R fun as vs W' H' st ok' n' e' => k as vs W' H' st ok' n' ⟨e', by omega, by omega, rfl⟩
  · intro i acc hi _ ha s H0 C cl fp
    refine ed_imp (he i (by omega) s H0 C cl fp) fun y ey => ?_
    rw [ha, ey, List.range_succ, List.map_append]
    rfl
  · intro acc _ ha
    rw [Int.toNat_natCast] at ha
    rw [ha]
    exact q
end
end DL

set_option Elab.async false
set_option linter.all false
set_option maxRecDepth 100000
set_option maxHeartbeats 4000000
/-! k46: amounts moved -/
namespace K46
open PySem L2 DL
theorem paired_app {α β : Type} {R : α → β → Prop} : ∀ {a c : List α} {b d : List β}, Paired R a b → Paired R c d → Paired R (a ++ c) (b ++ d)
  | _, _, _, _, .nil, k => k
  | _, _, _, _, .cons h t, k => .cons h (paired_app t k)
abbrev eD (C : Addr) (e : Ent) : D := .tup [tI e.1, Ra C (fr e.2)]
def oth (es : List Ent) (k : List Int) : List Ent := es.filter fun e => !decide (e.1 = k)
def put (es : List Ent) (k : List Int) (r : Rat) : List Ent := oth es k ++ [(k, r)]
theorem GE.sub {m n b : Nat} {es fs : List Ent} (h : GE m n b es) (s : fs.Sublist es) : GE m n b fs :=
  ⟨fun e he => h.len e (s.subset he), fun e he => h.nn e (s.subset he), fun e he => h.sum e (s.subset he), fun e he => h.pos e (s.subset he), fun e he => h.bq e (s.subset he), (s.map _).nodup h.nd, Nat.le_trans s.length_le h.ln⟩
theorem ge_oth {m n b : Nat} {es : List Ent} (h : GE m n b es) (k : List Int) : GE m n b (oth es k) := h.sub List.filter_sublist
theorem oth_no {es : List Ent} {k : List Int} : k ∉ (oth es k).map (·.1) := fun h => by
  obtain ⟨e, he, h2⟩ := List.mem_map.mp h
  have := (List.mem_filter.mp he).2
  rw [decide_eq_true h2] at this
  cases this
theorem ge_put {m n b : Nat} {es : List Ent} (h : GE m n b es) {k : List Int} {r : Rat} (hk : k.length = m) (nn : ∀ c ∈ k, (0 : Int) ≤ c) (sm : k.sum = (n : Int)) (rp : 0 < r) (rb : Bq b r) (hl : es.length ≤ 59) : GE m n b (put es k r) := by
  have g := ge_oth h k
  have mm : ∀ e ∈ put es k r, e ∈ oth es k ∨ e = (k, r) := fun e he => by
    rcases List.mem_append.mp he with z | z
    · exact .inl z
    · exact .inr (List.mem_singleton.mp z)
  refine ⟨fun e he => ?_, fun e he => ?_, fun e he => ?_, fun e he => ?_, fun e he => ?_, ?_, ?_⟩
  · rcases mm e he with z | rfl
    · exact g.len e z
    · exact hk
  · rcases mm e he with z | rfl
    · exact g.nn e z
    · exact nn
  · rcases mm e he with z | rfl
    · exact g.sum e z
    · exact sm
  · rcases mm e he with z | rfl
    · exact g.pos e z
    · exact rp
  · rcases mm e he with z | rfl
    · exact g.bq e z
    · exact rb
  · show ((oth es k ++ [(k, r)]).map (·.1)).Nodup
    rw [List.map_append, List.nodup_append]
    refine ⟨g.nd, by simp, fun a ha c hc e => ?_⟩
    rw [List.mem_singleton.mp hc] at e
    rw [e] at ha
    exact oth_no ha
  · show (oth es k ++ [(k, r)]).length ≤ 60
    have : (oth es k).length ≤ es.length := List.length_filter_le _ _
    rw [List.length_append, List.length_singleton]
    omega
theorem ff {k : Nat} {A : Around} (r : Room k A) : A.units + 64 < cLine := by have := r.units; omega
section
variable {P : Program} {w : World} {K : PySem.W.Frag} {mg : Str → Option Value} {base : Heap} {C CB : Addr}
abbrev spOth (C CB : Addr) : SpD := fun as Q => ∃ z, ∃ m n b : Nat, ∃ es kd, ∃ k : List Int, as = [.val (Bo C CB z n es), .val kd] ∧ SeqD kd (k.map D.int) ∧ GE m n b es ∧ Q (.lst (enD C (oth es k)))
theorem sc_oth : FnScope ["blend", "counts", "entry"] ["blend", "counts"] (defScope (top 42)) := ⟨rfl, rfl, rfl, by decide +kernel, rfl, by decide +kernel, by decide +kernel⟩
theorem ok_oth {f : Addr} {fd : FuncData} (F : FunS K "_others" "_others" (top 42) f fd) (V : Bt P w K mg base C CB) : GnOk P w K mg base 2 f fd ["blend", "counts"] (lift K (spOth C CB)) := by
  refine gn_dl F sc_oth (fun as Q h => by obtain ⟨_, _, _, _, _, _, _, rfl, _⟩ := h; rfl) (fun cdv A outer s H hr hG W as Q h => ?_)
  obtain ⟨z, m, n, b, es, kd, k, rfl, sd, ge, q⟩ := h
  have nd := sc_oth.nd
  have ln := ge.ln
  refine sds_cons (sd_ret (ed_fd (fd_ft (f := eD C) (u := eD C) (t := fun e => !decide (e.1 = k)) (l := es) 2 rfl nd (own := [("entry", 2)]) (blkOk_by (by show blkC ["blend", "counts", "entry"] (defScope (top 42)) _ _ = true; decide +kernel)) (fun _ _ _ _ _ => pg_name (i := 2) nd rfl (Or.inl rfl)) (by simp) (by omega) (.inl rfl) (mE V ge (hr.mono (j := 1) (by decide)) hG (nm 0 ⟨rfl, rfl⟩)) ?_ ?_ q)))
  · intro e he s2 H0 C2 cl fp
    refine td_cmp (ed_ix (nm 2 (ed_int ⟨_, 0, tI e.1, .inr rfl, rfl, rfl, ed_callTy V.T.T.tuple (ad_cons (nm 1 (ad_nil (cd_tupleS sd (od_ned (ff hr) (pyd_tI e.1) (pyd_tI k) (shaped_pI _) (shaped_pI _) (kB ?_))))))⟩)))
    rw [eqv_pI]
  · intro e he _ s2 H0 C2 cl fp
    exact nm 2 rfl
/-- a product of the blend -/
theorem amt_in {es : List Ent} {k : List Int} {r : Rat} (nd : (es.map (·.1)).Nodup) (h : (k, r) ∈ es) : amt es k = r := by
  unfold amt
  induction es with
  | nil => cases h
  | cons e es ih =>
    rw [List.map_cons, List.nodup_cons] at nd
    rw [List.find?_cons]
    rcases List.mem_cons.mp h with rfl | h
    · rw [decide_eq_true rfl]; rfl
    · have ne : ¬ e.1 = k := fun z => nd.1 (by rw [z]; exact List.mem_map.mpr ⟨_, h, rfl⟩)
      rw [decide_eq_false ne]
      exact ih nd.2 h
abbrev spPro (C CB : Addr) : SpD := fun as Q => ∃ z, ∃ m n b : Nat, ∃ es kd, ∃ k : List Int, ∃ r, as = [.val (Bo C CB z n es), .val kd] ∧ SeqD kd (k.map D.int) ∧ z.length = m ∧ m ≤ 8 ∧ GE m n b es ∧ (k, r) ∈ es ∧ Q (.bl true)
theorem sc_pro : FnScope ["blend", "value"] ["blend", "value"] (defScope (top 36)) := ⟨rfl, rfl, rfl, by decide +kernel, rfl, by decide +kernel, by decide +kernel⟩
theorem ok_pro {f : Addr} {fd : FuncData} (F : FunS K "is_product_of" "is_product_of" (top 36) f fd) (V : Bt P w K mg base C CB) (CO : Df P w K mg base "is_counts" 3 2 spCounts) (AM : Mt P w K mg base CB "amount" 4 (spAmount C CB)) : GnOk P w K mg base 5 f fd ["blend", "value"] (lift K (spPro C CB)) := by
  refine gn_dl F sc_pro (fun as Q h => by obtain ⟨_, _, _, _, _, _, _, _, rfl, _⟩ := h; rfl) (fun cdv A outer s H hr hG W as Q h => ?_)
  obtain ⟨z, m, n, b, es, kd, k, r, rfl, sd, hm, h8, ge, me, q⟩ := h
  have T := V.T
  have hz : ((SX.S z).length : Int) = (m : Int) := by rw [SX.S_len, hm]
  refine sds_cons (sd_ret (ed_and (ed_call CO (hr.mono (j := 3) (by decide)) hG (ad_cons (nm 1 (ad_cons (ed_callB T.T.len (ad_cons (pL V (hr.mono (j := 2) (by decide)) hG (nm 0 ⟨rfl, ad_nil (cd_lenS (z := SX.S z) (by rw [SX.S_len]; omega) (ad_nil ⟨kd, k, m, by rw [hz], sd, ge.len _ me, by omega, ge.nn _ me, kB ?_⟩))⟩))))))))))
  show ED _ _ _ _ _
  refine ed_one (ed_cmp (pS T.T V.L.sign (hr.mono (j := 2) (by decide)) hG (ed_meth T.nu.cl AM (hr.mono (j := 4) (by decide)) hG (nm 0 ⟨bf C z n es, rfl, lkN (by decide +kernel) (by decide +kernel) (by decide +kernel), ad_cons (nm 1 (ad_nil ⟨z, n, es, kd, k, rfl, sd, by rw [hm]; exact ge.len _ me, by omega, ge.nn _ me, rfl, ed_int (od_gt ?_)⟩))⟩))))
  rw [amt_in ge.nd me, sg_pos (ge.pos _ me)]
  exact q
/-! with another amount -/
abbrev spMvd (C CB : Addr) : SpD := fun as Q => ∃ z, ∃ m n n2 b : Nat, ∃ es kd, ∃ k : List Int, ∃ ad r, as = [.val (Bo C CB z n2 es), .val kd, .val ad] ∧ (es = [] ∨ n2 = n) ∧ LetZ z ∧ z.length = m ∧ n ≤ 8 ∧ b ≤ 1000 ∧ GE m n b es ∧ es.length ≤ 59 ∧ SeqD kd (k.map D.int) ∧ k.length = m ∧ (∀ c ∈ k, (0 : Int) ≤ c) ∧ k.sum = (n : Int) ∧ Nq C b ad r ∧ 0 < r ∧ Q (Bo C CB z n (srt (put es k r)))
theorem sc_mvd : FnScope ["blend", "counts", "number"] ["blend", "counts", "number"] (defScope (top 43)) := ⟨rfl, rfl, rfl, by decide +kernel, rfl, by decide +kernel, by decide +kernel⟩
theorem ok_mvd {f : Addr} {fd : FuncData} (F : FunS K "_moved" "_moved" (top 43) f fd) (V : Bt P w K mg base C CB) (OT : Df P w K mg base "_others" 2 2 (spOth C CB)) : GnOk P w K mg base 9 f fd ["blend", "counts", "number"] (lift K (spMvd C CB)) := by
  refine gn_dl F sc_mvd (fun as Q h => by obtain ⟨_, _, _, _, _, _, _, _, _, _, rfl, _⟩ := h; rfl) (fun cdv A outer s H hr hG W as Q h => ?_)
  obtain ⟨z, m, n, n2, b, es, kd, k, ad, r, rfl, al, hz, hm, hn, hb, ge, ln, sd, kl, nn, sm, na, rp, q⟩ := h
  have ge2 : GE m n2 b es := by
    rcases al with rfl | rfl
    · exact GE.nil
    · exact ge
  have gp := ge_put ge kl nn sm rp na.b ln
  refine sds_cons (sd_ret (ed_makeA V.mkA (hr.mono (j := 8) (by decide)) hG (ad_cons (pL V (hr.mono (j := 2) (by decide)) hG (nm 0 ⟨rfl, ad_cons (ed_bin (ed_call OT (hr.mono (j := 2) (by decide)) hG (ad_cons (nm 0 (ad_cons (nm 1 (ad_nil ⟨z, m, n2, b, es, kd, k, rfl, sd, ge2, ?_⟩)))))))⟩)))))
  refine ed_lst (ad_cons (ed_tup (ad_cons (nm 1 (ad_cons (nm 2 (ad_nil ⟨[kd, ad], rfl, by simp, ad_nil ⟨[.tup [kd, ad]], rfl, by simp, od_catL (l := enD C (oth es k)) (m := [.tup [kd, ad]]) ?_ ?_⟩⟩)))))))
  · have : (oth es k).length ≤ es.length := List.length_filter_le _ _
    rw [enD_len, List.length_singleton]
    omega
  · exact ad_nil (.inl ⟨z, m, n, b, put es k r, _, rfl, hz, hm, hn, hb, gp, paired_app (pe_en (ge_oth ge k).bq) (.cons ⟨kd, ad, rfl, sd, na⟩ .nil), q⟩)
abbrev spCkm (C CB : Addr) : SpD := fun as Q => ∃ z, ∃ n : Nat, ∃ es kd, ∃ k : List Int, as = [.val (Bo C CB z n es), .val kd] ∧ z.length ≤ 8 ∧ SeqD kd (k.map D.int) ∧ k.length = z.length ∧ (∀ c ∈ k, (0 : Int) ≤ c) ∧ k.sum ≤ 8 ∧ (es = [] ∨ k.sum = (n : Int)) ∧ Q .non
theorem sc_ckm : FnScope ["blend", "counts", "degree"] ["blend", "counts"] (defScope (top 40)) := ⟨rfl, rfl, rfl, by decide +kernel, rfl, by decide +kernel, by decide +kernel⟩
theorem ok_ckm {f : Addr} {fd : FuncData} (F : FunS K "_check_moved" "_check_moved" (top 40) f fd) (V : Bt P w K mg base C CB) (CO : Df P w K mg base "is_counts" 3 2 spCounts) : GnOk P w K mg base 4 f fd ["blend", "counts"] (lift K (spCkm C CB)) := by
  refine gn_dl F sc_ckm (fun as Q h => by obtain ⟨_, _, _, _, _, rfl, _⟩ := h; rfl) (fun cdv A outer s H hr hG W as Q h => ?_)
  obtain ⟨z, n, es, kd, k, rfl, h8, sd, kl, nn, s8, al, q⟩ := h
  have nd := sc_ckm.nd
  have T := V.T
  obtain ⟨tk, md⟩ := T.md
  have hz : ((SX.S z).length : Int) = (z.length : Int) := by rw [SX.S_len]
  refine sds_cons (sd_expr (ed_call V.ck (hr.mono (j := 1) (by decide)) hG (ad_cons (nm 0 (ad_nil ⟨z, n, es, rfl, ?_⟩)))))
  refine sds_cons (sd_if (td_not (td_val (ed_call CO (hr.mono (j := 3) (by decide)) hG (ad_cons (nm 1 (ad_cons (ed_callB T.T.len (ad_cons (pL V (hr.mono (j := 2) (by decide)) hG (nm 0 ⟨rfl, ad_nil (cd_lenS (z := SX.S z) (by rw [SX.S_len]; omega) (ad_nil ⟨kd, k, z.length, by rw [hz], sd, kl, by omega, nn, kB ?_⟩))⟩)))))))))))
  show SDs _ _ _ _ _ _
  refine sds_nil (sds_cons (sd_set 2 nd rfl (ed_callB T.sum (ad_cons (nm 1 (ad_nil (cd_sumS rfl sd ?_)))))))
  refine sds_cons (sd_if (td_of (tw_or (td_cmp (nm 2 (ed_gint md (od_gt (kB ?_))))))))
  rw [decide_eq_false (by omega)]
  show TW _ _ _ _ _
  refine tw_or1 (td_of (tw_and (td_not (td_val (pN V (hr.mono (j := 2) (by decide)) hG (nm 0 ⟨rfl, kB ?_⟩))))))
  rcases al with rfl | al
  · show SDs _ _ _ _ _ _
    exact sds_nil (sds_nil q)
  · cases he : es.isEmpty with
    | true =>
      show SDs _ _ _ _ _ _
      exact sds_nil (sds_nil q)
    | false =>
      show TW _ _ _ _ _
      refine tw_and1 (td_cmp (nm 2 (pD V (hr.mono (j := 2) (by decide)) hG (nm 0 ⟨rfl, ?_⟩))))
      have e2 : dgD n es = .int (n : Int) := by unfold dgD; rw [he]; rfl
      rw [e2]
      refine od_nei (kB ?_)
      rw [decide_eq_true al]
      show SDs _ _ _ _ _ _
      exact sds_nil (sds_nil q)
abbrev spCka (C : Addr) : SpD := fun as Q => ∃ ad r, as = [.val ad] ∧ Nq C 1000 ad r ∧ 0 < r ∧ Q .non
theorem sc_cka : FnScope ["number"] ["number"] (defScope (top 41)) := ⟨rfl, rfl, rfl, by decide +kernel, rfl, by decide +kernel, by decide +kernel⟩
theorem ok_cka {f : Addr} {fd : FuncData} (F : FunS K "_check_above" "_check_above" (top 41) f fd) (AB : Df P w K mg base "is_above" 5 1 (spAbove C)) : GnOk P w K mg base 6 f fd ["number"] (lift K (spCka C)) := by
  refine gn_dl F sc_cka (fun as Q h => by obtain ⟨_, _, rfl, _⟩ := h; rfl) (fun cdv A outer s H hr hG W as Q h => ?_)
  obtain ⟨ad, r, rfl, na, rp, q⟩ := h
  refine sds_cons (sd_if (td_not (td_val (ed_call AB hr hG (ad_cons (nm 0 (ad_nil ⟨ad, r, rfl, na, rp, kB ?_⟩)))))))
  show SDs _ _ _ _ _ _
  exact sds_nil (sds_nil q)
theorem sc_wam : FnScope ["blend", "counts", "number"] ["blend", "counts", "number"] (defScope (top 38)) := ⟨rfl, rfl, rfl, by decide +kernel, rfl, by decide +kernel, by decide +kernel⟩
theorem ok_wam {f : Addr} {fd : FuncData} (F : FunS K "with_amount" "with_amount" (top 38) f fd) (CM : Df P w K mg base "_check_moved" 4 2 (spCkm C CB)) (CA : Df P w K mg base "_check_above" 6 1 (spCka C)) (MV : Df P w K mg base "_moved" 9 3 (spMvd C CB)) : GnOk P w K mg base 10 f fd ["blend", "counts", "number"] (lift K (spMvd C CB)) := by
  refine gn_dl F sc_wam (fun as Q h => by obtain ⟨_, _, _, _, _, _, _, _, _, _, rfl, _⟩ := h; rfl) (fun cdv A outer s H hr hG W as Q h => ?_)
  obtain ⟨z, m, n, n2, b, es, kd, k, ad, r, rfl, al, hz, hm, hn, hb, ge, ln, sd, kl, nn, sm, na, rp, q⟩ := h
  have h8 := hz.l8
  refine sds_cons (sd_expr (ed_call CM (hr.mono (j := 4) (by decide)) hG (ad_cons (nm 0 (ad_cons (nm 1 (ad_nil ⟨z, n2, es, kd, k, rfl, h8, sd, by rw [kl, hm], nn, by rw [sm]; omega, al.imp id (fun e => by rw [sm, e]), ?_⟩)))))))
  refine sds_cons (sd_expr (ed_call CA (hr.mono (j := 6) (by decide)) hG (ad_cons (nm 2 (ad_nil ⟨ad, r, rfl, na.mono hb, rp, ?_⟩)))))
  exact sds_cons (sd_ret (ed_call MV hr hG (ad_cons (nm 0 (ad_cons (nm 1 (ad_cons (nm 2 (ad_nil ⟨z, m, n, n2, b, es, kd, k, ad, r, rfl, al, hz, hm, hn, hb, ge, ln, sd, kl, nn, sm, na, rp, q⟩)))))))))
/-! without one -/
abbrev spWo (C CB : Addr) : SpD := fun as Q => ∃ z, ∃ m n b : Nat, ∃ es kd, ∃ k : List Int, ∃ r, as = [.val (Bo C CB z n es), .val kd] ∧ LetZ z ∧ z.length = m ∧ n ≤ 8 ∧ b ≤ 1000 ∧ GE m n b es ∧ SeqD kd (k.map D.int) ∧ (k, r) ∈ es ∧ Q (Bo C CB z n (srt (oth es k)))
theorem sc_wo : FnScope ["blend", "counts"] ["blend", "counts"] (defScope (top 39)) := ⟨rfl, rfl, rfl, by decide +kernel, rfl, by decide +kernel, by decide +kernel⟩
theorem ok_wo {f : Addr} {fd : FuncData} (F : FunS K "without" "without" (top 39) f fd) (V : Bt P w K mg base C CB) (PR : Df P w K mg base "is_product_of" 5 2 (spPro C CB)) (OT : Df P w K mg base "_others" 2 2 (spOth C CB)) : GnOk P w K mg base 9 f fd ["blend", "counts"] (lift K (spWo C CB)) := by
  refine gn_dl F sc_wo (fun as Q h => by obtain ⟨_, _, _, _, _, _, _, _, rfl, _⟩ := h; rfl) (fun cdv A outer s H hr hG W as Q h => ?_)
  obtain ⟨z, m, n, b, es, kd, k, r, rfl, hz, hm, hn, hb, ge, sd, me, q⟩ := h
  have h8 := hz.l8
  refine sds_cons (sd_expr (ed_call V.ck (hr.mono (j := 1) (by decide)) hG (ad_cons (nm 0 (ad_nil ⟨z, n, es, rfl, ?_⟩)))))
  refine sds_cons (sd_if (td_not (td_val (ed_call PR (hr.mono (j := 5) (by decide)) hG (ad_cons (nm 0 (ad_cons (nm 1 (ad_nil ⟨z, m, n, b, es, kd, k, r, rfl, sd, hm, by omega, ge, me, kB ?_⟩)))))))))
  show SDs _ _ _ _ _ _
  refine sds_nil (sds_cons (sd_ret (ed_makeA V.mkA (hr.mono (j := 8) (by decide)) hG (ad_cons (pL V (hr.mono (j := 2) (by decide)) hG (nm 0 ⟨rfl, ad_cons (ed_call OT (hr.mono (j := 2) (by decide)) hG (ad_cons (nm 0 (ad_cons (nm 1 (ad_nil ⟨z, m, n, b, es, kd, k, rfl, sd, ge, ?_⟩))))))⟩))))))
  exact ad_nil (.inl ⟨z, m, n, b, oth es k, _, rfl, hz, hm, hn, hb, ge_oth ge k, pe_en (ge_oth ge k).bq, q⟩)
end
end K46

set_option Elab.async false
set_option linter.all false
set_option maxRecDepth 100000
set_option maxHeartbeats 8000000
/-! k46: what the law draws; its own fractions -/
namespace K46
open PySem L2 DL
section
variable {X : Cx} {B : Hp} {W0 : Wd} {S : En} {st : Stmt} {E : Ends'}
theorem sd_mid (QS : En → Prop) (k : ∀ S', QS S' → E.nx S') (h : SD X B W0 S st { E with nx := QS }) : SD X B W0 S st E := fun σ W H r z D' q => h σ W H r z D' ⟨fun S' σ' W' H' r' z' x' y => q.nx S' σ' W' H' r' z' x' (k S' y), q.rt, q.bk, q.ct⟩
end
section
variable {P : Program} {w : World} {K : PySem.W.Frag} {mg : Str → Option Value} {base : Heap} {C : Addr}
abbrev spPot : SpN := fun as Q => ∃ ns, ∃ k : Nat, as = [.val (.frl ns), .val (.int (k : Int))] ∧ k < 100 ∧ ∀ a b : Int, 0 ≤ b ∧ b < 2 ^ 31 → Q [.int a, .int b]
theorem sc_pot : FnScope ["_law_script", "_law_k", "_law_cell"] ["_law_script", "_law_k"] (defScope (top 45)) := ⟨rfl, rfl, rfl, by decide +kernel, rfl, by decide +kernel, by decide +kernel⟩
theorem ok_pot {f : Addr} {fd : FuncData} (F : FunS K "_law_pot" "_law_pot" (top 45) f fd) (T : Txt K mg C) : GnOk P w K mg base 1 f fd ["_law_script", "_law_k"] (liftN K spPot) := by
  refine gn_new F sc_pot (fun as Q h => by obtain ⟨_, _, rfl, _⟩ := h; rfl) (fun cdv A outer s H hr hG W as Q h => ?_)
  obtain ⟨ns, k, rfl, hk, q⟩ := h
  have nd := sc_pot.nd
  refine sn_cons (sd_mid (fun S' => ∃ z : Int, S' = [some (.val (.frl ns)), some (.val (.int (k : Int))), some (.val (.int z))]) ?_ (sd_set 2 nd rfl (ed_ifx (td_cmp (nm 1 (ed_callB T.len (ad_cons (nm 0 (ad_nil (cd_lenF (od_lt (kB ?_))))))))))))
  · rintro S' ⟨z, rfl⟩
    refine sn_ret (fd_lst (ad_cons (ed_callB T.max (ad_cons (ed_int (ad_cons (ed_bin (nm 2 (ed_bin (ed_int (ed_int (od_pow ⟨by decide, by decide, by decide⟩ (od_sub (ad_nil (cd_max rfl (ad_cons (ed_bin (ed_bin (ed_callTy T.int (ad_cons (ed_bin (ed_bin (ed_bin (ed_bin (ed_callTy T.int (ad_cons (nm 2 (ad_nil (cd_int (ed_int (od_mod (by decide) (ed_int (od_mulS (.inr (by decide)) (ed_bin (ed_int (nm 1 (od_mulS (.inl (by decide)) (od_add (ed_int (od_add (ad_nil (cd_int (ed_int (od_mod (by decide) (ed_int (od_add (ad_nil ⟨[.int _, .int _], rfl, by simp, q _ _ ?_⟩)))))))))))))))))))))))))))))))))))))))))))))))
    constructor <;> omega
  · by_cases c : k < ns.length
    · rw [decide_eq_true (by omega)]
      show ED _ _ _ _ _
      exact ed_callB T.abs (ad_cons (ed_ixF (nm 0 (nm 1 ⟨_, k, ns[k], rfl, rfl, List.getElem?_eq_getElem c, ad_nil (cd_abs ⟨_, rfl⟩)⟩))))
    · rw [decide_eq_false (by omega)]
      show ED _ _ _ _ _
      exact ed_bin (ed_bin (ed_int (nm 1 (od_mulS (.inl (by decide)) (ed_int (od_add ⟨_, rfl⟩))))))
theorem sc_draw : FnScope ["_law_pot_here", "_law_size", "_law_digit"] ["_law_pot_here", "_law_size"] (defScope (top 46)) := ⟨rfl, rfl, rfl, by decide +kernel, rfl, by decide +kernel, by decide +kernel⟩
abbrev spDraw : SpD := fun as Q => ∃ n : Int, as = [.pot, .val (.int n)] ∧ 0 < n ∧ n < 1073741824 ∧ ∀ d : Nat, (d : Int) < n → Q (.int (d : Int))
theorem small_mul {a b : Int} (h : 0 ≤ a ∧ a < 2 ^ 31) (k : 0 ≤ b ∧ b < 2 ^ 31) : (-(2 ^ 64) < a ∧ a < 2 ^ 64) ∨ (-(2 ^ 64) < b ∧ b < 2 ^ 64) := .inl (by omega)
theorem ok_draw {f : Addr} {fd : FuncData} (F : FunS K "_law_draw" "_law_draw" (top 46) f fd) (T : Txt K mg C) : GnOk P w K mg base 1 f fd ["_law_pot_here", "_law_size"] (lift K spDraw) := by
  refine gn_dl F sc_draw (fun as Q h => by obtain ⟨n, rfl, _⟩ := h; rfl) (fun cdv A outer s H hr hG W as Q h => ?_)
  obtain ⟨n, rfl, h0, h1, q'⟩ := h
  have q : ∀ d : Int, 0 ≤ d → d < n → Q (.int d) := fun d d0 d1 => by
    have := q' d.toNat (by rw [Int.toNat_of_nonneg d0]; exact d1)
    rw [Int.toNat_of_nonneg d0] at this
    exact this
  have nd := sc_draw.nd
  refine sds_cons (sd_if (td_cmp (ed_potix (j := 0) 0 rfl rfl (by decide) fun z _ => ed_int (od_gt (kB ?_)))))
  cases decide (0 < z) with
  | true =>
    refine sds_cons (sd_asg (ed_callB T.divmod (ad_cons (ed_potix (j := 0) 0 rfl rfl (by decide) fun z _ => ad_cons (nm 1 (ad_nil (cd_divmod ⟨h0, h1⟩ ?_)))))))
    refine gd_tup rfl (gds_cons (gd_pot (j := 0) 0 rfl rfl (by decide) (fun z => absurd z (by decide)) (gds_cons (gd_name 2 nd rfl (gds_nil ?_))))) rfl
    exact sds_cons (sd_ret (nm 2 (q _ (Int.emod_nonneg _ (by omega)) (Int.emod_lt_of_pos _ h0))))
  | false =>
    refine sds_nil (sds_cons (sd_asg (ed_bin (ed_callTy T.int (ad_cons (ed_bin (ed_bin (ed_potix (j := 1) 0 rfl rfl (by decide) fun z hz => ed_int (od_mulS (.inr (by decide)) (ed_int (od_add (ad_nil (cd_int (ed_int (od_mod (by decide) ?_)))))))))))))))
    refine gd_pot (j := 1) 0 rfl rfl (by decide) (fun _ => ⟨Int.emod_nonneg _ (by decide), Int.lt_trans (Int.emod_lt_of_pos _ (by decide)) (by decide)⟩) ?_
    refine sds_cons (sd_ret (ed_bin (ed_callTy T.int (ad_cons (ed_bin (ed_bin (ed_callTy T.int (ad_cons (ed_bin (ed_potix (j := 1) 0 rfl rfl (by decide) fun y hy => ed_potix (j := 1) 0 rfl rfl (by decide) fun x hx => od_mulS (small_mul (hy rfl) (hx rfl)) (ad_nil (cd_int (ed_int (od_mod (by decide) (ed_int (od_fdiv ⟨by decide, by decide⟩ (ad_nil (cd_int (nm 1 (od_mod h0 ?_))))))))))))))))))))
    exact q _ (Int.emod_nonneg _ (by omega)) (Int.emod_lt_of_pos _ h0)
theorem sc_pick : FnScope ["_law_pot_here", "_law_some"] ["_law_pot_here", "_law_some"] (defScope (top 47)) := ⟨rfl, rfl, rfl, by decide +kernel, rfl, by decide +kernel, by decide +kernel⟩
abbrev spPick : SpD := fun as Q => ∃ l : List D, as = [.pot, .val (.lst l)] ∧ 0 < l.length ∧ l.length < 1000 ∧ ∀ d ∈ l, Q d
theorem ok_pick {f : Addr} {fd : FuncData} (F : FunS K "_law_pick" "_law_pick" (top 47) f fd) (T : Txt K mg C) (G : Df P w K mg base "_law_draw" 1 2 spDraw) : GnOk P w K mg base 2 f fd ["_law_pot_here", "_law_some"] (lift K spPick) := by
  refine gn_dl F sc_pick (fun as Q h => by obtain ⟨n, rfl, _⟩ := h; rfl) (fun cdv A outer s H hr hG W as Q h => ?_)
  obtain ⟨l, rfl, h0, h1, q⟩ := h
  refine sds_cons (sd_ret (ed_ix (nm 1 (ed_call G hr hG (ad_pot 0 rfl rfl (ad_cons (ed_callB T.len (ad_cons (nm 1 (ad_nil (cd_len (.inl rfl) (ad_nil ⟨(l.length : Int), rfl, by omega, by omega, fun d d1 => ?_⟩))))))))))))
  have hd : d < l.length := by omega
  exact ⟨l, d, l[d], .inl rfl, rfl, atI_nat (List.getElem?_eq_getElem hd), q _ (List.getElem_mem _)⟩
theorem sc_low : FnScope ["_law_top", "_law_base", "_law_one", "_law_other"] ["_law_top", "_law_base"] (defScope (top 48)) := ⟨rfl, rfl, rfl, by decide +kernel, rfl, by decide +kernel, by decide +kernel⟩
abbrev spLow : SpD := fun as Q => ∃ t b, as = [.val (.int t), .val (.int b)] ∧ b ≠ 0 ∧ t.natAbs < 2 ^ 8000 ∧ b.natAbs < 2 ^ 8000 ∧ Q (pr (low t b))
theorem ab_cast (i : Int) : (if i < 0 then -i else i) = ((i.natAbs : Nat) : Int) := by split <;> omega
theorem ok_low {f : Addr} {fd : FuncData} (F : FunS K "_law_low" "_law_low" (top 48) f fd) (T : Txt K mg C) : GnOk P w K mg base 1 f fd ["_law_top", "_law_base"] (lift K spLow) := by
  refine gn_dl F sc_low (fun as Q h => by obtain ⟨_, _, rfl, _⟩ := h; rfl) (fun cdv A outer s H hr hG W as Q h => ?_)
  obtain ⟨t, b, rfl, hb, bt, bb, k⟩ := h
  have nd := sc_low.nd
  refine sds_cons (sd_par 2 3 rfl nd rfl rfl (by decide) rfl rfl (ad_cons (ed_callB T.abs (ad_cons (nm 0 (ad_nil (cd_abs (ad_cons (ed_callB T.abs (ad_cons (nm 1 (ad_nil (cd_abs (ad_nil ⟨_, _, rfl, ?_⟩))))))))))))))
  refine sds_cons (sd_while PassesOwn.never (fun m S' => ∃ u v : Nat, v = m ∧ Nat.gcd u v = Nat.gcd t.natAbs b.natAbs ∧ S' = [some (.val (.int t)), some (.val (.int b)), some (.val (.int u)), some (.val (.int v))]) b.natAbs ⟨t.natAbs, b.natAbs, rfl, rfl, ?_⟩ ?_)
  · rw [ab_cast, ab_cast]
    rfl
  · rintro m S' ⟨u, v, rfl, hg, rfl⟩
    refine td_cmp (nm 3 (ed_int (od_gt (kB ?_))))
    by_cases c : 0 < v
    · rw [decide_eq_true (Int.natCast_pos.mpr c)]
      refine sds_cons (sd_par 2 3 rfl nd rfl rfl (by decide) rfl rfl (ad_cons (nm 3 (ad_cons (ed_bin (ed_callTy T.int (ad_cons (nm 2 (ad_nil (cd_int (nm 3 (od_mod (Int.natCast_pos.mpr c) (ad_nil ⟨_, _, rfl, sds_nil ⟨u % v, Nat.mod_lt _ c, v, u % v, rfl, ?_, rfl⟩⟩)))))))))))))
      rw [← hg, Nat.gcd_comm u v, Nat.gcd_rec v u, Nat.gcd_comm]
    · have v0 : v = 0 := by omega
      subst v0
      rw [decide_eq_false (by decide)]
      rw [Nat.gcd_zero_right] at hg
      subst hg
      refine sds_cons (sd_set 2 nd rfl (ed_ifx (td_cmp (nm 1 (ed_int (od_lt (kB ?_)))))))
      have fin : SDs (Bx P w K mg base ["_law_top", "_law_base", "_law_one", "_law_other"] "_law_low" (top 48) f cdv A outer s H) H W [some (.val (.int t)), some (.val (.int b)), some (.val (.int (gs t b))), some (.val (.int ((0 : Nat) : Int)))] ((defBody (top 48)).drop 3) { nx := fun _ => Q .non, rt := Q } := by
        have gb := gs_bd (t := t) hb bb
        have g0 := gs_ne (t := t) hb
        refine sds_cons (sd_ret (ed_tup (ad_cons (ed_bin (nm 0 (nm 2 (od_fdiv (cdivg g0 gb (by decide)) (ad_cons (ed_bin (nm 1 (nm 2 (od_fdiv (cdivg g0 gb (by decide)) (ad_nil ⟨[.int _, .int _], rfl, by simp, k⟩)))))))))))))
      by_cases p : 0 < b
      · rw [decide_eq_false (by omega)]
        refine nm 2 ?_
        have e : gs t b = (Nat.gcd t.natAbs b.natAbs : Int) := by unfold gs; rw [if_pos p]
        rw [e] at fin
        exact fin
      · rw [decide_eq_true (by omega)]
        refine ed_neg (nm 2 ⟨_, rfl, ?_⟩)
        have e : gs t b = -(Nat.gcd t.natAbs b.natAbs : Int) := by unfold gs; rw [if_neg p]
        rw [e] at fin
        exact fin
theorem lowArg {n : Nat} {t b : Int} {Q : D → Prop} (hb : b ≠ 0) (h1 : t.natAbs < 2 ^ n) (h2 : b.natAbs < 2 ^ n) (hn : n ≤ 8000) (q : Q (pr (low t b))) : spLow [.val (.int t), .val (.int b)] Q :=
  ⟨t, b, rfl, hb, bd_mono h1 hn, bd_mono h2 hn, q⟩
section
variable {X : Cx} {B : Hp} {S : En} {pos pos2 : Pos} {Q : D → Prop} {o : Expr} {j2 : Option Str}
theorem at0 {a b : D} : atI [a, b] ((0 : Int)) = some a := atI_nat (j := 0) rfl
theorem at1 {a b : D} : atI [a, b] ((1 : Int)) = some b := atI_nat (j := 1) rfl
/-- o[0], o[1] of a fraction -/
theorem i0 {p : Fr} {j pos2} (h : ED X B S o fun x => x = pr p ∧ Q (.int p.1)) : ED X B S (.Subscript o (.Constant (.int 0) j pos2) pos) Q :=
  ed_ix (fun σ W H r R c => h σ W H r R fun d v W' H' s ok n ⟨e, q⟩ => c d v W' H' s ok n (ed_int ⟨[.int p.1, .int p.2], 0, .int p.1, .inr e, rfl, at0, q⟩))
theorem i1 {p : Fr} {j pos2} (h : ED X B S o fun x => x = pr p ∧ Q (.int p.2)) : ED X B S (.Subscript o (.Constant (.int 1) j pos2) pos) Q :=
  ed_ix (fun σ W H r R c => h σ W H r R fun d v W' H' s ok n ⟨e, q⟩ => c d v W' H' s ok n (ed_int ⟨[.int p.1, .int p.2], 1, .int p.2, .inr e, rfl, at1, q⟩))
end
abbrev spFF (f : Fr → Fr → Fr) : SpD := fun as Q => ∃ p q, as = [.val (pr p), .val (pr q)] ∧ Bd 3000 p ∧ Bd 3000 q ∧ Q (pr (f p q))
theorem sc_sum : FnScope ["_law_one", "_law_other"] ["_law_one", "_law_other"] (defScope (top 49)) := ⟨rfl, rfl, rfl, by decide +kernel, rfl, by decide +kernel, by decide +kernel⟩
theorem ok_sum {f : Addr} {fd : FuncData} (F : FunS K "_law_sum" "_law_sum" (top 49) f fd) (G : Df P w K mg base "_law_low" 1 2 spLow) : GnOk P w K mg base 2 f fd ["_law_one", "_law_other"] (lift K (spFF addF)) := by
  refine gn_dl F sc_sum (fun as Q h => by obtain ⟨_, _, rfl, _⟩ := h; rfl) (fun cdv A outer s H hr hG W as Q h => ?_)
  obtain ⟨p, q, rfl, hp, hq, k⟩ := h
  exact sds_cons (sd_ret (ed_call G hr hG (ad_cons (ed_bin (ed_bin (i0 (nm 0 ⟨rfl, i1 (nm 1 ⟨rfl, od_mul (cm hp.t hq.b) (ed_bin (i0 (nm 1 ⟨rfl, i1 (nm 0 ⟨rfl, od_mul (cm hq.t hp.b) (od_add (ad_cons (ed_bin (i1 (nm 0 ⟨rfl, i1 (nm 1 ⟨rfl, od_mul (cm hp.b hq.b) (ad_nil (lowArg (n := 6001) (mul_ne hp.ne hq.ne) (add_bd (mul_bd hp.t hq.b) (mul_bd hq.t hp.b)) (bd_mono (mul_bd hp.b hq.b) (by decide)) (by decide) k))⟩)⟩)))))⟩)⟩)))⟩)⟩)))))))
theorem sc_by : FnScope ["_law_one", "_law_other"] ["_law_one", "_law_other"] (defScope (top 50)) := ⟨rfl, rfl, rfl, by decide +kernel, rfl, by decide +kernel, by decide +kernel⟩
theorem ok_by {f : Addr} {fd : FuncData} (F : FunS K "_law_product" "_law_product" (top 50) f fd) (G : Df P w K mg base "_law_low" 1 2 spLow) : GnOk P w K mg base 2 f fd ["_law_one", "_law_other"] (lift K (spFF mulF)) := by
  refine gn_dl F sc_by (fun as Q h => by obtain ⟨_, _, rfl, _⟩ := h; rfl) (fun cdv A outer s H hr hG W as Q h => ?_)
  obtain ⟨p, q, rfl, hp, hq, k⟩ := h
  exact sds_cons (sd_ret (ed_call G hr hG (ad_cons (ed_bin (i0 (nm 0 ⟨rfl, i0 (nm 1 ⟨rfl, od_mul (cm hp.t hq.t) (ad_cons (ed_bin (i1 (nm 0 ⟨rfl, i1 (nm 1 ⟨rfl, od_mul (cm hp.b hq.b) (ad_nil (lowArg (n := 6000) (mul_ne hp.ne hq.ne) (mul_bd hp.t hq.t) (mul_bd hp.b hq.b) (by decide) k))⟩)⟩))))⟩)⟩))))))
theorem dv_pos {a b : Int} (ha : 0 < a) (hb : 0 < b) : 0 < Rat.divInt a b := by
  rw [Rat.divInt_eq_div, Rat.div_def]
  exact Rat.mul_pos (Rat.intCast_pos.mpr ha) (Rat.inv_pos.mpr (Rat.intCast_pos.mpr hb))
abbrev prq (r : Rat) : D := pr (fr r)
abbrev spAm : SpD := fun as Q => as = [.pot] ∧ ∀ r : Rat, 0 < r → Bq 10 r → Q (prq r)
theorem sc_am : FnScope ["_law_pot_here"] ["_law_pot_here"] (defScope (top 51)) := ⟨rfl, rfl, rfl, by decide +kernel, rfl, by decide +kernel, by decide +kernel⟩
theorem ok_am {f : Addr} {fd : FuncData} (F : FunS K "_law_amount" "_law_amount" (top 51) f fd) (DR : Df P w K mg base "_law_draw" 1 2 spDraw) (PI : Df P w K mg base "_law_pick" 2 2 spPick) (LO : Df P w K mg base "_law_low" 1 2 spLow) : GnOk P w K mg base 3 f fd ["_law_pot_here"] (lift K spAm) := by
  refine gn_dl F sc_am (fun as Q h => by obtain ⟨rfl, _⟩ := h; rfl) (fun cdv A outer s H hr hG W as Q h => ?_)
  obtain ⟨rfl, q⟩ := h
  refine sds_cons (sd_ret (ed_call LO (hr.mono (j := 1) (by decide)) hG (ad_cons (ed_bin (ed_int (ed_call DR (hr.mono (j := 1) (by decide)) hG (ad_pot 0 rfl rfl (ad_cons (ed_int (ad_nil ⟨30, rfl, by decide, by decide, fun d hd => od_add ?_⟩))))))))))
  refine ad_cons (ed_call PI (hr.mono (j := 2) (by decide)) hG (ad_pot 0 rfl rfl ?_))
  refine ad_cons (ed_lst ?_)
  refine ad_cons (ed_int ?_)
  refine ad_cons (ed_int ?_)
  refine ad_cons (ed_int ?_)
  refine ad_cons (ed_int ?_)
  refine ad_cons (ed_int ?_)
  refine ad_nil ⟨[.int 1, .int 1, .int 1, .int 2, .int 3], rfl, by simp, ad_nil ⟨_, rfl, by simp, by simp, fun x hx => ?_⟩⟩
  have hx2 : ∃ b : Int, x = .int b ∧ (b = 1 ∨ b = 2 ∨ b = 3) := by
    simp only [List.mem_cons, List.not_mem_nil, or_false] at hx
    rcases hx with rfl | rfl | rfl | rfl | rfl
    · exact ⟨1, rfl, .inl rfl⟩
    · exact ⟨1, rfl, .inl rfl⟩
    · exact ⟨1, rfl, .inl rfl⟩
    · exact ⟨2, rfl, .inr (.inl rfl)⟩
    · exact ⟨3, rfl, .inr (.inr rfl)⟩
  obtain ⟨b, rfl, hb⟩ := hx2
  have b0 : b ≠ 0 := by omega
  refine ad_nil (lowArg (n := 10) b0 (by show _ < 1024; omega) (by show _ < 1024; omega) (by decide) ?_)
  have lb := low_bd (t := 1 + (d : Int)) (n := 10) b0 (by show _ < 1024; omega) (by show _ < 1024; omega)
  rw [low_fr b0] at lb ⊢
  exact q _ (dv_pos (by omega) (by omega)) lb
end
end K46

set_option Elab.async false
set_option linter.all false
set_option maxRecDepth 100000
set_option maxHeartbeats 8000000
/-! k46: the law's own products -/
namespace K46
open PySem L2 DL
theorem getD_get {k : List Int} {a : Nat} (h : a < k.length) : k[a]? = some (k.getD a 0) := by
  rw [List.getD_eq_getElem?_getD, List.getElem?_eq_getElem h]
  rfl
theorem sum_set : ∀ {k : List Int} {a : Nat} {x : Int}, a < k.length → (k.set a x).sum = k.sum - k.getD a 0 + x
  | [], a, x, h => absurd h (Nat.not_lt_zero _)
  | c :: k, 0, x, h => by
    show (x :: k).sum = (c :: k).sum - c + x
    rw [List.sum_cons, List.sum_cons]
    omega
  | c :: k, a + 1, x, h => by
    show (c :: k.set a x).sum = (c :: k).sum - k.getD a 0 + x
    rw [List.sum_cons, List.sum_cons, sum_set (Nat.lt_of_succ_lt_succ h)]
    omega
def kvP (es : List Ent) : List (List Key × D) := es.map fun e => (ik e.1, prq e.2)
theorem kvP_len {es : List Ent} : (kvP es).length = es.length := by unfold kvP; rw [List.length_map]
theorem kvP_keys {es : List Ent} : (kvP es).map (·.1) = es.map fun e => ik e.1 := by unfold kvP; rw [List.map_map]; rfl
def insP (es : List Ent) (k : List Int) (r : Rat) : List Ent := if k ∈ es.map (·.1) then es.map (fun e => if e.1 = k then (k, r) else e) else es ++ [(k, r)]
theorem put_kvP {es : List Ent} {k : List Int} {r : Rat} : putE (kvP es) (ik k) (prq r) = kvP (insP es k r) := by
  unfold insP
  by_cases c : k ∈ es.map (·.1)
  · rw [if_pos c]
    unfold putE
    have h : DL.has (kvP es) (ik k) = true := by
      unfold DL.has
      rw [List.any_eq_true]
      obtain ⟨e, he, rfl⟩ := List.mem_map.mp c
      exact ⟨(ik e.1, prq e.2), List.mem_map_of_mem he, decide_eq_true rfl⟩
    rw [if_pos h]
    unfold kvP
    rw [List.map_map, List.map_map]
    refine List.map_congr_left fun e _ => ?_
    show (if ik e.1 = ik k then (ik e.1, prq r) else (ik e.1, prq e.2)) = (fun e : Ent => (ik e.1, prq e.2)) (if e.1 = k then (k, r) else e)
    by_cases y : e.1 = k
    · rw [if_pos (by rw [y]), if_pos y, y]
    · rw [if_neg (fun z => y (ik_inj z)), if_neg y]
  · rw [if_neg c, putE_new]
    · unfold kvP
      rw [List.map_append]
      rfl
    · rw [kvP_keys]
      intro z
      obtain ⟨e, he, e2⟩ := List.mem_map.mp z
      exact c (List.mem_map.mpr ⟨e, he, ik_inj e2⟩)
theorem ins_perm {es : List Ent} (nd : (es.map (·.1)).Nodup) (k : List Int) (r : Rat) : (insP es k r).Perm (put es k r) := by
  unfold insP put oth
  induction es with
  | nil => exact .refl _
  | cons e es ih =>
    rw [List.map_cons, List.nodup_cons] at nd
    have ih := ih nd.2
    by_cases y : e.1 = k
    · have no : k ∉ es.map (·.1) := by rw [← y]; exact nd.1
      have m1 : k ∈ (e :: es).map (·.1) := by rw [List.map_cons, y]; exact List.mem_cons_self ..
      have e1 : es.map (fun x : Ent => if x.1 = k then (k, r) else x) = es := by
        refine (List.map_congr_left fun x hx => ?_).trans (List.map_id es)
        have : ¬ x.1 = k := fun z => no (by rw [← z]; exact List.mem_map_of_mem hx)
        rw [if_neg this]
        rfl
      have e2 : es.filter (fun x : Ent => !decide (x.1 = k)) = es := by
        rw [List.filter_eq_self]
        intro x hx
        have : ¬ x.1 = k := fun z => no (by rw [← z]; exact List.mem_map_of_mem hx)
        rw [decide_eq_false this]
        rfl
      rw [if_pos m1, List.map_cons, if_pos y, e1, List.filter_cons_of_neg (by rw [decide_eq_true y]; decide), e2]
      exact (List.perm_append_comm (l₁ := [(k, r)]) (l₂ := es))
    · rw [List.filter_cons_of_pos (by rw [decide_eq_false y]; rfl)]
      by_cases c : k ∈ es.map (·.1)
      · have m1 : k ∈ (e :: es).map (·.1) := by rw [List.map_cons]; exact List.mem_cons_of_mem _ c
        rw [if_pos c] at ih
        rw [if_pos m1, List.map_cons, if_neg y]
        exact ih.cons e
      · have m1 : k ∉ (e :: es).map (·.1) := by
          rw [List.map_cons]
          intro z
          rcases List.mem_cons.mp z with z | z
          · exact y z.symm
          · exact c z
        rw [if_neg c] at ih
        rw [if_neg m1]
        exact ih.cons e
theorem ins_len {es : List Ent} {k : List Int} {r : Rat} : (insP es k r).length ≤ es.length + 1 := by
  unfold insP
  split
  · rw [List.length_map]; omega
  · rw [List.length_append, List.length_singleton]; omega
theorem ins_ne {es : List Ent} {k : List Int} {r : Rat} : insP es k r ≠ [] := by
  unfold insP
  split
  · rename_i h
    intro z
    rw [List.map_eq_nil_iff] at z
    rw [z] at h
    cases h
  · simp
theorem ge_ins {m n b : Nat} {es : List Ent} (h : GE m n b es) {k : List Int} {r : Rat} (hk : k.length = m) (nn : ∀ c ∈ k, (0 : Int) ≤ c) (sm : k.sum = (n : Int)) (rp : 0 < r) (rb : Bq b r) (hl : es.length ≤ 59) : GE m n b (insP es k r) :=
  (ge_put h hk nn sm rp rb hl).perm (ins_perm h.nd k r)
section
variable {P : Program} {w : World} {K : PySem.W.Frag} {mg : Str → Option Value} {base : Heap} {C : Addr}
theorem sum_rep0 : ∀ m : Nat, (List.replicate m (0 : Int)).sum = 0
  | 0 => rfl
  | m + 1 => by rw [List.replicate_succ, List.sum_cons, sum_rep0 m]; rfl
/-! drawn counts -/
abbrev spCnt : SpD := fun as Q => ∃ m n : Nat, as = [.pot, .val (.int (m : Int)), .val (.int (n : Int))] ∧ 1 ≤ m ∧ m ≤ 8 ∧ n ≤ 8 ∧ ∀ k : List Int, k.length = m → (∀ c ∈ k, 0 ≤ c) → k.sum = (n : Int) → Q (.lst (k.map D.int))
abbrev NCn : List Str := ["_law_pot_here", "_law_size", "_law_degree", "_law_counts_here", "_law_one"]
theorem sc_cnt : FnScope NCn ["_law_pot_here", "_law_size", "_law_degree"] (defScope (top 58)) := ⟨rfl, rfl, rfl, by decide +kernel, rfl, by decide +kernel, by decide +kernel⟩
theorem ok_cnt {f : Addr} {fd : FuncData} (F : FunS K "_law_counts" "_law_counts" (top 58) f fd) (T : Txt K mg C) (G : Df P w K mg base "_law_draw" 1 2 spDraw) : GnOk P w K mg base 2 f fd ["_law_pot_here", "_law_size", "_law_degree"] (lift K spCnt) := by
  refine gn_dl F sc_cnt (fun as Q h => by obtain ⟨_, _, rfl, _⟩ := h; rfl) (fun cdv A outer s H hr hG W as Q h => ?_)
  obtain ⟨m, n, rfl, m1, m8, n8, q⟩ := h
  have nd := sc_cnt.nd
  refine sds_cons (sd_own 3 nd rfl (fd_repL (ed_lst (ad_cons (ed_int (ad_nil ⟨[.int 0], rfl, by simp, nm 1 ⟨[.int 0], m, rfl, rfl, by rw [List.length_singleton]; omega, by omega, ?_⟩⟩))))))
  have e0 : (List.replicate m [D.int 0]).flatten = (List.replicate m (0 : Int)).map D.int := by simp
  rw [e0]
  refine sds_cons (sd_forR (n := (n : Int)) PassesOwn.never rfl T.range (fun i S' => ∃ o, ∃ k : List Int, k.length = m ∧ (∀ c ∈ k, 0 ≤ c) ∧ k.sum = (i : Int) ∧ S' = [some .pot, some (.val (.int (m : Int))), some (.val (.int (n : Int))), some (.own (k.map D.int)), o]) (ad_cons (nm 2 (ad_nil ⟨rfl, by omega, by omega, none, List.replicate m 0, List.length_replicate, fun c hc => by rw [(List.mem_replicate.mp hc).2]; exact Int.le_refl _, sum_rep0 m, rfl⟩))) ?_ ?_)
  · rintro i S' hi ⟨o, k, lk, nn, sk, rfl⟩
    refine gd_name 4 nd rfl (sds_cons (sd_augOwn 3 (k.map D.int) rfl rfl (ed_call G (hr.mono (j := 1) (by decide)) hG (ad_pot 0 rfl rfl (ad_cons (nm 1 (ad_nil ⟨(m : Int), rfl, by omega, by omega, fun d hd => ⟨d, k.getD d 0, rfl, by omega, ?_, ed_int ⟨1, rfl, sds_nil ⟨some (.val (.int (i : Int))), k.set d (k.getD d 0 + 1), by rw [List.length_set, lk], ?_, ?_, ?_⟩⟩⟩⟩)))))))
    · rw [List.getElem?_map, getD_get (by omega)]
      rfl
    · intro c hc
      rcases List.mem_or_eq_of_mem_set hc with y | y
      · exact nn c y
      · have := nn _ (List.mem_of_getElem? (getD_get (k := k) (a := d) (by omega)))
        omega
    · rw [sum_set (by omega), sk]
      omega
    · rw [List.map_set]
      rfl
  · rintro S' ⟨o, k, lk, nn, sk, rfl⟩
    refine sds_frz 3 _ rfl ?_
    rw [Int.toNat_natCast] at sk
    exact sds_cons (sd_ret (nm 3 (q k lk nn sk)))
/-! any products -/
abbrev spAny : SpD := fun as Q => ∃ m n mo : Nat, as = [.pot, .val (.int (m : Int)), .val (.int (n : Int)), .val (.int (mo : Int))] ∧ 1 ≤ m ∧ m ≤ 8 ∧ n ≤ 8 ∧ 1 ≤ mo ∧ mo ≤ 8 ∧ ∀ es : List Ent, GE m n 10 es → es ≠ [] → es.length ≤ mo → Q (.dcT (kvP es))
abbrev NAn : List Str := ["_law_pot_here", "_law_size", "_law_degree", "_law_most", "_law_own", "_law_turn", "_law_counts_here", "_law_one"]
theorem sc_any : FnScope NAn ["_law_pot_here", "_law_size", "_law_degree", "_law_most"] (defScope (top 52)) := ⟨rfl, rfl, rfl, by decide +kernel, rfl, by decide +kernel, by decide +kernel⟩
theorem ok_any {f : Addr} {fd : FuncData} (F : FunS K "_law_any" "_law_any" (top 52) f fd) (T : Txt K mg C) (G : Df P w K mg base "_law_draw" 1 2 spDraw) (AM : Df P w K mg base "_law_amount" 3 1 spAm) : GnOk P w K mg base 4 f fd ["_law_pot_here", "_law_size", "_law_degree", "_law_most"] (lift K spAny) := by
  refine gn_dl F sc_any (fun as Q h => by obtain ⟨_, _, _, rfl, _⟩ := h; rfl) (fun cdv A outer s H hr hG W as Q h => ?_)
  obtain ⟨m, n, mo, rfl, m1, m8, n8, o1, o8, q⟩ := h
  have nd := sc_any.nd
  refine sds_cons (sd_newT 4 nd rfl ?_)
  refine sds_cons (sd_forR1 (N := mo) PassesOwn.never rfl T.range (fun i S' => ∃ o5 o6 o7, ∃ es : List Ent, GE m n 10 es ∧ es.length ≤ i ∧ (1 ≤ i → es ≠ []) ∧ S' = [some .pot, some (.val (.int (m : Int))), some (.val (.int (n : Int))), some (.val (.int (mo : Int))), some (.ownT (kvP es)), o5, o6, o7]) (ad_cons (ed_bin (ed_int (ed_call G (hr.mono (j := 1) (by decide)) hG (ad_pot 0 rfl rfl (ad_cons (nm 3 (ad_nil ⟨(mo : Int), rfl, by omega, by omega, fun d hd => od_add (ad_nil ⟨d + 1, by rw [show (1 : Int) + (d : Int) = ((d + 1 : Nat) : Int) by omega], by omega, by omega, by omega, none, none, none, [], GE.nil, by simp, by omega, rfl⟩)⟩)))))))) ?_ ?_)
  · rintro i S' hi ⟨o5, o6, o7, es, ge, li, _, rfl⟩
    refine gd_name 5 nd rfl (sds_cons (sd_own 6 nd rfl (fd_repL (ed_lst (ad_cons (ed_int (ad_nil ⟨[.int 0], rfl, by simp, nm 1 ⟨[.int 0], m, rfl, rfl, by rw [List.length_singleton]; omega, by omega, ?_⟩⟩)))))))
    have e0 : (List.replicate m [D.int 0]).flatten = (List.replicate m (0 : Int)).map D.int := by simp
    rw [e0]
    refine sds_cons (sd_forR (n := (n : Int)) PassesOwn.never rfl T.range (fun j S' => ∃ o, ∃ k : List Int, k.length = m ∧ (∀ c ∈ k, 0 ≤ c) ∧ k.sum = (j : Int) ∧ S' = [some .pot, some (.val (.int (m : Int))), some (.val (.int (n : Int))), some (.val (.int (mo : Int))), some (.ownT (kvP es)), some (.val (.int (i : Int))), some (.own (k.map D.int)), o]) (ad_cons (nm 2 (ad_nil ⟨rfl, by omega, by omega, o7, List.replicate m 0, List.length_replicate, fun c hc => by rw [(List.mem_replicate.mp hc).2]; exact Int.le_refl _, sum_rep0 m, rfl⟩))) ?_ ?_)
    · rintro j S' hj ⟨o, k, lk, nn, sk, rfl⟩
      refine gd_name 7 nd rfl (sds_cons (sd_augOwn 6 (k.map D.int) rfl rfl (ed_call G (hr.mono (j := 1) (by decide)) hG (ad_pot 0 rfl rfl (ad_cons (nm 1 (ad_nil ⟨(m : Int), rfl, by omega, by omega, fun d hd => ⟨d, k.getD d 0, rfl, by omega, ?_, ed_int ⟨1, rfl, sds_nil ⟨some (.val (.int (j : Int))), k.set d (k.getD d 0 + 1), by rw [List.length_set, lk], ?_, ?_, ?_⟩⟩⟩⟩)))))))
      · rw [List.getElem?_map, getD_get (by omega)]
        rfl
      · intro c hc
        rcases List.mem_or_eq_of_mem_set hc with y | y
        · exact nn c y
        · have := nn _ (List.mem_of_getElem? (getD_get (k := k) (a := d) (by omega)))
          omega
      · rw [sum_set (by omega), sk]
        omega
      · rw [List.map_set]
        rfl
    · rintro S' ⟨o, k, lk, nn, sk, rfl⟩
      refine sds_frz 6 _ rfl ?_
      rw [Int.toNat_natCast] at sk
      refine sds_cons (sd_putT 4 (kvP es) (un1 hr) rfl rfl (by rw [kvP_len]; omega) (ed_call AM hr hG (ad_pot 0 rfl rfl (ad_nil ⟨rfl, fun r rp rb => ed_callTy T.tuple (ad_cons (nm 6 (ad_nil (cd_tuple ⟨ik k, (tD_ik _).symm, ?_⟩))))⟩))))
      rw [put_kvP]
      exact sds_nil ⟨_, _, _, insP es k r, ge_ins ge lk nn sk rp rb (by omega), Nat.le_trans ins_len (by omega), fun _ => ins_ne, rfl⟩
  · rintro j S' j1 jm ⟨o5, o6, o7, es, ge, li, ne, rfl⟩
    refine sds_frzT 4 _ rfl ?_
    exact sds_cons (sd_ret (nm 4 (q es ge (ne j1) (by omega))))
end
end K46

set_option Elab.async false
set_option linter.all false
set_option maxRecDepth 100000
set_option maxHeartbeats 8000000
/-! k46: blends of the law's own products -/
namespace K46
open PySem L2 DL
theorem look_kvP {es : List Ent} (h : (es.map (·.1)).Nodup) {e : Ent} (he : e ∈ es) : look (kvP es) (ik e.1) = some (prq e.2) := by
  induction es with
  | nil => cases he
  | cons x es ih =>
    rw [List.map_cons, List.nodup_cons] at h
    show Option.map _ (List.find? _ ((ik x.1, prq x.2) :: kvP es)) = _
    by_cases c : ik x.1 = ik e.1
    · rw [List.find?_cons_of_pos (by simpa using c)]
      have c' := ik_inj c
      rcases List.mem_cons.mp he with rfl | he'
      · rfl
      · exact absurd (by rw [c']; exact List.mem_map_of_mem he') h.1
    · rw [List.find?_cons_of_neg (by simpa using c)]
      rcases List.mem_cons.mp he with rfl | he'
      · exact absurd rfl c
      · exact ih h.2 he'
theorem cd_skeys {X : Cx} {Q : D → Prop} {m n b : Nat} {es : List Ent} (hc : X.calm = true) (m1 : 1 ≤ m) (ge : GE m n b es) (hn : n ≤ 8) (q : Q (.lst ((srt es).map fun e => tI e.1))) : CD X (.builtin "sorted") [.val (.dcT (kvP es))] Q := by
  refine cd_sortK hc (dd := m) (B := 9) (ls := es.map (·.1)) m1 (by rw [kvP_keys, List.map_map]; rfl) (by rw [List.length_map]; have := ge.ln; omega) (fun l hl => ?_) fun ls' pm pw => ?_
  · obtain ⟨x, hx, rfl⟩ := List.mem_map.mp hl
    exact ⟨ge.len x hx, ge.bd hn hx⟩
  · rw [keys_srt ge hn pm pw, List.map_map]
    exact q
theorem low_self (r : Rat) : low (fr r).1 (fr r).2 = fr r := by
  rw [low_fr (fr_ne r), fr_val]
section
variable {P : Program} {w : World} {K : PySem.W.Frag} {mg : Str → Option Value} {base : Heap} {C CB : Addr}
abbrev spMade (C CB : Addr) : SpD := fun as Q => ∃ z, ∃ m n b : Nat, ∃ es, as = [.val (.str (SX.S z)), .val (.dcT (kvP es))] ∧ LetZ z ∧ z.length = m ∧ n ≤ 8 ∧ b ≤ 1000 ∧ GE m n b es ∧ Q (Bo C CB z n (srt es))
theorem sc_made : FnScope ["_law_letters", "_law_own", "_law_counts_here"] ["_law_letters", "_law_own"] (defScope (top 57)) := ⟨rfl, rfl, rfl, by decide +kernel, rfl, by decide +kernel, by decide +kernel⟩
theorem ok_made {f : Addr} {fd : FuncData} (F : FunS K "_law_made" "_law_made" (top 57) f fd) (V : Bt P w K mg base C CB) : GnOk P w K mg base 9 f fd ["_law_letters", "_law_own"] (lift K (spMade C CB)) := by
  refine gn_dl F sc_made (fun as Q h => by obtain ⟨_, _, _, _, _, rfl, _⟩ := h; rfl) (fun cdv A outer s H hr hG W as Q h => ?_)
  obtain ⟨z, m, n, b, es, rfl, hz, hm, hn, hb, ge, q⟩ := h
  have nd := sc_made.nd
  have T := V.T
  have m1 : 1 ≤ m := by rw [← hm]; exact hz.l1
  have gs := srt_ge ge
  have ln := gs.ln
  refine sds_cons (sd_ret (ed_makeA V.mkA (hr.mono (j := 8) (by decide)) hG (ad_cons (nm 0 (ad_cons (ed_fd (fd_mp (f := fun e : Ent => tI e.1) (u := eD C) (l := srt es) 2 rfl nd (own := [("_law_counts_here", 2)]) (blkOk_by (by show blkC ["_law_letters", "_law_own", "_law_counts_here"] (defScope (top 57)) _ _ = true; decide +kernel)) (fun _ _ _ _ _ => pg_name (i := 2) nd rfl (Or.inl rfl)) (by simp) (by omega) (.inl rfl) (ed_callB T.sorted (ad_cons (nm 1 (ad_nil (cd_skeys rfl m1 ge hn rfl))))) ?_ ?_)))))))
  · intro e he s2 H0 C2 cl fp
    have me := (srt_perm es).mem_iff.mp he
    refine ed_tup (ad_cons (nm 2 (ad_cons (ed_makeA V.L.V.mk2 (hr.mono (j := 3) (by decide)) hG (ad_cons (i0 (p := fr e.2) (ed_dget (un1 hr) (nm 1 (nm 2 ⟨_, ik e.1, _, rfl, (tD_ik _).symm, look_kvP ge.nd me, rfl, ?_⟩)))))))))
    refine ad_cons (i1 (p := fr e.2) (ed_dget (un1 hr) (nm 1 (nm 2 ⟨_, ik e.1, _, rfl, (tD_ik _).symm, look_kvP ge.nd me, rfl, ?_⟩))))
    have bq := ge.bq e me
    refine ad_nil (mk_ok (n := 1000) (fr_ne e.2) (bd_mono bq.t hb) (bd_mono bq.b hb) (by decide) ?_)
    rw [low_self]
    exact ad_nil ⟨[tI e.1, Ra C (fr e.2)], rfl, by simp, rfl⟩
  · refine ad_nil (.inl ⟨z, m, n, b, srt es, _, rfl, hz, hm, hn, hb, gs, pe_en gs.bq, ?_⟩)
    rw [srt_srt ge hn]
    exact q
end
end K46

set_option Elab.async false
set_option linter.all false
set_option maxRecDepth 100000
set_option maxHeartbeats 4000000
/-! texts of lists and tuples that hold own objects -/
namespace DL
open PySem PySem.Spec PyProof.Rows L2
mutual
/-- data that can be written, each told by where it stands -/
inductive Rp : D → Prop
  | non : Rp .non
  | bl (b) : Rp (.bl b)
  | int (i) : Rp (.int i)
  | str (s) : Rp (.str s)
  | tup {l} : Rps l → Rp (.tup l)
  | lst {l} : Rps l → Rp (.lst l)
  | obj {C fs} : Rpf fs → Rp (.obj C fs)
inductive Rps : List D → Prop
  | nil : Rps []
  | cons {d l} : Rp d → Rps l → Rps (d :: l)
inductive Rpf : List (Str × D) → Prop
  | nil : Rpf []
  | cons {f d l} : Rp d → Rpf l → Rpf ((f, d) :: l)
end
section
variable {K : PySem.W.Frag} {I : Hp}
mutual
theorem Dn.uniq : ∀ {d d' : D} {v : V}, Dn K I d v → Rp d → Rp d' → Dn K I d' v → d = d'
  | _, _, _, .non, _, r', n' => by cases n' <;> first | rfl | cases r'
  | _, _, _, .bl b, _, r', n' => by cases n' <;> first | rfl | cases r'
  | _, _, _, .int i, _, r', n' => by cases n' <;> first | rfl | cases r'
  | _, _, _, .str s, _, r', n' => by cases n' <;> first | rfl | cases r'
  | _, _, _, .ty n, r, _, _ => by cases r
  | _, _, _, .cls a, r, _, _ => by cases r
  | _, _, _, .frl h, r, _, _ => by cases r
  | _, _, _, .dct h, r, _, _ => by cases r
  | _, _, _, .dcT h _, r, _, _ => by cases r
  | _, _, _, .dcK h _, r, _, _ => by cases r
  | _, _, _, .tup h m, r, r', n' => by
    cases n' with
    | tup h' m' =>
      rw [h] at h'
      cases h'
      cases r with
      | tup r => cases r' with
        | tup r' => rw [Dns.uniq m r r' m']
    | lst h' m' => rw [h] at h'; cases h'
    | obj h' m' => rw [h] at h'; cases h'
    | cls _ => cases r'
    | dct _ => cases r'
    | dcT _ _ => cases r'
    | dcK _ _ => cases r'
    | frl _ => cases r'
  | _, _, _, .lst h m, r, r', n' => by
    cases n' with
    | lst h' m' =>
      rw [h] at h'
      cases h'
      cases r with
      | lst r => cases r' with
        | lst r' => rw [Dns.uniq m r r' m']
    | tup h' m' => rw [h] at h'; cases h'
    | obj h' m' => rw [h] at h'; cases h'
    | cls _ => cases r'
    | dct _ => cases r'
    | dcT _ _ => cases r'
    | dcK _ _ => cases r'
    | frl _ => cases r'
  | _, _, _, .obj h m, r, r', n' => by
    cases n' with
    | obj h' m' =>
      rw [h] at h'
      cases h'
      cases r with
      | obj r => cases r' with
        | obj r' => rw [Dnf.uniq m r r' m']
    | tup h' m' => rw [h] at h'; cases h'
    | lst h' m' => rw [h] at h'; cases h'
    | cls _ => cases r'
    | dct _ => cases r'
    | dcT _ _ => cases r'
    | dcK _ _ => cases r'
    | frl _ => cases r'
theorem Dns.uniq : ∀ {l l' : List D} {xs : List V}, Dns K I l xs → Rps l → Rps l' → Dns K I l' xs → l = l'
  | _, _, _, .nil, _, _, n' => by cases n'; rfl
  | _, _, _, .cons h m, r, r', n' => by
    cases n' with
    | cons h' m' =>
      cases r with
      | cons r1 r2 => cases r' with
        | cons r1' r2' => rw [Dn.uniq h r1 r1' h', Dns.uniq m r2 r2' m']
theorem Dnf.uniq : ∀ {l l' : List (Str × D)} {xs : List (Str × V)}, Dnf K I l xs → Rpf l → Rpf l' → Dnf K I l' xs → l = l'
  | _, _, _, .nil, _, _, n' => by cases n'; rfl
  | _, _, _, .cons h m, r, r', n' => by
    cases n' with
    | cons h' m' =>
      cases r with
      | cons r1 r2 => cases r' with
        | cons r1' r2' => rw [Dn.uniq h r1 r1' h', Dnf.uniq m r2 r2' m']
end
open Classical in
noncomputable def del (I : Hp) (a : Addr) : Hp := fun b => if b = a then none else I b
theorem del_same {a : Addr} : del I a a = none := if_pos rfl
theorem del_ne {a b : Addr} (h : b ≠ a) : del I a b = I b := if_neg h
/-- the same data without what stands at a, which is greater than they are -/
theorem del_sub {a : Addr} {big : D} (rb : Rp big) (nb : Dn K I big (.ref a)) : ∀ n, (∀ d v, sizeOf d < n → sizeOf d < sizeOf big → Rp d → Dn K I d v → Dn K (del I a) d v) ∧ (∀ l xs, sizeOf l < n → sizeOf l < sizeOf big → Rps l → Dns K I l xs → Dns K (del I a) l xs) ∧ (∀ l xs, sizeOf l < n → sizeOf l < sizeOf big → Rpf l → Dnf K I l xs → Dnf K (del I a) l xs) := by
  intro n
  induction n with
  | zero => exact ⟨fun _ _ h => absurd h (Nat.not_lt_zero _), fun _ _ h => absurd h (Nat.not_lt_zero _), fun _ _ h => absurd h (Nat.not_lt_zero _)⟩
  | succ n ih =>
    obtain ⟨i1, i2, i3⟩ := ih
    refine ⟨fun d v hn hb r m => ?_, fun l xs hn hb r m => ?_, fun l xs hn hb r m => ?_⟩
    · have ne : ∀ b, v = .ref b → b ≠ a := fun b e z => by
        subst z
        subst e
        have := Dn.uniq m r rb nb
        rw [this] at hb
        exact Nat.lt_irrefl _ hb
      cases m with
      | non => exact .non
      | bl b => exact .bl b
      | int i => exact .int i
      | str s => exact .str s
      | ty _ => cases r
      | cls _ => cases r
      | frl _ => cases r
      | dct _ => cases r
      | dcT _ _ => cases r
      | dcK _ _ => cases r
      | tup h m =>
        cases r with
        | tup r =>
          simp only [D.tup.sizeOf_spec] at hn hb
          exact .tup (by rw [del_ne (ne _ rfl)]; exact h) (i2 _ _ (by omega) (by omega) r m)
      | lst h m =>
        cases r with
        | lst r =>
          simp only [D.lst.sizeOf_spec] at hn hb
          exact .lst (by rw [del_ne (ne _ rfl)]; exact h) (i2 _ _ (by omega) (by omega) r m)
      | obj h m =>
        cases r with
        | obj r =>
          simp only [D.obj.sizeOf_spec] at hn hb
          exact .obj (by rw [del_ne (ne _ rfl)]; exact h) (i3 _ _ (by omega) (by omega) r m)
    · cases m with
      | nil => exact .nil
      | cons h m =>
        cases r with
        | cons r1 r2 =>
          simp only [List.cons.sizeOf_spec] at hn hb
          exact .cons (i1 _ _ (by omega) (by omega) r1 h) (i2 _ _ (by omega) (by omega) r2 m)
    · cases m with
      | nil => exact .nil
      | cons h m =>
        cases r with
        | cons r1 r2 =>
          simp only [List.cons.sizeOf_spec, Prod.mk.sizeOf_spec] at hn hb
          exact .cons (i1 _ _ (by omega) (by omega) r1 h) (i3 _ _ (by omega) (by omega) r2 m)
theorem del_lst {a : Addr} {l : List D} {xs : List V} (r : Rps l) (h : I a = some (.lst xs)) (m : Dns K I l xs) : Dns K (del I a) l xs :=
  (del_sub (big := .lst l) (.lst r) (.lst h m) (sizeOf l + 1)).2.1 l xs (by omega) (by simp only [D.lst.sizeOf_spec]; omega) r m
theorem del_tup {a : Addr} {l : List D} {xs : List V} (r : Rps l) (h : I a = some (.tup xs)) (m : Dns K I l xs) : Dns K (del I a) l xs :=
  (del_sub (big := .tup l) (.tup r) (.tup h m) (sizeOf l + 1)).2.1 l xs (by omega) (by simp only [D.tup.sizeOf_spec]; omega) r m
end
/-! being written: a stands no more among what never changes, and is back behind it -/
section
variable {g : List Code} {W W2 : Wd} {H H2 : Hp} {a : Addr} {o : HO}
theorem Ok.write {id : String} {rest : List Value} {kw : List (Str × Value)} (ok : Ok g W H) (ha : W.I a = some o) (hk : ∀ ks : List Key, o ≠ .tup (ks.map kV)) : Ok (.builtin id ⟨.ref a :: rest, kw⟩ :: g) ⟨del W.I a, W.P⟩ H where
  gd := fun b hb => by
    obtain ⟨i, r, k, h⟩ := hb
    rcases List.mem_cons.mp h with e | h
    · cases e
      exact ⟨del_same, (fun z => by rw [ok.ex _ _ ha] at z; cases z), fun ks z => by rw [ok.ex _ _ ha] at z; exact hk ks (Option.some.inj z)⟩
    · obtain ⟨n1, n2⟩ := ok.gd b ⟨i, r, k, h⟩
      refine ⟨?_, n2⟩
      show del W.I a b = none
      rw [del_ne (fun z => by rw [z, ha] at n1; cases n1)]
      exact n1
  ex := fun b u e => by
    have e' : del W.I a b = some u := e
    by_cases z : b = a
    · rw [z, del_same] at e'; cases e'
    · rw [del_ne z] at e'; exact ok.ex b u e'
  pot := fun b pb => by
    obtain ⟨n, x⟩ := ok.pot b pb
    refine ⟨?_, x⟩
    by_cases z : b = a
    · rw [z]; exact del_same
    · show del W.I a b = none
      rw [del_ne z]; exact n
theorem InG.cons {c : Code} {b : Addr} (h : InG g b) : InG (c :: g) b := let ⟨i, r, k, m⟩ := h; ⟨i, r, k, List.mem_cons_of_mem _ m⟩
/-- behind the writing -/
theorem written_stp {c : Code} (hc : InG (c :: g) a) (ok : Ok g W H) (ha : W.I a = some o) (st : Stp ⟨del W.I a, W.P⟩ H W2 H2) (ok2 : Ok (c :: g) W2 H2) : Stp W H (W2.new a o) H2 ∧ Ok g (W2.new a o) H2 := by
  have hH : H a = some o := ok.ex _ _ ha
  have nP : ¬ W.P a := fun z => by rw [(ok.pot a z).1] at ha; cases ha
  have h2 : H2 a = some o := st.keep a o hH nP
  have i2 : W2.I a = none := (ok2.gd a hc).1
  have nP2 : ¬ W2.P a := fun z => nP (st.oldP a o hH z)
  have ng : ¬ InG g a := fun z => by rw [(ok.gd a z).1] at ha; cases ha
  refine ⟨⟨fun b u e => ?_, st.P, st.keep, fun b u e hu n => ?_, st.oldP⟩, ?_⟩
  · show upd W2.I a o b = some u
    by_cases z : b = a
    · subst z
      rw [ha] at e
      cases e
      exact upd_same
    · rw [upd_ne z]
      exact st.I b u (by show del W.I a b = some u; rw [del_ne z]; exact e)
  · show upd W2.I a o b = none
    have z : b ≠ a := fun z => by rw [z, ha] at n; cases n
    rw [upd_ne z]
    exact st.old b u e hu (by show del W.I a b = none; rw [del_ne z]; exact n)
  · exact {
      gd := fun b hb => by
        obtain ⟨n1, n2⟩ := ok2.gd b hb.cons
        refine ⟨?_, n2⟩
        show upd W2.I a o b = none
        have ne : b ≠ a := fun z => ng (z ▸ hb)
        rw [upd_ne ne]
        exact n1
      ex := fun b u e => by
        have e' : upd W2.I a o b = some u := e
        by_cases z : b = a
        · subst z; rw [upd_same] at e'; cases e'; exact h2
        · rw [upd_ne z] at e'; exact ok2.ex b u e'
      pot := fun b pb => by
        obtain ⟨n, x⟩ := ok2.pot b pb
        refine ⟨?_, x⟩
        show upd W2.I a o b = none
        have ne : b ≠ a := fun z => nP2 (z ▸ pb)
        rw [upd_ne ne]
        exact n }
end
end DL

set_option Elab.async false
set_option linter.all false
set_option maxRecDepth 100000
set_option maxHeartbeats 4000000
/-! how lists and tuples that hold own objects are written -/
namespace DL
open PySem PySem.Spec PyProof.Rows L2 Builtin Builtin.List
/-- an around that stands in the same def -/
structure Ar (X : Cx) (k : Nat) (A : Around) : Prop where
  r : Room k A
  f : A.frames = some X.stack
theorem Ar.env {X : Cx} {k : Nat} {A : Around} {pins : List (Addr × Obj)} {σ : L2.St} {H : Hp} {s : Shared} (h : Ar X k A) (I : Inv X pins σ H s) : Env0 X.prog X.w X.K X.mg X.base A X.stack s H :=
  let e := I.env0
  ⟨h.f, e.mod, e.bs, e.bsz, e.funs, e.frf, e.hok, e.bare⟩
theorem ar_loop {X : Cx} {k : Nat} {A : Around} {args : PySem.Args} (h : Ar X (k + 1) A) : Ar X k (A.under (.builtin "list.__repr__.loop" args)) where
  r := ⟨h.r.hd, by
    have := h.r.dp
    have e : (A.under (.builtin "list.__repr__.loop" args)).depth ≤ A.depth + 1 := by
      first | exact Nat.le_refl _ | exact Nat.le_succ _ | simp [Around.under, Code.weight, Code.isCreation, Code.isGuard, Code.isCaller, Code.frames, Code.isFrame, guardIds]
    omega, by have := h.r.un; rw [units_under_list_loop]; omega⟩
  f := by first | exact h.f | (simpa [Around.under, Code.envs, Code.isFrame, pushEnvs] using h.f)
theorem ar_tup {X : Cx} {k : Nat} {A : Around} {id : String} {args : PySem.Args} (h : Ar X (k + 1) A) (hi : id = "tuple.__repr__" ∨ id = "tuple.__repr__.under") : Ar X k (A.under (.builtin id args)) := by
  rcases hi with rfl | rfl
  · exact ⟨⟨h.r.hd, by
      have := h.r.dp
      have e : (A.under (.builtin "tuple.__repr__" args)).depth ≤ A.depth + 1 := by
        first | exact Nat.le_refl _ | exact Nat.le_succ _ | simp [Around.under, Code.weight, Code.isCreation, Code.isGuard, Code.isCaller, Code.frames, Code.isFrame, guardIds]
      omega, by have := h.r.un; rw [units_under_tuple_repr]; omega⟩, by first | exact h.f | (simpa [Around.under, Code.envs, Code.isFrame, pushEnvs] using h.f)⟩
  · exact ⟨⟨h.r.hd, by
      have := h.r.dp
      have e : (A.under (.builtin "tuple.__repr__.under" args)).depth ≤ A.depth + 1 := by
        first | exact Nat.le_refl _ | exact Nat.le_succ _ | simp [Around.under, Code.weight, Code.isCreation, Code.isGuard, Code.isCaller, Code.frames, Code.isFrame, guardIds]
      omega, by have := h.r.un; rw [units_under_tuple_repr_under]; omega⟩, by first | exact h.f | (simpa [Around.under, Code.envs, Code.isFrame, pushEnvs] using h.f)⟩
/-- d is written as t -/
def Wr (X : Cx) (k : Nat) (d : D) (t : Str) : Prop := ∀ (A : Around) (g : List Code) (W : Wd) (H : Hp) (pins : List (Addr × Obj)) (σ : L2.St) (s : Shared) (v : V) (u : Value) (base : Nat) (Q : Str → Shared → Prop) (E : Value → Shared → Prop), Ar X k A → A.guards = some g → Ok g W H → Inv X pins σ H s → Dn X.K W.I d v → RelV v u → base + t.length ≤ sizeLine →
  (∀ W' H' s', Stp W H W' H' → Ok g W' H' → Inv X pins σ H' s' → Q t s') → wpAny (model X.prog X.w) A (pyReprUnder base u) Q E s
section
variable {X : Cx} {k : Nat}
theorem Ok.swap {g : List Code} {W : Wd} {H : Hp} {id id' : String} {a : Addr} {r r' : List Value} {kw kw' : List (Str × Value)} (ok : Ok (.builtin id ⟨.ref a :: r, kw⟩ :: g) W H) : Ok (.builtin id' ⟨.ref a :: r', kw'⟩ :: g) W H where
  gd := fun b hb => by
    obtain ⟨i, rr, k, h⟩ := hb
    rcases List.mem_cons.mp h with e | h
    · cases e
      exact ok.gd _ ⟨id, r, kw, List.mem_cons_self⟩
    · exact ok.gd b ⟨i, rr, k, List.mem_cons_of_mem _ h⟩
  ex := ok.ex
  pot := ok.pot
theorem vals_strs : ∀ {ts : List Str} {its : List Value}, Vals (ts.map V.str) its → ∃ done : List (Str × Tok), its = strValues done ∧ done.map (·.1) = ts
  | [], _, .nil => ⟨[], rfl, rfl⟩
  | t :: ts, _, .cons ⟨tk, e⟩ r => by
    obtain ⟨done, e1, e2⟩ := vals_strs r
    subst e e1
    exact ⟨(t, tk) :: done, rfl, by rw [List.map_cons, e2]⟩
theorem dns_strs {K : PySem.W.Frag} {I : Hp} : ∀ {ts : List Str} {xs : List V}, Dns K I (ts.map D.str) xs → xs = ts.map V.str
  | [], _, .nil => rfl
  | t :: ts, _, .cons (.str _) r => by rw [List.map_cons, dns_strs r]
section
variable {A : Around} {g : List Code} {a P : Addr} {W1 : Wd} {H1 : Hp} {pins : List (Addr × Obj)} {σ : L2.St} {l : List D} {xs : List V} {ts : List Str} {base : Nat} {R : PySem.Result → Shared → Prop}
theorem wr_loop (hA : Ar X (k + 1) A) (hg : A.guards = some g) (ha : H1 a = some (.lst xs)) (nP : ¬ W1.P a) (hm : Dns X.K W1.I l xs) (hP : H1 P = none) (hlen : ts.length = l.length) (hl : l.length ≤ 1000)
    (hT : ∀ (i : Nat) d, l[i]? = some d → ∃ t, ts[i]? = some t ∧ Wr X k d t) (hsz : base + (listText ts).length ≤ sizeLine)
    (hR : ∀ W' H' s' u, Stp W1 H1 W' H' → (∀ r kw, Ok (.builtin "list.__repr__.loop" ⟨.ref a :: r, kw⟩ :: g) W' H') → Inv X pins σ H' s' → R (.ok (.ret (.str (listText ts) u))) s') :
    ∀ (n i : Nat) (s : Shared) (W : Wd) (H : Hp), l.length - i = n → i ≤ l.length → Mid X.K (.builtin "list.__repr__.loop" ⟨.ref a :: [], []⟩ :: g) W1 H1 P ((ts.take i).map D.str) W H → Inv X pins σ H s →
      codeAny (model X.prog X.w) A (.builtin "list.__repr__.loop" ⟨[.ref a, rawInt i, .ref P, rawInt ((base + piled (ts.take i) : Nat) : Int)], []⟩) R s := by
  have t0 := textFrom_len ts 0 "["
  have tx : (listText ts).length = (textFrom 0 "[" ts).length + 1 := by show (textFrom 0 "[" ts ++ "]").length = _; rw [strLen_append]; rfl
  have each : ∀ t ∈ ts, t.length ≤ sizeLine := fun t ht => by have := t0.2.1 t ht; omega
  have top := piled_le_listText ts
  intro n
  induction n with
  | zero =>
    intro i s W H hn hi m I
    have ei : i = l.length := by omega
    obtain ⟨_, its, n0, rv, _, get⟩ := I.lstM (m.st.keep a _ ha nP)
    have li : its.length = l.length := by rw [← rv.length, ← hm.length]
    refine codeAny_builtin F.entry_list_repr_loop ?_
    show wpAny _ _ («list.__repr__.loop» ⟨[.ref a, .int i 0, .ref P, .int ((base + piled (ts.take i) : Nat) : Int) 0], []⟩) _ _ s
    rw [repr_loop_tree]; refine wpAny_bind (wpAny_listItems get rfl ?_)
    have none_ : its.toArray[(i : Int).toNat]? = none := by simp; omega
    simp only [none_]; unfold reprEnd
    obtain ⟨ps, hp, dp⟩ := m.h
    obtain ⟨_, its2, n2, rv2, _, get2⟩ := I.lstM hp
    rw [dns_strs dp] at rv2
    obtain ⟨done, e1, e2⟩ := vals_strs rv2
    refine wpAny_bind (wpAny_listItems get2 rfl ?_)
    rw [show its2.toArray.toList = strValues done by simpa using e1, repr_fold]
    refine wpAny_bind (wpAny_pure ?_); rw [e2, ei, ← hlen, List.take_length]
    refine wpAny_bind (wpAny_mkStr (wpAny_pure ?_) (by show (listText ts).length ≤ sizeLine; omega))
    exact hR W H _ _ m.st (fun r kw => m.ok.swap) (I.tok _)
  | succ n ih =>
    intro i s W H hn hi m I
    have lt : i < l.length := by omega
    have el : l[i]? = some l[i] := List.getElem?_eq_getElem lt
    obtain ⟨t, et, wr⟩ := hT i _ el
    have p1 := piled_take_succ et
    have p2 := piled_take_le ts (i + 1)
    obtain ⟨_, its, n0, rv, _, get⟩ := I.lstM (m.st.keep a _ ha nP)
    obtain ⟨v, ev, dv⟩ := hm.get' el
    obtain ⟨u, eu, ru⟩ := rv.get ev
    refine codeAny_builtin F.entry_list_repr_loop ?_
    show wpAny _ _ («list.__repr__.loop» ⟨[.ref a, .int i 0, .ref P, .int ((base + piled (ts.take i) : Nat) : Int) 0], []⟩) _ _ s
    rw [repr_loop_tree]; refine wpAny_bind (wpAny_listItems get rfl ?_)
    have some_ : its.toArray[(i : Int).toNat]? = some u := by simpa using eu
    simp only [some_]; rw [Int.toNat_natCast]
    refine wpAny_bind (wpAny_holding (wr _ _ W H pins σ s v u (base + piled (ts.take i) + 1) _ _ (ar_loop hA) (guards_under_guard (isGuard_list_loop _) hg) m.ok.swap I (dv.mono m.st.I) ru (by omega) fun W2 H2 s2 st2 ok2 I2 => ?_))
    refine wpAny_bind (wpAny_mkStr ?_ (each t (List.mem_of_getElem? et)))
    have m2 := m.step st2 ok2.swap
    obtain ⟨ps, hp, dp⟩ := m2.h
    have lp := dp.length
    rw [List.length_map, List.length_take] at lp
    obtain ⟨_, its2, n2, rv2, l2, get2⟩ := I2.lstM hp
    have lq : its2.length ≤ 1000 := by rw [← l2]; omega
    obtain ⟨ps', hp', _, m3⟩ := m2.more (d := .str t) hP (.str t) (by rw [List.length_map, List.length_take]; omega)
    rw [hp] at hp'
    cases hp'
    refine wpAny_bind ?_; show wpAny _ _ (updateSeq P _) _ _ _
    refine wpAny_updateSeq get2 rfl (wpAny_pure ⟨F.quiet_list_repr_loop _, ?_⟩) (by rw [List.size_toArray]; exact Nat.le_trans lq (by decide))
    have I3 := I2.lset (its' := its2 ++ [.str t s2.toks]) (ys := ps ++ [V.str t]) (f := (·.push (.str t s2.toks))) (t' := s2.toks + 1) hp get2 (by simp) (rv2.append (.cons ⟨_, rfl⟩ .nil)) (by rw [List.length_append, List.length_singleton, l2]; exact Nat.le_trans (Nat.succ_le_succ lq) (by decide))
    have e3 : (ts.take i).map D.str ++ [D.str t] = (ts.take (i + 1)).map D.str := by rw [List.take_add_one, et, List.map_append]; rfl
    rw [e3] at m3
    have e4 : ((i : Int) + 1) = ((i + 1 : Nat) : Int) := by omega
    have e5 : base + piled (ts.take i) + (t.length + 2) = base + piled (ts.take (i + 1)) := by omega
    rw [e4, e5]
    exact ih (i + 1) _ _ _ (by omega) lt m3 I3
end
end
end DL

set_option Elab.async false
set_option linter.all false
set_option maxRecDepth 100000
set_option maxHeartbeats 4000000
namespace DL
open PySem PySem.Spec PyProof.Rows L2 Builtin Builtin.List
section
variable {X : Cx} {k : Nat}
theorem wr_lstBody {A : Around} {g : List Code} {l : List D} {ts : List Str} {a : Addr} {xs : List V} {W : Wd} {H : Hp} {pins : List (Addr × Obj)} {σ : L2.St} {s : Shared} {base : Nat} {R : PySem.Result → Shared → Prop} (hl : l.length ≤ 1000) (hA : Ar X (k + 1) A) (hg : A.guards = some g) (ok : Ok g W H) (I : Inv X pins σ H s) (ha : W.I a = some (.lst xs)) (hm : Dns X.K W.I l xs)
    (rp : Rps l) (hlen : ts.length = l.length) (hT : ∀ (i : Nat) d, l[i]? = some d → ∃ t, ts[i]? = some t ∧ Wr X k d t) (hb : base + (listText ts).length ≤ sizeLine) (q : ∀ W' H' s' u, Stp W H W' H' → Ok g W' H' → Inv X pins σ H' s' → R (.ok (.ret (.str (listText ts) u))) s') :
    wpAny (model X.prog X.w) A.in1 (Builtin.listReprAt base ⟨[.ref a], []⟩) (fun fin s' => match fin with | .done f => R (.ok f) s' | .again c' => c'.quiet = true ∧ codeAny (model X.prog X.w) A c' R s') (fun e s' => R (.error e) s') s := by
  have hH := ok.ex _ _ ha
  obtain ⟨_, its, n0, rv, le, get⟩ := I.lstM hH
  have nP : ¬ W.P a := fun z => by rw [(ok.pot a z).1] at ha; cases ha
  have clr : ∀ b, InG g b → b ≠ a := fun b z e => by rw [e] at z; rw [(ok.gd a z).1] at ha; cases ha
  cases its with
  | nil =>
    have l0 : l = [] := List.length_eq_zero_iff.mp (by rw [hm.length, le]; rfl)
    subst l0
    have t0 : ts = [] := List.length_eq_zero_iff.mp hlen
    subst t0
    exact wpAny_list_repr_empty get rfl (q W H _ _ Stp.refl ok (I.tok _))
  | cons x r =>
    refine wpAny_list_repr_head (A := A.in1) hg (fun v rest kw h => listSameRef_of_ne fun e => clr a ⟨_, rest, kw, e ▸ h⟩ rfl) get rfl ?_
    refine wpAny_bind (m := newList []) (wpAny_newObj_type ?_); refine wpAny_pure ⟨F.quiet_list_repr_loop _, ?_⟩
    have hP := I.fresh
    have ok1 : ∀ r kw, Ok (.builtin "list.__repr__.loop" ⟨.ref a :: r, kw⟩ :: g) ⟨del W.I a, W.P⟩ H := fun r kw => ok.write ha fun ks z => by cases z
    have I1 := I.lnew (its := []) (ys := []) (t' := s.toks) .nil (Nat.zero_le _)
    refine wr_loop (W1 := ⟨del W.I a, W.P⟩) (H1 := H) (xs := xs) (pins := pins) (σ := σ) hA hg hH nP (del_lst rp ha hm) hP hlen hl hT hb (fun W' H' s' u st okc I' => ?_) _ 0 _ ⟨del W.I a, W.P⟩ _ rfl (Nat.zero_le _) ⟨Stp.own hP, (ok1 [] []).own hP, (ok1 [] []).notP hP, (ok1 [] []).free hP, [], upd_same, .nil⟩ I1
    obtain ⟨st2, ok2⟩ := written_stp ⟨_, _, _, List.mem_cons_self ..⟩ ok ha st (okc [] [])
    exact q _ _ _ u st2 ok2 I'
theorem wr_fold {A : Around} {g : List Code} (hA : Ar X k A) (hg : A.guards = some g) {W1 : Wd} {H1 : Hp} {pins : List (Addr × Obj)} {σ : L2.St} {E : Value → Shared → Prop} : ∀ (l : List D) (xs : List V) (us : List Value) (ts : List Str) (acc : Array Str) (n : Nat) (s : Shared) (W : Wd) (H : Hp) (Q : (Array Str × Nat) → Shared → Prop),
    Dns X.K W1.I l xs → Vals xs us → ts.length = l.length → (∀ (i : Nat) d, l[i]? = some d → ∃ t, ts[i]? = some t ∧ Wr X k d t) → n + piled ts ≤ sizeLine → Stp W1 H1 W H → Ok g W H → Inv X pins σ H s →
    (∀ W' H' s', Stp W1 H1 W' H' → Ok g W' H' → Inv X pins σ H' s' → Q ⟨acc ++ ts.toArray, n + piled ts⟩ s') → wpAny (model X.prog X.w) A (forIn us (⟨acc, n⟩ : (Array Str × Nat)) tupBody) Q E s
  | [], _, _, ts, acc, n, s, W, H, Q, .nil, .nil, hlen, hT, hn, st, ok, I, q => by
    have t0 : ts = [] := List.length_eq_zero_iff.mp hlen
    subst t0
    simp only [List.forIn_nil]
    exact wpAny_pure (by simpa [piled] using q W H s st ok I)
  | d :: l, v :: xs, u :: us, [], acc, n, s, W, H, Q, .cons m ms, .cons r rs, hlen, hT, hn, st, ok, I, q => by cases hlen
  | d :: l, v :: xs, u :: us, t :: ts, acc, n, s, W, H, Q, .cons m ms, .cons r rs, hlen, hT, hn, st, ok, I, q => by
    rw [piled_cons] at hn
    rw [List.forIn_cons]
    obtain ⟨t', e, wr⟩ := hT 0 d rfl
    cases e
    refine wpAny_bind (wpAny_bind (wr A g W H pins σ s v u (n + 1) _ E hA hg ok I (m.mono st.I) r (by omega) fun W2 H2 s2 st2 ok2 I2 => wpAny_pure ?_))
    refine wr_fold hA hg l xs us ts (acc.push t) (n + (t.length + 2)) s2 W2 H2 Q ms rs (Nat.succ.inj hlen) (fun i d h => hT (i + 1) d h) (by omega) (st.trans ok st2) ok2 I2 fun W' H' s' st' ok' I' => ?_
    have h1 := q W' H' s' st' ok' I'
    have e : n + piled (t :: ts) = n + (t.length + 2) + piled ts := by rw [piled_cons]; omega
    rw [e] at h1
    simpa using h1
theorem wr_tupBody {A : Around} {g : List Code} {id : String} {rest : List Value} {l : List D} {ts : List Str} {a : Addr} {xs : List V} {W : Wd} {H : Hp} {pins : List (Addr × Obj)} {σ : L2.St} {s : Shared} {base : Nat} {R : PySem.Result → Shared → Prop} (hi : id = "tuple.__repr__" ∨ id = "tuple.__repr__.under") (hA : Ar X (k + 1) A) (hg : A.guards = some g) (ok : Ok g W H) (I : Inv X pins σ H s) (ha : W.I a = some (.tup xs)) (hk : ∀ ks : List Key, HO.tup xs ≠ .tup (ks.map kV)) (hm : Dns X.K W.I l xs)
    (rp : Rps l) (hlen : ts.length = l.length) (hT : ∀ (i : Nat) d, l[i]? = some d → ∃ t, ts[i]? = some t ∧ Wr X k d t) (hb : base + (tupleText ts).length ≤ sizeLine) (q : ∀ W' H' s' u, Stp W H W' H' → Ok g W' H' → Inv X pins σ H' s' → R (.ok (.ret (.str (tupleText ts) u))) s') :
    wpOwn (model X.prog X.w) A (.builtin id ⟨.ref a :: rest, []⟩) (Builtin.tupleReprAt base ⟨[.ref a], []⟩) (fun fin s' => match fin with | .done f => R (.ok f) s' | .again c' => c'.quiet = true ∧ codeAny (model X.prog X.w) A c' R s') (fun e s' => R (.error e) s') s := by
  have hH := ok.ex _ _ ha
  obtain ⟨its, rv, ⟨o, ho, hc, n0, hd⟩, _⟩ := I.tuple (SqT.of hH)
  have tl := piled_le_tupleText ts
  have li : its.length = ts.length := by rw [← rv.length, ← hm.length, hlen]
  have clr : Clear g a := clear_of fun z => by rw [(ok.gd a z).1] at ha; cases ha
  have hcg : (Code.builtin id ⟨.ref a :: rest, []⟩).isGuard = true := by
    rcases hi with rfl | rfl
    · exact isGuard_tuple_repr _
    · exact isGuard_tuple_repr_under _
  rw [tuple_repr_tree, tupleReprUnderWay_eq]; refine wpOwn_bind (wpOwn_stackTailAny hg (tupGuardF_off _) (tupGuardF_pos _) ?_)
  have no : (g.any fun c => tupGuardF (.ref a) (c, default)) = false := by
    rw [List.any_eq_false]; intro c hcm; rw [tupGuardF_of_clear clr c hcm]; exact Bool.false_ne_true
  rw [no]; refine wpOwn_of_wpAny ?_
  show wpAny _ _ (tupleReprRest base (.ref a)) _ _ s
  unfold tupleReprRest Builtin.Tuple.tupleItemsOf; refine wpAny_bind (wpAny_bind (wpAny_seqItems ho hd (wpAny_pure ?_)))
  rw [← Array.forIn_toList]
  refine wpAny_bind (wr_fold (W1 := ⟨del W.I a, W.P⟩) (H1 := H) (ar_tup hA hi) (guards_under_guard hcg hg) l xs its ts _ _ _ ⟨del W.I a, W.P⟩ H _ (del_tup rp ha hm) rv hlen hT (by omega) Stp.refl (ok.write ha hk) I fun W' H' s' st okc I' => ?_)
  refine wpAny_bind (wpAny_mkStr (wpAny_pure ?_) (by simpa [tupleText, li] using (show (tupleText ts).length ≤ sizeLine by omega)))
  obtain ⟨st2, ok2⟩ := written_stp ⟨_, _, _, List.mem_cons_self ..⟩ ok ha st okc
  have z := q _ _ _ s'.toks st2 ok2 (I'.tok (s'.toks + 1))
  simpa [tupleText, li] using z
theorem keys_back {K : PySem.W.Frag} {I : Hp} : ∀ {l : List D} {ks : List Key}, Dns K I l (ks.map kV) → l = ks.map kD
  | _, [], m => by cases m; rfl
  | _, k :: ks, m => by
    cases m with
    | cons h t =>
      rw [keys_back t]
      have e : ∀ {d : D}, Dn K I d (kV k) → d = kD k := fun {d} h => by
        cases k with
        | inl i => cases h; rfl
        | inr s => cases h; rfl
      rw [e h]
      rfl
theorem wr_tup {l : List D} {ts : List Str} (nk : ∀ ks : List Key, l ≠ ks.map kD) (rp : Rps l) (hlen : ts.length = l.length) (hT : ∀ (i : Nat) d, l[i]? = some d → ∃ t, ts[i]? = some t ∧ Wr X k d t) : Wr X (k + 1) (.tup l) (tupleText ts) := fun A g W H pins σ s v u base Q E hA hg ok I n r hb q => by
  cases n with
  | @tup _ a xs ha hm =>
    cases r
    obtain ⟨its, rv, ⟨o, ho, hc, n0, hd⟩, _⟩ := I.tuple (SqT.of (ok.ex _ _ ha))
    have ty : s.TypeIs (.ref a) "tuple" := ⟨o, ho, hc⟩
    refine wpAny_pyReprUnder_ref (by omega) ?_
    refine wpAny_pyReprObjUnder_twin (twin := "tuple.__repr__.under") ty F.slot_tuple_repr rfl hA.r.units0 ?_
    refine call_twin_own (F.quiet_tuple_repr_under _) F.entry_tuple_repr_under F.check_tuple_repr_under ty F.slot_tuple_repr (F.args_tuple_repr_1 _) ?_
    exact wr_tupBody (.inr rfl) hA hg ok I ha (fun ks z => by cases z; exact nk ks (keys_back hm)) hm rp hlen hT hb fun W' H' s' u st ok' I' => ⟨⟨_, _, rfl⟩, _, _, rfl, q _ _ _ st ok' I'⟩
/-- a tuple of ints -/
theorem wr_foldI {A : Around} {g : List Code} {E : Value → Shared → Prop} : ∀ (is : List Int) (us : List Value) (acc : Array Str) (n : Nat) (s : Shared) (Q : (Array Str × Nat) → Shared → Prop),
    (∀ i ∈ is, i.natAbs.log2 < 1920) → Vals (is.map V.int) us → n + piled (is.map fun i => (toString i : Str)) ≤ sizeLine → (∀ tk, Q ⟨acc ++ (is.map fun i => (toString i : Str)).toArray, n + piled (is.map fun i => (toString i : Str))⟩ { s with toks := tk }) → wpAny (model X.prog X.w) A (forIn us (⟨acc, n⟩ : (Array Str × Nat)) tupBody) Q E s
  | [], _, acc, n, s, Q, _, .nil, hn, q => by
    simp only [List.forIn_nil]
    exact wpAny_pure (by simpa [piled] using q s.toks)
  | i :: is, u :: us, acc, n, s, Q, hi, .cons r rs, hn, q => by
    obtain ⟨t, rfl⟩ := r
    rw [List.map_cons, piled_cons] at hn
    rw [List.forIn_cons]
    refine wpAny_bind (wpAny_bind (ReprIs.int t (hi i (List.mem_cons_self ..)) (n + 1) (by omega) A E s _ fun tk => wpAny_pure ?_))
    refine wr_foldI (g := g) is us (acc.push (toString i : Str)) (n + (((toString i : Str)).length + 2)) _ Q (fun i h => hi i (List.mem_cons_of_mem _ h)) rs (by omega) fun tk2 => ?_
    have h1 := q tk2
    rw [List.map_cons, piled_cons] at h1
    have e : n + ((toString i : Str).length + 2 + piled (is.map fun i => (toString i : Str))) = n + ((toString i : Str).length + 2) + piled (is.map fun i => (toString i : Str)) := by omega
    rw [e] at h1
    simpa using h1
theorem wr_tupI {is : List Int} (hi : ∀ i ∈ is, i.natAbs.log2 < 1920) : Wr X (k + 1) (tI is) (tupleText (is.map fun i => (toString i : Str))) := fun A g W H pins σ s v u base Q E hA hg ok I n r hb q => by
  cases n with
  | @tup _ a xs ha hm =>
    cases r
    rw [Dns.ints hm] at ha
    have hH := ok.ex _ _ ha
    obtain ⟨its, rv, ⟨o, ho, hc, n0, hd⟩, _⟩ := I.tuple (SqT.of hH)
    have ty : s.TypeIs (.ref a) "tuple" := ⟨o, ho, hc⟩
    refine wpAny_pyReprUnder_ref (by omega) ?_
    refine wpAny_pyReprObjUnder_twin (twin := "tuple.__repr__.under") ty F.slot_tuple_repr rfl hA.r.units0 ?_
    refine call_twin_own (F.quiet_tuple_repr_under _) F.entry_tuple_repr_under F.check_tuple_repr_under ty F.slot_tuple_repr (F.args_tuple_repr_1 _) ?_
    have tl := piled_le_tupleText (is.map fun i => (toString i : Str))
    have li : its.length = (is.map fun i => (toString i : Str)).length := by rw [← rv.length, List.length_map, List.length_map]
    have clr : Clear g a := clear_of fun z => by rw [(ok.gd a z).1] at ha; cases ha
    rw [tuple_repr_tree, tupleReprUnderWay_eq]; refine wpOwn_bind (wpOwn_stackTailAny hg (tupGuardF_off _) (tupGuardF_pos _) ?_)
    have no : (g.any fun c => tupGuardF (.ref a) (c, default)) = false := by
      rw [List.any_eq_false]; intro c hcm; rw [tupGuardF_of_clear clr c hcm]; exact Bool.false_ne_true
    rw [no]; refine wpOwn_of_wpAny ?_
    show wpAny _ _ (tupleReprRest base (.ref a)) _ _ s
    unfold tupleReprRest Builtin.Tuple.tupleItemsOf; refine wpAny_bind (wpAny_bind (wpAny_seqItems ho hd (wpAny_pure ?_)))
    rw [← Array.forIn_toList]
    refine wpAny_bind (wr_foldI (g := g) is its _ _ _ _ hi rv (by omega) fun tk => ?_)
    refine wpAny_bind (wpAny_mkStr (wpAny_pure ?_) (by simpa [tupleText, li] using (show (tupleText (is.map fun i => (toString i : Str))).length ≤ sizeLine by omega)))
    have z := q W H { s with toks := tk + 1 } Stp.refl ok (I.tok (tk + 1))
    exact ⟨⟨_, _, rfl⟩, _, _, rfl, by simpa [tupleText, li] using z⟩
/-- an object by its own __repr__ -/
theorem wr_obj {C : Addr} {fs : List (Str × D)} {t : Str} {sp : SpD} (F : Sm X.prog X.w X.K X.mg X.base C "__repr__" k sp) (q : ∀ Q : D → Prop, Q (.str t) → sp [.val (.obj C fs)] Q) : Wr X k (.obj C fs) t := fun A g W H pins σ s v u base Q E hA hg ok I n r hb c => by
  cases id n with
  | @obj _ _ p _ _ ha _ =>
    have r' := r
    cases (show u = Value.ref p from r)
    obtain ⟨f, fd, ps, F, hf, hi, hbb⟩ := F.ex
    obtain ⟨ox, od, J⟩ := inst_at I (ok.ex _ _ ha)
    refine wpAny_pyReprUnder_ref (by omega) ?_
    unfold pyReprObjUnder pyReprObjBy
    refine wpAny_bind (wpAny_cRoomFor hA.r.units0 ?_); refine wpAny_bind (wpAny_bind (J.type.here ((PySem.W.looks_findIn I.kIn hf).here ?_)))
    show wpAny _ _ (if (some (Value.ref f)).isNone = true then _ else _) _ _ _
    rw [if_neg (by simp)]
    have run : wpAny (model X.prog X.w) A (call (.ref f) [.ref p]) (fun r s' => ∃ tk, r = .str t tk ∧ Q t s') E s := by
      have hsp : lift X.K sp g [.ref p] H (fun z H' => z = .str t ∧ ∀ s', Inv X pins σ H' s' → Q t s') :=
        ⟨_, W, fun d => d = .str t, ok, .cons (show Arg X.K W (.val (.obj C fs)) (.ref p) from n) .nil, q _ rfl, fun d v2 W' H' st ok' n' e => by
          subst e
          cases n'
          exact ⟨rfl, fun s' I' => c W' H' s' st ok' I'⟩⟩
      refine wpAny_call (run_gn (A := A) (us := [.ref p]) (vs := [.ref p]) F hA.r hg (hA.env I) hbb .nil I (.cons r' .nil) hsp fun u s' hv => ?_)
      obtain ⟨z, H', I3, rz, e, q3⟩ := hv
      subst e
      obtain ⟨tk, rfl⟩ := (show ∃ tk, u = Value.str t tk from rz)
      exact ⟨tk, rfl, q3 s' I3⟩
    have fin : wpAny (model X.prog X.w) A (call (.ref f) ([.ref p] ++ []) >>= fun v => pure (some v)) (fun r s' => ∃ tk, r = some (.str t tk) ∧ Q t s') E s := wpAny_bind (wpAny_mono run (fun r s' ⟨tk, e, q⟩ => wpAny_pure ⟨tk, by rw [e], q⟩) fun _ _ y => y)
    refine wpAny_bind (wpAny_mono (Q := fun r s' => ∃ tk, r = some (.str t tk) ∧ Q t s') ?_ (fun r s' ⟨tk, e, qq⟩ => ?_) fun _ _ y => y)
    · simp only [callSpecialIfBoundBy?, bindSpecialIfBound?]
      refine wpAny_holding (wpAny_bind (wpAny_bind (wpAny_bind (J.type.here ((PySem.W.looks_findIn I.kIn hf).here ?_)))))
      refine wpAny_bind (wpAny_askSetting (wpAny_ite ?_))
      split
      · exact wpAny_bind ((PySem.W.bind_fn I.kIn _ (beq_iff_eq.mp hi)).here (wpAny_pure (by exact fin)))
      · exact wpAny_tryCatch (wpAny_bind ((PySem.W.bind_fn I.kIn _ (beq_iff_eq.mp hi)).here (wpAny_pure (by exact fin))))
    · subst e
      refine wpAny_bind (wpAny_isInstance (typeIs_str _ _ _) isSubtype_str_str ?_)
      first
        | exact wpAny_pure ⟨_, _, rfl, qq⟩
        | (rw [if_pos rfl]; exact wpAny_pure ⟨_, _, rfl, qq⟩)
        | (simp only [if_true]; exact wpAny_pure ⟨_, _, rfl, qq⟩)
theorem ar_here {pins : List (Addr × Obj)} {σ : L2.St} {H : Hp} {s : Shared} (hr : Room (k + 1) X.A) (I : Inv X pins σ H s) : Ar X k X.A.in1 := ⟨hr.in1, I.env0.frames⟩
theorem cd_reprL {l : List D} {ts : List Str} {Q : D → Prop} (hr : Room (k + 2) X.A) (hG : X.A.guards = some (gOf X)) (hl : l.length ≤ 1000) (rp : Rps l) (hlen : ts.length = l.length) (hT : ∀ (i : Nat) d, l[i]? = some d → ∃ t, ts[i]? = some t ∧ Wr X k d t) (hb : (listText ts).length ≤ sizeLine) (q : Q (.str (listText ts))) : CD X (.builtin "repr") [.val (.lst l)] Q := fun vs W H ok ha R c pins s σ us I rv => by
  obtain ⟨v, rfl, n⟩ := one_arg ha
  cases rv with
  | cons r1 r2 =>
    cases r2
    cases n with
    | @lst _ a xs hI hm =>
      cases r1
      obtain ⟨_, its, n0, rv, le, get⟩ := I.lstM (ok.ex _ _ hI)
      have ty : s.TypeIs (.ref a) "list" := ⟨_, get, rfl⟩
      have u0 := hr.un
      refine call_repr_slot (by omega) ty F.slot_list_repr.toG (wpAny_call (codeAny_call_builtin F.slot_list_repr.plain F.entry_list_repr (F.slot_list_repr.check _ _ _ _ _ _ _ _ ty (F.args_list_repr_1 _) ?_)))
      exact wr_lstBody (base := 0) (R := callEnd (fun r s₁ => ∃ x t, r = .str x t ∧ EP X pins σ R r s₁) X.xe) hl (ar_here hr I) hG ok I hI hm rp hlen hT (by omega) fun W' H' s' u st ok' I' => ⟨_, _, rfl, .str _, H', I', ⟨u, rfl⟩, c (.str _) _ W' H' st ok' (.str _) q⟩
end
end DL

set_option Elab.async false
set_option linter.all false
set_option maxRecDepth 100000
set_option maxHeartbeats 8000000
/-! k46: texts -/
namespace DL
open PySem PySem.Spec PyProof.Rows L2
theorem textFrom_up {n : Nat} : ∀ (ts : List Str) (k : Nat) (acc : Str), (∀ t ∈ ts, t.length ≤ n) → (textFrom k acc ts).length ≤ acc.length + (n + 2) * ts.length
  | [], k, acc, _ => Nat.le_add_right _ _
  | t :: r, k, acc, h => by
    have ih := textFrom_up r (k + 1) (acc ++ (if k > 0 then ", " else "" : String) ++ t) fun x hx => h x (by simp [hx])
    have e : (acc ++ (if k > 0 then ", " else "" : String) ++ t).length = acc.length + (if k > 0 then 2 else 0) + t.length := by
      rw [Str.length_append, Str.length_append]
      split <;> rfl
    rw [e] at ih
    have ht := h t (by simp)
    have : (if k > 0 then 2 else 0) ≤ 2 := by split <;> omega
    rw [List.length_cons, Nat.mul_succ]
    exact Nat.le_trans ih (by omega)
theorem listText_up {n : Nat} {ts : List Str} (h : ∀ t ∈ ts, t.length ≤ n) : (listText ts).length ≤ (n + 2) * ts.length + 4 := by
  unfold listText
  rw [Str.length_append]
  have := textFrom_up ts 0 "[" h
  have e1 : (("[" : String) : Str).length = 1 := rfl
  have e2 : (("]" : String) : Str).length = 1 := rfl
  omega
theorem join_up {n : Nat} : ∀ {ts : List Str}, (∀ t ∈ ts, t.length ≤ n) → (Str.join ", " ts).length ≤ (n + 2) * ts.length
  | [], _ => Nat.zero_le _
  | [x], h => by
    show x.length ≤ _
    have := h x (by simp)
    simp only [List.length_singleton]
    omega
  | x :: y :: r, h => by
    have ih := join_up (ts := y :: r) fun t ht => h t (by simp at ht ⊢; exact .inr ht)
    show (x ++ ", " ++ Str.join ", " (y :: r)).length ≤ _
    have e2 : ((", " : String) : Str).length = 2 := rfl
    rw [Str.length_append, Str.length_append, e2, List.length_cons, Nat.mul_succ]
    have := h x (by simp)
    omega
theorem tupleText_up {n : Nat} {ts : List Str} (h : ∀ t ∈ ts, t.length ≤ n) : (tupleText ts).length ≤ (n + 2) * ts.length + 4 := by
  unfold tupleText
  rw [Str.length_append, Str.length_append]
  have := join_up h
  have e1 : (("(" : String) : Str).length = 1 := rfl
  have e2 : ((if ts.length == 1 then ",)" else ")" : String) : Str).length ≤ 2 := by split <;> decide +kernel
  omega
end DL
namespace K46
open PySem L2 DL
theorem tl {i : Int} (h : i.natAbs < 2 ^ 1900) : i.natAbs.log2 < 1920 := by
  by_cases z : i.natAbs = 0
  · rw [z]; decide
  · exact Nat.lt_of_lt_of_le ((Nat.log2_lt z).mpr h) (by decide)
theorem tlen {i : Int} (h : i.natAbs < 2 ^ 1900) : (PySem.Str.ofString (toString i)).length ≤ 1921 := PyProof.Rows.int_text_len_1921 (tl h)
section
variable {P : Program} {w : World} {K : PySem.W.Frag} {mg : Str → Option Value} {base : Heap} {C CB : Addr}
def reprF (p : Fr) : Str := "Ratio(" ++ Str.ofString (toString p.1) ++ ", " ++ Str.ofString (toString p.2) ++ ")"
theorem fit {x : Str} {n : Nat} (h : x.length ≤ n) (k : n ≤ 100000) : x.length ≤ sizeLine := Nat.le_trans h (Nat.le_trans k (by decide))
theorem app_len {x y : Str} {m n : Nat} (h : x.length ≤ m) (k : y.length ≤ n) : (x ++ y).length ≤ m + n := by
  rw [Str.length_append]
  omega
theorem emp_app (x : Str) : Str.empty ++ x = x := by
  show Str.mk _ = x
  cases x
  simp [Str.empty]
theorem sc_repr : FnScope ["self"] ["self"] (defScope (rat 19)) := ⟨rfl, rfl, rfl, by decide +kernel, rfl, by decide +kernel, by decide +kernel⟩
theorem ok_repr {f : Addr} {fd : FuncData} (F : FunS K "__repr__" "Ratio.__repr__" (rat 19) f fd) (T : Txt K mg C) : GnOk P w K mg base 1 f fd ["self"] (lift K (sp1b C 1900 fun p => .str (reprF p))) := by
  refine gn_dl F sc_repr (fun as Q h => by obtain ⟨_, rfl, _⟩ := h; rfl) (fun cdv A outer s H hr hG W as Q h => ?_)
  obtain ⟨p, rfl, hp, k⟩ := h
  have k : Q (.str (reprF p)) := k
  unfold reprF at k
  have l1 := tlen hp.t
  have l2 := tlen hp.b
  have l3 : (("Ratio(" : Str)).length ≤ 6 := by decide +kernel
  have l4 : ((", " : Str)).length ≤ 2 := by decide +kernel
  have l5 : ((")" : Str)).length ≤ 1 := by decide +kernel
  refine sds_cons (sd_ret (ed_join (ed_str ⟨_, rfl, ?_, ed_fmt (fT T (nm 0 ⟨rfl, .inr ⟨_, rfl, tl hp.t, _, rfl, ?_, ed_str ⟨_, rfl, ?_, ed_fmt (fB T (nm 0 ⟨rfl, .inr ⟨_, rfl, tl hp.b, _, rfl, ?_, ed_str ⟨_, rfl, ?_, ?_⟩⟩⟩))⟩⟩⟩))⟩)))
  · rw [emp_app]; exact fit l3 (by decide)
  · rw [emp_app]; exact fit (app_len l3 l1) (by decide)
  · rw [emp_app]; exact fit (app_len (app_len l3 l1) l4) (by decide)
  · rw [emp_app]; exact fit (app_len (app_len (app_len l3 l1) l4) l2) (by decide)
  · rw [emp_app]; exact fit (app_len (app_len (app_len (app_len l3 l1) l4) l2) l5) (by decide)
  · show Q _
    rw [emp_app]
    exact k
/-! entries -/
def keyT (k : List Int) : Str := tupleText (k.map fun i => (toString i : Str))
def entT (e : Ent) : Str := tupleText [keyT e.1, reprF (fr e.2)]
def txs (es : List Ent) : Str := listText (es.map entT)
theorem rp_ints : ∀ k : List Int, Rps (k.map D.int)
  | [] => .nil
  | i :: k => .cons (.int i) (rp_ints k)
theorem rp_ents : ∀ es : List Ent, Rps (enD C es)
  | [] => .nil
  | e :: es => .cons (.tup (.cons (.tup (rp_ints e.1)) (.cons (.obj (.cons (.int _) (.cons (.int _) .nil))) .nil))) (rp_ents es)
theorem reprF_len {p : Fr} (h : Bd 1900 p) : (reprF p).length ≤ 4000 := by
  unfold reprF
  have l3 : (("Ratio(" : Str)).length ≤ 6 := by decide +kernel
  have l4 : ((", " : Str)).length ≤ 2 := by decide +kernel
  have l5 : ((")" : Str)).length ≤ 1 := by decide +kernel
  exact Nat.le_trans (app_len (app_len (app_len (app_len l3 (tlen h.t)) l4) (tlen h.b)) l5) (by decide)
theorem small_i {m n b : Nat} {es : List Ent} (ge : GE m n b es) (hn : n ≤ 8) {e : Ent} (he : e ∈ es) {i : Int} (hi : i ∈ e.1) : i.natAbs < 2 ^ 1900 := by
  have := ge.cnt he hi
  exact Nat.lt_of_lt_of_le (show i.natAbs < 2 ^ 4 by show _ < 16; omega) (Nat.pow_le_pow_right (by decide) (by decide))
theorem entT_len {m n b : Nat} {es : List Ent} (ge : GE m n b es) (hn : n ≤ 8) (m8 : m ≤ 8) (hb : b ≤ 1900) {e : Ent} (he : e ∈ es) : (entT e).length ≤ 31000 := by
  have l1 : (keyT e.1).length ≤ 15388 := by
    have := tupleText_up (n := 1921) (ts := e.1.map fun i => (toString i : Str)) fun t ht => by
      obtain ⟨i, hi, rfl⟩ := List.mem_map.mp ht
      exact tlen (small_i ge hn he hi)
    rw [List.length_map, ge.len e he] at this
    have : (1921 + 2) * m ≤ (1921 + 2) * 8 := Nat.mul_le_mul_left _ m8
    unfold keyT
    omega
  have l2 := reprF_len ((ge.bq e he).le hb)
  have := tupleText_up (n := 15388) (ts := [keyT e.1, reprF (fr e.2)]) fun t ht => by
    rcases List.mem_cons.mp ht with z | z
    · rw [z]; exact l1
    · rw [List.mem_singleton.mp z]; omega
  exact Nat.le_trans this (show (15388 + 2) * 2 + 4 ≤ 31000 by decide)
theorem cd_reprE {X : Cx} {Q : D → Prop} {m n b : Nat} {es : List Ent} (R : Sm X.prog X.w X.K X.mg X.base C "__repr__" 1 (sp1b C 1900 fun p => .str (reprF p))) (hr : Room 4 X.A) (hG : X.A.guards = some (gOf X)) (ge : GE m n b es) (hn : n ≤ 8) (m8 : m ≤ 8) (hb : b ≤ 1900) (q : Q (.str (txs es))) : CD X (.builtin "repr") [.val (.lst (enD C es))] Q := by
  have ln := ge.ln
  refine cd_reprL (k := 2) (ts := es.map entT) hr hG (by rw [enD_len]; omega) (rp_ents es) (by rw [List.length_map, enD_len]) (fun i d hd => ?_) ?_ q
  · obtain ⟨e, he, rfl⟩ := enD_get hd
    have me := List.mem_of_getElem? he
    refine ⟨entT e, by rw [List.getElem?_map, he]; rfl, ?_⟩
    refine wr_tup (k := 1) (ts := [keyT e.1, reprF (fr e.2)]) (fun ks z => ?_) (.cons (.tup (rp_ints e.1)) (.cons (.obj (.cons (.int _) (.cons (.int _) .nil))) .nil)) rfl fun j d hj => ?_
    · cases ks with
      | nil => cases z
      | cons a ks =>
        rw [List.map_cons] at z
        have := (List.cons.inj z).1
        cases a <;> cases this
    · match j, hj with
      | 0, hj => cases hj; exact ⟨_, rfl, wr_tupI fun i hi => tl (small_i ge hn me hi)⟩
      | 1, hj => cases hj; exact ⟨_, rfl, wr_obj R fun Q q => ⟨fr e.2, rfl, (ge.bq e me).le hb, q⟩⟩
      | j + 2, hj => cases hj
  · have := listText_up (n := 31000) (ts := es.map entT) fun t ht => by
      obtain ⟨e, he, rfl⟩ := List.mem_map.mp ht
      exact entT_len ge hn m8 hb he
    rw [List.length_map] at this
    have : (31000 + 2) * es.length ≤ (31000 + 2) * 60 := Nat.mul_le_mul_left _ ln
    have : 31002 * 60 + 4 ≤ sizeLine := by decide
    omega
/-! what is due, shown -/
abbrev spShown : SpD := fun as Q => ∃ m n b : Nat, ∃ es, as = [.val (.dcT (kvP es))] ∧ 1 ≤ m ∧ m ≤ 8 ∧ n ≤ 8 ∧ b ≤ 1000 ∧ GE m n b es ∧ Q (.str (txs (srt es)))
theorem sc_shown : FnScope ["_law_own", "_law_counts_here"] ["_law_own"] (defScope (top 59)) := ⟨rfl, rfl, rfl, by decide +kernel, rfl, by decide +kernel, by decide +kernel⟩
theorem ok_shown {f : Addr} {fd : FuncData} (F : FunS K "_law_shown" "_law_shown" (top 59) f fd) (V : Bt P w K mg base C CB) (R : Sm P w K mg base C "__repr__" 1 (sp1b C 1900 fun p => .str (reprF p))) : GnOk P w K mg base 5 f fd ["_law_own"] (lift K spShown) := by
  refine gn_dl F sc_shown (fun as Q h => by obtain ⟨_, _, _, _, rfl, _⟩ := h; rfl) (fun cdv A outer s H hr hG W as Q h => ?_)
  obtain ⟨m, n, b, es, rfl, m1, m8, hn, hb, ge, q⟩ := h
  have nd := sc_shown.nd
  have T := V.T
  have gs := srt_ge ge
  have ln := gs.ln
  refine sds_cons (sd_ret (ed_callB T.T.repr (ad_cons (ed_fd (fd_mp (f := fun e : Ent => tI e.1) (u := eD C) (l := srt es) 1 rfl nd (own := [("_law_counts_here", 1)]) (blkOk_by (by show blkC ["_law_own", "_law_counts_here"] (defScope (top 59)) _ _ = true; decide +kernel)) (fun _ _ _ _ _ => pg_name (i := 1) nd rfl (Or.inl rfl)) (by simp) (by omega) (.inl rfl) (ed_callB T.sorted (ad_cons (nm 0 (ad_nil (cd_skeys rfl m1 ge hn rfl))))) ?_ (ad_nil (cd_reprE R hr hG gs hn m8 (by omega) q)))))))
  intro e he s2 H0 C2 cl fp
  have me := (srt_perm es).mem_iff.mp he
  refine ed_tup (ad_cons (nm 1 (ad_cons (ed_makeA V.L.V.mk2 (hr.mono (j := 3) (by decide)) hG (ad_cons (i0 (p := fr e.2) (ed_dget (un1 hr) (nm 0 (nm 1 ⟨_, ik e.1, _, rfl, (tD_ik _).symm, look_kvP ge.nd me, rfl, ?_⟩)))))))))
  refine ad_cons (i1 (p := fr e.2) (ed_dget (un1 hr) (nm 0 (nm 1 ⟨_, ik e.1, _, rfl, (tD_ik _).symm, look_kvP ge.nd me, rfl, ?_⟩))))
  have bq := ge.bq e me
  refine ad_nil (mk_ok (n := 1000) (fr_ne e.2) (bd_mono bq.t hb) (bd_mono bq.b hb) (by decide) ?_)
  rw [low_self]
  exact ad_nil ⟨[tI e.1, Ra C (fr e.2)], rfl, by simp, rfl⟩
end
end K46

set_option Elab.async false
set_option linter.all false
set_option maxRecDepth 100000
set_option maxHeartbeats 2000000
/-! {x!r}: a list with own objects, in a text -/
namespace DL
open PySem PySem.Spec PyProof.Rows L2
theorem pyReprObj_slot {prog : Program} {w : World} {A : Around} {E : Value → Shared → Prop} {s : Shared} {T idr : String} {v : Value} {Q : Value → Shared → Prop} (hu : A.units < cLine) (hT : s.TypeIs v T) (slotRepr : SlotG T "__repr__" idr)
    (hc : wpAny (model prog w) A (call (.builtin idr) [v]) (fun r s₁ => ∃ x t, r = .str x t ∧ Q r s₁) E s) : wpAny (model prog w) A (pyReprObj v) Q E s := by
  unfold pyReprObj
  refine wpAny_bind (m := cRoomFor _ _) (wpAny_cRoomFor hu ?_)
  refine wpAny_bind (wpAny_specialOf (name := Str.ofString "__repr__") hT slotRepr.lookup ?_)
  refine wpAny_bind (m := callSpecialIfBound? v (Str.ofString "__repr__")) (wpAny_callSpecialIfBound?_slotG (name := Str.ofString "__repr__") hT slotRepr (wpAny_mono hc (fun r s₁ h₁ => ?_) fun _ _ e => e))
  obtain ⟨x, t, rfl, hq⟩ := h₁
  refine wpAny_bind (wpAny_isInstance (T := "str") (b := true) rfl isSubtype_str_str ?_)
  exact wpAny_pure hq
/-- what {x!r} comes to, x whatever it is -/
def WRr (X : Cx) (x : V) (H : Hp) (Q : VK) : Prop := ∀ pins s σ u, Inv X pins σ H s → RelV x u → wpAny (model X.prog X.w) X.A (pyReprObj u) (fun r s' => ∃ y t H2, r = Value.str y t ∧ y.length ≤ sizeLine ∧ Inv X pins σ H2 s' ∧ Q (.str y) H2) X.xe s
def tFmtL (X : Cx) (te : TE) : TE := fun σ H Q => te σ H fun x H1 => WRr X x H1 Q
theorem pe_fmtL {X : Cx} {e : Expr} {te : TE} {pos : Pos} (he : PE X e te) : PE X (.FormattedValue e 114 none pos) (tFmtL X te) := by
  refine ⟨fun pins s σ H Q I h => ?_⟩
  refine wpAny_FormattedValue_repr (thn (he.run pins s σ H _ I h) fun v s1 hv => ?_)
  obtain ⟨x, H1, I1, r1, q⟩ := hv
  refine thn (q pins s1 σ v I1 r1) fun r s2 hr => ?_
  obtain ⟨y, t, H2, rfl, hz, I2, q2⟩ := hr
  exact wpAny_formatField_str ⟨.str y, H2, I2, ⟨t, rfl⟩, q2⟩ ⟨.str y, H2, I2.tok _, ⟨_, rfl⟩, q2⟩ hz
section
variable {X : Cx} {B : Hp} {S : En} {pos : Pos} {Q : D → Prop} {e : Expr} {k : Nat}
/-- {x!r}, x a list with own objects -/
theorem ed_fmtL (hr : Room (k + 2) X.A) (hG : X.A.guards = some (gOf X)) (h : ED X B S e fun d => ∃ l ts, d = .lst l ∧ l.length ≤ 1000 ∧ Rps l ∧ ts.length = l.length ∧ (∀ (i : Nat) d, l[i]? = some d → ∃ t, ts[i]? = some t ∧ Wr X k d t) ∧ (listText ts).length ≤ sizeLine ∧ Q (.str (listText ts))) : ED X B S (.FormattedValue e 114 none pos) Q := fun σ W H r R c => by
  refine PE.w (pe_fmtL we_pe) ?_
  refine h σ W H r _ fun d v W1 H1 s1 ok1 n1 q1 => ?_
  obtain ⟨l, ts, rfl, hl, rp, hlen, hT, hb, q⟩ := q1
  have c1 := c.step s1 ok1
  intro pins s σ' u I ru
  cases n1 with
  | @lst _ a xs ha hm =>
    cases ru
    obtain ⟨_, its, n0, rv, le, get⟩ := I.lstM (ok1.ex _ _ ha)
    have ty : s.TypeIs (.ref a) "list" := ⟨_, get, rfl⟩
    refine pyReprObj_slot hr.units0 ty F.slot_list_repr.toG (wpAny_call (codeAny_call_builtin F.slot_list_repr.plain F.entry_list_repr (F.slot_list_repr.check _ _ _ _ _ _ _ _ ty (F.args_list_repr_1 _) ?_)))
    exact wr_lstBody (base := 0) (R := callEnd (fun r s₁ => ∃ x t, r = .str x t ∧ ∃ y t' H2, r = Value.str y t' ∧ y.length ≤ sizeLine ∧ Inv X pins σ' H2 s₁ ∧ R (.str y) H2) X.xe) hl ⟨hr.mono (by omega), I.env0.frames⟩ hG ok1 I ha hm rp hlen hT (by omega) fun W' H' s' u st ok' I' => ⟨_, _, rfl, _, _, H', rfl, hb, I', c1 (.str _) _ W' H' st ok' (.str _) q⟩
/-- {x!r}, x a text -/
theorem ed_fmtRs (h : ED X B S e fun d => ∃ y, d = .str y ∧ (reprText y).length ≤ sizeLine ∧ Q (.str (reprText y))) : ED X B S (.FormattedValue e 114 none pos) Q := fun σ W H r R c => by
  refine PE.w (pe_fmtR we_pe) ?_
  refine h σ W H r _ fun d v W1 H1 s1 ok1 n1 q1 => ?_
  obtain ⟨y, rfl, l, q⟩ := q1
  have c1 := c.step s1 ok1
  cases n1
  exact .inl ⟨y, rfl, l, c1.now ok1 (.str _) q⟩
end
end DL

set_option Elab.async false
set_option linter.all false
set_option maxRecDepth 100000
set_option maxHeartbeats 8000000
/-! k46: a Blend's text -/
namespace K46
open PySem L2 DL
section
variable {P : Program} {w : World} {K : PySem.W.Frag} {mg : Str → Option Value} {base : Heap} {C CB : Addr}
theorem letT_len {z : List Nat} (hz : LetZ z) : (reprText (SX.S z)).length ≤ 1000 := by
  have lv : (PyData.str (SX.S z)).leavesShort 13 = true := by
    have a := hz.asc
    show ((SX.S z).cps.toList.all fun c => decide (c < 16 ^ 8)) = true
    rw [Array.all_eq_true_iff_forall_mem] at a
    rw [List.all_eq_true]
    intro c hc
    have := a c (Array.mem_toList_iff.mp hc)
    have h2 : c < 128 := by simpa using this
    exact decide_eq_true (Nat.lt_of_lt_of_le h2 (by decide))
  have h := PyData.shown_le 13 (by decide) _ lv
  have e : (PyData.str (SX.S z)).weight = z.length := by
    show (SX.S z).cps.size = _
    have := SX.S_len z
    exact this
  have l8 := hz.l8
  rw [e] at h
  have h2 : (PyData.str (SX.S z)).shown = reprText (SX.S z) := by simp only [PyData.shown]
  rw [h2] at h
  have : (13 + 2) * z.length ≤ 15 * 8 := Nat.mul_le_mul_left _ l8
  omega
def blT (z : List Nat) (es : List Ent) : Str := "Blend(" ++ reprText (SX.S z) ++ ", " ++ txs es ++ ")"
abbrev spBRepr (C CB : Addr) : SpD := fun as Q => ∃ z, ∃ m n b : Nat, ∃ es, as = [.val (Bo C CB z n es)] ∧ LetZ z ∧ z.length = m ∧ n ≤ 8 ∧ b ≤ 1900 ∧ GE m n b es ∧ Q (.str (blT z es))
theorem txs_len {m n b : Nat} {es : List Ent} (ge : GE m n b es) (hn : n ≤ 8) (m8 : m ≤ 8) (hb : b ≤ 1900) : (txs es).length ≤ 1900000 := by
  have := listText_up (n := 31000) (ts := es.map entT) fun t ht => by
    obtain ⟨e, he, rfl⟩ := List.mem_map.mp ht
    exact entT_len ge hn m8 hb he
  rw [List.length_map] at this
  have : (31000 + 2) * es.length ≤ (31000 + 2) * 60 := Nat.mul_le_mul_left _ ge.ln
  unfold txs
  omega
theorem fitB {x : Str} {n : Nat} (h : x.length ≤ n) (k : n ≤ 2000000) : x.length ≤ sizeLine := Nat.le_trans h (Nat.le_trans k (by decide))
theorem ents_wr {X : Cx} {m n b : Nat} {es : List Ent} (R : Sm X.prog X.w X.K X.mg X.base C "__repr__" 1 (sp1b C 1900 fun p => .str (reprF p))) (ge : GE m n b es) (hn : n ≤ 8) (hb : b ≤ 1900) (i : Nat) (d : D) (hd : (enD C es)[i]? = some d) : ∃ t, (es.map entT)[i]? = some t ∧ Wr X 2 d t := by
  obtain ⟨e, he, rfl⟩ := enD_get hd
  have me := List.mem_of_getElem? he
  refine ⟨entT e, by rw [List.getElem?_map, he]; rfl, ?_⟩
  refine wr_tup (k := 1) (ts := [keyT e.1, reprF (fr e.2)]) (fun ks z => ?_) (.cons (.tup (rp_ints e.1)) (.cons (.obj (.cons (.int _) (.cons (.int _) .nil))) .nil)) rfl fun j d hj => ?_
  · cases ks with
    | nil => cases z
    | cons a ks =>
      rw [List.map_cons] at z
      have := (List.cons.inj z).1
      cases a <;> cases this
  · match j, hj with
    | 0, hj => cases hj; exact ⟨_, rfl, wr_tupI fun i hi => tl (small_i ge hn me hi)⟩
    | 1, hj => cases hj; exact ⟨_, rfl, wr_obj R fun Q q => ⟨fr e.2, rfl, (ge.bq e me).le hb, q⟩⟩
    | j + 2, hj => cases hj
theorem sc_brepr : FnScope ["self"] ["self"] (defScope (ble 11)) := ⟨rfl, rfl, rfl, by decide +kernel, rfl, by decide +kernel, by decide +kernel⟩
theorem ok_brepr {f : Addr} {fd : FuncData} (F : FunS K "__repr__" "Blend.__repr__" (ble 11) f fd) (V : Bt P w K mg base C CB) (R : Sm P w K mg base C "__repr__" 1 (sp1b C 1900 fun p => .str (reprF p))) : GnOk P w K mg base 5 f fd ["self"] (lift K (spBRepr C CB)) := by
  refine gn_dl F sc_brepr (fun as Q h => by obtain ⟨_, _, _, _, _, rfl, _⟩ := h; rfl) (fun cdv A outer s H hr hG W as Q h => ?_)
  obtain ⟨z, m, n, b, es, rfl, hz, hm, hn, hb, ge, k⟩ := h
  have T := V.T
  have m8 : m ≤ 8 := by rw [← hm]; exact hz.l8
  have k : Q (.str (blT z es)) := k
  unfold blT at k
  have l1 := letT_len hz
  have l2 := txs_len ge hn m8 hb
  have l3 : (("Blend(" : Str)).length ≤ 6 := by decide +kernel
  have l4 : ((", " : Str)).length ≤ 2 := by decide +kernel
  have l5 : ((")" : Str)).length ≤ 1 := by decide +kernel
  have ln := ge.ln
  refine sds_cons (sd_ret (ed_join (ed_str ⟨_, rfl, ?_, ed_fmtRs (fL T (nm 0 ⟨rfl, _, rfl, fitB l1 (by decide), _, rfl, ?_, ed_str ⟨_, rfl, ?_, ed_fmtL (k := 2) hr hG (mE V ge (hr.mono (j := 1) (by decide)) hG (nm 0 ⟨rfl, enD C es, es.map entT, rfl, by rw [enD_len]; omega, rp_ents es, by rw [List.length_map, enD_len], ents_wr R ge hn hb, fitB l2 (by decide), _, rfl, ?_, ed_str ⟨_, rfl, ?_, ?_⟩⟩))⟩⟩))⟩)))
  · rw [emp_app]; exact fitB l3 (by decide)
  · rw [emp_app]; exact fitB (app_len l3 l1) (by decide)
  · rw [emp_app]; exact fitB (app_len (app_len l3 l1) l4) (by decide)
  · rw [emp_app]; exact fitB (app_len (app_len (app_len l3 l1) l4) l2) (by decide)
  · rw [emp_app]; exact fitB (app_len (app_len (app_len (app_len l3 l1) l4) l2) l5) (by decide)
  · show Q _
    rw [emp_app]
    exact k
end
end K46

set_option Elab.async false
set_option linter.all false
set_option maxRecDepth 100000
set_option maxHeartbeats 2000000
/-! a def called with places and keywords -/
namespace DL
open PySem PySem.Spec PyProof.Rows L2
section
variable {X : Cx} {B : Hp} {S : En} {pos p : Pos} {Q : D → Prop} {e : Expr} {es : List Expr} {kws : List Keyword} {x : Str} {k n : Nat}
theorem we_callKn {f : Addr} {fd : FuncData} {ps ks : List Str} {sp : SpG} {g : List Code} {gf : List Value → List Value → List Value} {gV : List V → List V → List V} {σ : L2.St} {H : Hp} {Q : VK}
    (F : GnOk X.prog X.w X.K X.mg X.base k f fd ps sp) (hr : Room k X.A) (hG : X.A.guards = some g) (hg : Gl X x) (hm : X.mg x = some (.ref f)) (hk : PySem.W.keepIn X.K (.ref f) = true) (hb : KBn X.K fd ps n ks gf gV)
    (h : WA X (e :: es) σ H fun vs H1 => vs.length = n ∧ WK X kws σ H1 fun zs H2 => zs.length = ks.length ∧ sp g (gV vs zs) H2 Q)
    (hall : (backToKw pos (keywordEach kws X.env)).all (·.1.isSome) = true) (hks : (backToKw pos (keywordEach kws X.env)).filterMap (·.1) = ks) (hdb : (x == ("__debug__" : Str)) = false)
    (hpl : ((backTo pos (starEach (e :: es) X.env)).any (·.1) || (backToKw pos (keywordEach kws X.env)).any (·.1.isNone)) = false) (he : starEach (e :: es) X.env = (false, eval e X.env) :: starEach es X.env) : WE X (.Call (.Name x p) (e :: es) kws pos) σ H Q := fun pins s I => by
  refine wpAny_Call_Name_kw (ld_glob I hg hm ?_ hdb)
  refine PySem.W.callWith_KW (h₀ := X.base) I.ok.mod.kin hk hall (thn (h pos pins s I) fun us s1 ⟨vs, H1, I1, r, l1, q⟩ => ?_) hpl he
  refine thn (q pos pins s1 I1) fun ws s2 ⟨zs, H2, I2, rz, l2, q2⟩ => ⟨I2.kIn, ?_⟩
  rw [hks]
  have n1 : us.length = n := by rw [← r.length, l1]
  have n2 : ws.length = ks.length := by rw [← rz.length, l2]
  exact wpAny_call (run_gb F hr hG I2.env0 (hb.to _ us ws I2.kIn n1 n2) I2 (hb.rel r rz) q2 fun _ _ z => z)
/-- a def called with n places and the keywords ks: mid puts both in the parameters' order -/
structure DfKn (P : Program) (w : World) (K : PySem.W.Frag) (mg : Str → Option Value) (base : Heap) (x : Str) (k n : Nat) (ks : List Str) (midD : List Sl → List Sl → List Sl) (sp : SpD) : Prop where
  ex : ∃ f fd ps gf, ∃ gV : List V → List V → List V, GnOk P w K mg base k f fd ps (lift K sp) ∧ mg x = some (.ref f) ∧ PySem.W.keepIn K (.ref f) = true ∧ KBn K fd ps n ks gf gV ∧ ∀ W as vs bs zs, Args K W as vs → Args K W bs zs → Args K W (midD as bs) (gV vs zs)
theorem ed_callKn {ks : List Str} {midD : List Sl → List Sl → List Sl} {sp : SpD} (F : DfKn X.prog X.w X.K X.mg X.base x k n ks midD sp) (hr : Room k X.A) (hG : X.A.guards = some (gOf X)) (h : AD X B S (e :: es) fun as => as.length = n ∧ KD X B S kws fun bs => bs.length = ks.length ∧ sp (midD as bs) Q) (hg : Gl X x := by rfl)
    (hall : (backToKw pos (keywordEach kws X.env)).all (·.1.isSome) = true := by rfl) (hks : (backToKw pos (keywordEach kws X.env)).filterMap (·.1) = ks := by rfl) (hdb : (x == ("__debug__" : Str)) = false := by decide)
    (hpl : ((backTo pos (starEach (e :: es) X.env)).any (·.1) || (backToKw pos (keywordEach kws X.env)).any (·.1.isNone)) = false := by rfl) (he : starEach (e :: es) X.env = (false, eval e X.env) :: starEach es X.env := by rfl) : ED X B S (.Call (.Name x p) (e :: es) kws pos) Q := fun σ W H r R c => by
  obtain ⟨f, fd, ps, gf, gV, F, hm, hk, hb, hc⟩ := F.ex
  refine we_callKn F hr hG hg hm hk hb ?_ hall hks hdb hpl he
  refine h σ W H r _ fun as vs W1 H1 s1 ok1 n1 q1 => ?_
  obtain ⟨l1, q1⟩ := q1
  refine ⟨by rw [← l1]; exact (Paired.length n1).symm, ?_⟩
  refine q1 σ W1 H1 (r.step s1 ok1) _ fun bs zs W2 H2 s2 ok2 n2 q2 => ?_
  obtain ⟨l2, q2⟩ := q2
  exact ⟨by rw [← l2]; exact (Paired.length n2).symm, midD as bs, W2, Q, ok2, hc _ _ _ _ _ (Args.step n1 s2) n2, q2, (c.step s1 ok1).step s2 ok2⟩
end
end DL

set_option Elab.async false
set_option linter.all false
set_option maxRecDepth 100000
set_option maxHeartbeats 2000000
/-! a new dict that a name owns -/
namespace DL
open PySem PySem.Spec PyProof.Rows L2
section
variable {X : Cx} {B : Hp} {W0 : Wd} {S : En} {pos px : Pos} {e : Expr} {E : Ends'} {x : Str}
/-- x = dict(..), x = {.. for ..}: x owns it -/
theorem sd_ownT (i : Nat) (hN : X.N.Nodup) (hi : X.N[i]? = some x) (h : FT X B S e fun kvs => E.nx (S.set i (some (.ownT kvs)))) (hx : Loc X.env.scope x := by first | exact Or.inl rfl | exact Or.inr rfl)
    (hs : swapsWith e (some (.Name x px)) pos.line X.env = pure false := by rfl) (hf : X.fn x = true ∨ X.env.scope.names.lookup x = some .local := by first | exact .inl rfl | exact .inr rfl) : SD X B W0 S (.Assign [.Name x px] e pos) E := fun σ W H r z D' k =>
  PS.w (ps_set hN hi hx we_pe hs hf) (h σ W H r _ fun kvs p ws W1 H1 s1 ok1 hp n i1 hl d q1 => k.nx _ _ W1 H1 ((r.step s1 ok1).newT (z.free r.ok hp) n i1 hl d fun j m e1 e2 => by
    obtain ⟨v, e3, p2, ys, e4, _, _, _, h4, _⟩ := r.sl j _ e1
    rw [e2] at e3
    cases e3
    cases e4
    rw [hp] at h4
    cases h4) (z.trans r.ok s1) s1.I q1)
end
end DL

set_option Elab.async false
set_option linter.all false
set_option maxRecDepth 100000
set_option maxHeartbeats 8000000
/-! k46: what moving comes to -/
namespace K46
open PySem L2 DL
theorem oth_perm {es fs : List Ent} (p : es.Perm fs) (k : List Int) : (oth es k).Perm (oth fs k) := p.filter _
theorem put_perm {es fs : List Ent} (p : es.Perm fs) (k : List Int) (r : Rat) : (put es k r).Perm (put fs k r) := List.Perm.append_right _ (oth_perm p k)
theorem oth_none {es : List Ent} {k : List Int} (h : k ∉ es.map (·.1)) : oth es k = es := by
  unfold oth
  rw [List.filter_eq_self]
  intro x hx
  have : ¬ x.1 = k := fun z => h (by rw [← z]; exact List.mem_map_of_mem hx)
  rw [decide_eq_false this]
  rfl
theorem oth_put {es : List Ent} {k : List Int} {r : Rat} : oth (put es k r) k = oth es k := by
  unfold put
  unfold oth
  rw [List.filter_append, List.filter_filter]
  have : [(k, r)].filter (fun e : Ent => !decide (e.1 = k)) = [] := by
    rw [List.filter_cons_of_neg (by rw [decide_eq_true rfl]; decide)]
    rfl
  rw [this, List.append_nil]
  refine List.filter_congr fun x _ => ?_
  rw [Bool.and_self]
theorem put_put {es : List Ent} {k : List Int} {r s : Rat} : put (put es k r) k s = put es k s := by
  show oth (put es k r) k ++ _ = oth es k ++ _
  rw [oth_put]
/-- a key put back where it was -/
theorem put_back {es : List Ent} (nd : (es.map (·.1)).Nodup) {k : List Int} {r : Rat} (h : (k, r) ∈ es) : (put es k r).Perm es := by
  refine (ins_perm nd k r).symm.trans ?_
  unfold insP
  rw [if_pos (List.mem_map.mpr ⟨_, h, rfl⟩)]
  have : es.map (fun e : Ent => if e.1 = k then (k, r) else e) = es := by
    refine (List.map_congr_left fun x hx => ?_).trans (List.map_id es)
    by_cases y : x.1 = k
    · rw [if_pos y]
      have e1 : amt es k = x.2 := amt_in nd (by rw [← y]; exact hx)
      have e2 : amt es k = r := amt_in nd h
      show (k, r) = x
      rw [← e2, e1, ← y]
    · rw [if_neg y]
      rfl
  rw [this]
section
variable {m n b : Nat} {es : List Ent} {k : List Int} {r s : Rat}
/-- what with_amount gives of the sorted ones -/
theorem srt_put (ge : GE m n b es) (hn : n ≤ 8) (gp : GE m n b (put es k r)) : srt (put (srt es) k r) = srt (put es k r) := srt_congr gp hn (put_perm (srt_perm es) k r)
theorem srt_oth (ge : GE m n b es) (hn : n ≤ 8) : srt (oth (srt es) k) = srt (oth es k) := srt_congr (ge_oth ge k) hn (oth_perm (srt_perm es) k)
/-- and back again -/
theorem srt_back (ge : GE m n b es) (hn : n ≤ 8) (h : (k, s) ∈ es) : srt (put (srt (put es k r)) k s) = srt es := by
  refine srt_congr ge hn ((put_perm (srt_perm _) k s).trans ?_)
  rw [put_put]
  exact put_back ge.nd h
/-- left out again -/
theorem srt_out (ge : GE m n b es) (hn : n ≤ 8) : srt (oth (srt (put es k r)) k) = srt (oth es k) := by
  refine srt_congr (ge_oth ge k) hn ((oth_perm (srt_perm _) k).trans ?_)
  rw [oth_put]
theorem srt_ins (ge : GE m n b es) (hn : n ≤ 8) (gp : GE m n b (put es k r)) : srt (insP es k r) = srt (put es k r) := srt_congr gp hn (ins_perm ge.nd k r)
/-- the amount of a key that is not there -/
theorem amt_no {es : List Ent} {k : List Int} (h : k ∉ es.map (·.1)) : amt es k = 0 := by
  unfold amt
  rw [List.find?_eq_none.mpr]
  · rfl
  · intro x hx
    simp only [decide_eq_true_eq]
    exact fun z => h (by rw [← z]; exact List.mem_map_of_mem hx)
theorem amt_srt (ge : GE m n b es) : amt (srt es) k = amt es k := by
  by_cases h : k ∈ es.map (·.1)
  · obtain ⟨e, he, rfl⟩ := List.mem_map.mp h
    rw [amt_in ge.nd (r := e.2) he, amt_in (srt_ge ge).nd (r := e.2) ((srt_perm es).mem_iff.mpr he)]
  · rw [amt_no h, amt_no fun z => h (((srt_perm es).map _).mem_iff.mp z)]
end
theorem putAll_kvP {es : List Ent} (nd : (es.map (·.1)).Nodup) : putAll [] (kvP es) = kvP es := by
  rw [putAll_new]
  · rfl
  · rw [List.nil_append, kvP_keys]
    exact List.pairwise_map.mpr (List.pairwise_map.mp nd |>.imp fun h z => h (ik_inj z))
end K46

set_option Elab.async false
set_option linter.all false
set_option maxRecDepth 100000
set_option maxHeartbeats 8000000
/-! k46: moved right -/
namespace K46
open PySem L2 DL
theorem sds_st {X : Cx} {B : Hp} {W0 : Wd} {S S' : En} {sts : List Stmt} {E : Ends'} (e : S = S') (k : SDs X B W0 S' sts E) : SDs X B W0 S sts E := e ▸ k
theorem amt_lookP {es : List Ent} (k : List Int) : (look (kvP es) (ik k)).getD (.tup [.int 0, .int 1]) = prq (amt es k) := by
  unfold amt look kvP
  rw [List.find?_map]
  have e : ((fun kv : List Key × D => decide (kv.1 = ik k)) ∘ fun e : Ent => (ik e.1, prq e.2)) = fun e : Ent => decide (e.1 = k) := funext fun e => by
    show decide (ik e.1 = ik k) = decide (e.1 = k)
    by_cases h : e.1 = k
    · rw [decide_eq_true h, decide_eq_true (by rw [h])]
    · rw [decide_eq_false h, decide_eq_false fun z => h (ik_inj z)]
  rw [e]
  cases es.find? fun e => decide (e.1 = k) with
  | none => rfl
  | some x => rfl
theorem look_noP {es : List Ent} {k : List Int} (h : k ∉ es.map (·.1)) : look (kvP es) (ik k) = none := by
  unfold look
  rw [List.find?_eq_none.mpr]
  · rfl
  · intro p hp
    unfold kvP at hp
    obtain ⟨e, he, rfl⟩ := List.mem_map.mp hp
    simp only [decide_eq_true_eq]
    exact fun z => h (by rw [← ik_inj z]; exact List.mem_map_of_mem he)
theorem amt_bq {m n b : Nat} {es : List Ent} (ge : GE m n b es) (k : List Int) (h1 : 1 ≤ b) : Bq b (amt es k) := by
  by_cases h : k ∈ es.map (·.1)
  · obtain ⟨e, he, rfl⟩ := List.mem_map.mp h
    rw [amt_in ge.nd (r := e.2) he]
    exact ge.bq e he
  · rw [amt_no h]
    exact Bq.int (i := 0) (by show 0 < 2 ^ b; exact Nat.pow_pos (by decide)) h1
structure Lw (P : Program) (w : World) (K : PySem.W.Frag) (mg : Str → Option Value) (base : Heap) (C CB : Addr) : Prop where
  V : Bt P w K mg base C CB
  R : Sm P w K mg base C "__repr__" 1 (sp1b C 1900 fun p => .str (reprF p))
  BR : Sm P w K mg base CB "__repr__" 5 (spBRepr C CB)
  am : Mt P w K mg base CB "amount" 4 (spAmount C CB)
  draw : Df P w K mg base "_law_draw" 1 2 spDraw
  pick : Df P w K mg base "_law_pick" 2 2 spPick
  lam : Df P w K mg base "_law_amount" 3 1 spAm
  wam : Df P w K mg base "with_amount" 10 3 (spMvd C CB)
  wamK : DfKn P w K mg base "with_amount" 10 2 ["number"] (fun as bs => as ++ bs) (spMvd C CB)
  wo : Df P w K mg base "without" 9 2 (spWo C CB)
  shown : Df P w K mg base "_law_shown" 5 1 spShown
section
variable {P : Program} {w : World} {K : PySem.W.Frag} {mg : Str → Option Value} {base : Heap} {C CB : Addr}
abbrev spMR (C CB : Addr) : SpD := fun as Q => ∃ z, ∃ m n : Nat, ∃ es, ∃ k : List Int, as = [.pot, .val (.str (SX.S z)), .val (.dcT (kvP es)), .val (Bo C CB z n (srt es)), .val (.lst (k.map D.int))] ∧ LetZ z ∧ z.length = m ∧ n ≤ 8 ∧ GE m n 22 es ∧ es.length ≤ 50 ∧ k.length = m ∧ (∀ c ∈ k, (0 : Int) ≤ c) ∧ k.sum = (n : Int) ∧ Q (.bl true)
abbrev NMr : List Str := ["_law_pot_here", "_law_letters", "_law_own", "_law_made_here", "_law_counts_here", "_law_shown_here", "_law_amount_here", "_law_one", "_law_later", "_law_worth", "_law_told", "_law_back"]
theorem sc_mr : FnScope NMr ["_law_pot_here", "_law_letters", "_law_own", "_law_made_here", "_law_counts_here"] (defScope (top 60)) := ⟨rfl, rfl, rfl, by decide +kernel, rfl, by decide +kernel, by decide +kernel⟩
theorem ok_mr {f : Addr} {fd : FuncData} (F : FunS K "_law_moved_right" "_law_moved_right" (top 60) f fd) (Y : Lw P w K mg base C CB) : GnOk P w K mg base 11 f fd ["_law_pot_here", "_law_letters", "_law_own", "_law_made_here", "_law_counts_here"] (lift K (spMR C CB)) := by
  refine gn_dl F sc_mr (fun as Q h => by obtain ⟨_, _, _, _, _, rfl, _⟩ := h; rfl) (fun cdv A outer s H hr hG W as Q h => ?_)
  obtain ⟨z, m, n, es, k, rfl, hz, hm, hn, ge, ln, kl, nn, sm, q⟩ := h
  have nd := sc_mr.nd
  have V := Y.V
  have T := V.T
  have m8 : m ≤ 8 := by rw [← hm]; exact hz.l8
  have m1 : 1 ≤ m := by rw [← hm]; exact hz.l1
  have gs := srt_ge ge
  have lns : (srt es).length ≤ 59 := by rw [(srt_perm es).length_eq]; omega
  refine sds_cons (sd_par 5 6 rfl nd rfl rfl (by decide) rfl rfl (ad_cons (ed_callB T.T.repr (ad_cons (nm 3 (ad_nil (cd_reprO Y.BR (hr.mono (j := 6) (by decide)) hG ⟨z, m, n, 22, srt es, rfl, hz, hm, hn, by decide, gs, _, rfl, ?_⟩)))))))
  refine ad_cons (ed_call Y.pick (hr.mono (j := 2) (by decide)) hG (ad_pot 0 rfl rfl ?_))
  refine ad_cons ?_
  refine ed_lst ?_
  refine ad_cons (ed_call Y.lam (hr.mono (j := 3) (by decide)) hG (ad_pot 0 rfl rfl (ad_nil ⟨rfl, fun r0 rp0 rb0 => ?_⟩)))
  refine ad_cons (ed_tup (ad_cons (ed_int (ad_cons (ed_int (ad_nil ⟨[.int 1, .int 1], rfl, by simp, ?_⟩))))))
  refine ad_cons (ed_tup (ad_cons (ed_int (ad_cons (ed_int (ad_nil ⟨[.int 999979, .int 1], rfl, by simp, ?_⟩))))))
  refine ad_cons (ed_tup (ad_cons (ed_int (ad_cons (ed_int (ad_nil ⟨[.int 1, .int 999979], rfl, by simp, ?_⟩))))))
  refine ad_nil ⟨[prq r0, .tup [.int 1, .int 1], .tup [.int 999979, .int 1], .tup [.int 1, .int 999979]], rfl, by simp, ad_nil ⟨_, rfl, by simp, by simp, fun x hx => ?_⟩⟩
  have hx2 : ∃ r : Rat, x = prq r ∧ 0 < r ∧ Bq 22 r := by
    simp only [List.mem_cons, List.not_mem_nil, or_false] at hx
    have key : ∀ a b : Int, 0 < a → 0 < b → a.natAbs < 2 ^ 22 → b.natAbs < 2 ^ 22 → low a b = (a, b) → ∃ r : Rat, D.tup [.int a, .int b] = prq r ∧ 0 < r ∧ Bq 22 r := fun a b ha hb h1 h2 e => by
      have b0 : b ≠ 0 := by omega
      have lb := low_bd (t := a) b0 h1 h2
      rw [low_fr b0] at lb e
      refine ⟨Rat.divInt a b, ?_, dv_pos ha hb, lb⟩
      show _ = pr (fr _)
      rw [e]
      rfl
    rcases hx with rfl | rfl | rfl | rfl
    · exact ⟨r0, rfl, rp0, rb0.le (by decide)⟩
    · exact key 1 1 (by decide) (by decide) (by decide) (by decide) (by decide +kernel)
    · exact key 999979 1 (by decide) (by decide) (by decide) (by decide) (by decide +kernel)
    · exact key 1 999979 (by decide) (by decide) (by decide) (by decide) (by decide +kernel)
  obtain ⟨r, rfl, rp, rb⟩ := hx2
  refine ad_nil ⟨_, _, rfl, ?_⟩
  have gp := ge_put gs kl nn sm rp rb lns
  have gp0 := ge_put ge kl nn sm rp rb (by omega)
  obtain ⟨BP, hBP⟩ : ∃ BP, BP = Bo C CB z n (srt (put es k r)) := ⟨_, rfl⟩
  have eP : Bo C CB z n (srt (put (srt es) k r)) = BP := by rw [srt_put ge hn gp0, hBP]
  refine sds_cons (sd_ownT 8 nd rfl (ft_dict rfl (un2 hr) T.dict (ed_fd (fd_lcK (kvs := kvP es) (fun i acc => acc = ((kvP es).take i).map DL.prD) (fun d => itE _ [("_law_one", 7)] 7 d) rfl nd (own := [("_law_one", 7)]) (blkOk_by (by show blkC NMr (defScope (top 60)) _ _ = true; decide +kernel)) (fun _ _ _ _ _ => pg_name (i := 7) nd rfl (Or.inl rfl)) (nm 2 ⟨rfl, by rw [kvP_len]; omega, rfl⟩) (fun d => pat_name 7 (by simp)) ?_ ?_))))
  · rintro i kk d acc hi hacc rfl s2 H0 C2 cl fp
    have hi' := hi
    unfold kvP at hi'
    rw [List.getElem?_map] at hi'
    cases he : es[i]? with
    | none => rw [he] at hi'; cases hi'
    | some e =>
      rw [he] at hi'
      cases hi'
      have me := List.mem_of_getElem? he
      rw [tD_ik]
      refine ed_tup (ad_cons (nm 7 (ad_cons (ed_dget (un1 hr) (nm 2 (nm 7 ⟨_, ik e.1, _, rfl, (tD_ik _).symm, look_kvP ge.nd me, ad_nil ⟨[tI e.1, prq e.2], rfl, by simp, ?_⟩⟩))))))
      rw [List.take_add_one, hi, List.map_append]
      show _ = _ ++ [D.tup [tD (ik e.1), prq e.2]]
      rw [tD_ik]
  rintro acc hacc rfl
  rw [List.take_length]
  refine ⟨kvP es, rfl, ?_⟩
  rw [putAll_kvP ge.nd]
  refine sds_cons (sd_putT 8 (kvP es) (un1 hr) rfl rfl (by rw [kvP_len]; omega) (nm 6 (ed_callTy T.T.tuple (ad_cons (nm 4 (ad_nil (cd_tuple ⟨ik k, (tD_ik _).symm, ?_⟩)))))))
  rw [put_kvP]
  refine sds_frzT 8 _ rfl ?_
  have gi := ge_ins ge kl nn sm rp rb (by omega)
  refine sds_st (S' := [some .pot, some (.val (.str (SX.S z))), some (.val (.dcT (kvP es))), some (.val (Bo C CB z n (srt es))), some (.val (.lst (k.map D.int))), some (.val (.str (blT z (srt es)))), some (.val (prq r)), none, some (.val (.dcT (kvP (insP es k r)))), none, none, none]) rfl ?_
  refine sds_cons (sd_set 9 nd rfl (ed_makeA V.L.V.mk2 (hr.mono (j := 3) (by decide)) hG (ad_cons (i0 (p := fr r) (nm 6 ⟨rfl, ad_cons (i1 (p := fr r) (nm 6 ⟨rfl, ad_nil (mk_ok (n := 22) (fr_ne r) rb.t rb.b (by decide) ?_)⟩))⟩)))))
  rw [low_self]
  refine sds_cons (sd_own 10 nd rfl (fd_lst (ad_cons (ed_call Y.wam (hr.mono (j := 10) (by decide)) hG (ad_cons (nm 3 (ad_cons (nm 4 (ad_cons (nm 9 (ad_nil ⟨z, m, n, n, 22, srt es, _, k, _, r, rfl, .inr rfl, hz, hm, hn, by decide, gs, lns, .inl rfl, kl, nn, sm, .rat r rb, rp, ?_⟩)))))))))))
  rw [eP]
  refine ad_cons (ed_callKn Y.wamK (hr.mono (j := 10) (by decide)) hG (ad_cons (nm 3 (ad_cons (ed_callTy T.T.tuple (ad_cons (nm 4 (ad_nil (cd_tuple (ad_nil ⟨rfl, kd_cons (nm 9 (kd_nil ⟨rfl, z, m, n, n, 22, srt es, tI k, k, _, r, rfl, .inr rfl, hz, hm, hn, by decide, gs, lns, .inr rfl, kl, nn, sm, .rat r rb, rp, ?_⟩))⟩))))))))))
  rw [eP]
  refine ad_nil ⟨[BP, BP], rfl, by simp, ?_⟩
  have g1 : GE m n 22 (srt (put es k r)) := srt_ge gp0
  have l1 : (srt (put es k r)).length ≤ 59 := by
    have : (oth es k).length ≤ es.length := List.length_filter_le _ _
    rw [(srt_perm _).length_eq]
    show (oth es k ++ [(k, r)]).length ≤ 59
    rw [List.length_append, List.length_singleton]
    omega
  refine sds_cons (sd_mid (fun S' => ∃ j, 2 ≤ j ∧ j ≤ 5 ∧ S' = [some .pot, some (.val (.str (SX.S z))), some (.val (.dcT (kvP es))), some (.val (Bo C CB z n (srt es))), some (.val (.lst (k.map D.int))), some (.val (.str (blT z (srt es)))), some (.val (prq r)), none, some (.val (.dcT (kvP (insP es k r)))), some (.val (Ra C (fr r))), some (.own (List.replicate j BP)), none]) ?_ (sd_if (td_cmp (i1 (p := fr r) (nm 6 ⟨rfl, ed_int (od_eqi (kB ?_))⟩)))))
  rotate_left
  · by_cases c : (fr r).2 = 1
    · rw [decide_eq_true c]
      show SDs _ _ _ _ _ _
      have er : (((fr r).1 : Int) : Rat) = r := by
        have h := fr_val r
        rw [c, Rat.divInt_eq_div] at h
        have h1 : (((1 : Int) : Int) : Rat) = 1 := rfl
        rw [h1] at h
        have h2 : (((fr r).1 : Int) : Rat) / 1 = (((fr r).1 : Int) : Rat) := by
          rw [Rat.div_def]
          grind
        rw [h2] at h
        exact h
      have nq : Nq C 22 (.int (fr r).1) r := by
        have h := Nq.int (C := C) (n := 22) (fr r).1 (by rw [er]; exact rb)
        rw [er] at h
        exact h
      refine sds_cons (sd_append 10 [BP, BP] rfl rfl (by simp) (ed_call Y.wam (hr.mono (j := 10) (by decide)) hG (ad_cons (nm 3 (ad_cons (nm 4 (ad_cons (i0 (p := fr r) (nm 6 ⟨rfl, ad_nil ⟨z, m, n, n, 22, srt es, _, k, _, r, rfl, .inr rfl, hz, hm, hn, by decide, gs, lns, .inl rfl, kl, nn, sm, nq, rp, ?_⟩⟩)))))))))
      rw [eP]
      exact sds_nil ⟨3, by decide, by decide, rfl⟩
    · rw [decide_eq_false c]
      show SDs _ _ _ _ _ _
      exact sds_nil ⟨2, by decide, by decide, rfl⟩
  rintro S' ⟨j, j2, j5, rfl⟩
  refine sds_frz 10 _ rfl ?_
  have eI : srt (insP es k r) = srt (put es k r) := srt_ins ge hn gp0
  refine sds_cons (sd_forL (l := List.replicate j BP) PassesOwn.never rfl (fun i S' => ∃ o7, S' = [some .pot, some (.val (.str (SX.S z))), some (.val (.dcT (kvP es))), some (.val (Bo C CB z n (srt es))), some (.val (.lst (k.map D.int))), some (.val (.str (blT z (srt es)))), some (.val (prq r)), o7, some (.val (.dcT (kvP (insP es k r)))), some (.val (Ra C (fr r))), some (.val (.lst (List.replicate j BP))), none]) (nm 10 ⟨rfl, none, rfl⟩) ?_ ?_)
  · rintro i e S' hi ⟨o7, rfl⟩
    have : e = BP := (List.mem_replicate.mp (List.mem_of_getElem? hi)).2
    subst this
    subst hBP
    refine gd_name 7 nd rfl (sds_cons (sd_if (td_of (tw_or (td_cmp (ed_callB T.T.repr (ad_cons (mE V g1 (hr.mono (j := 1) (by decide)) hG (nm 7 ⟨rfl, ad_nil (cd_reprE Y.R (hr.mono (j := 4) (by decide)) hG g1 hn m8 (by decide) (ed_call Y.shown (hr.mono (j := 5) (by decide)) hG (ad_cons (nm 8 (ad_nil ⟨m, n, 22, insP es k r, rfl, m1, m8, hn, by decide, gi, od_nes (kB ?_)⟩)))))⟩)))))))))
    rw [eI, decide_eq_true rfl]
    show TW _ _ _ _ _
    refine tw_or (td_cmp (pL V (hr.mono (j := 2) (by decide)) hG (nm 7 ⟨rfl, nm 1 (od_nes (kB ?_))⟩)))
    rw [decide_eq_true rfl]
    show TW _ _ _ _ _
    refine tw_or1 (td_cmp (pD V (hr.mono (j := 2) (by decide)) hG (nm 7 ⟨rfl, ?_⟩)))
    have ne : (srt (put es k r)).isEmpty = false := by
      cases e : srt (put es k r) with
      | nil =>
        have := (srt_perm (put es k r)).length_eq
        rw [e] at this
        unfold put at this
        rw [List.length_append] at this
        cases this
      | cons _ _ => rfl
    have ed : dgD n (srt (put es k r)) = .int (n : Int) := by unfold dgD; rw [ne]; rfl
    rw [ed]
    refine ed_callB T.sum (ad_cons (nm 4 (ad_nil (cd_sumS rfl (.inl rfl) (od_nei (kB ?_))))))
    rw [sm, decide_eq_true rfl]
    show SDs _ _ _ _ _ _
    exact sds_nil (sds_nil ⟨_, rfl⟩)
  rintro S' ⟨o7, rfl⟩
  have lj : ∀ i : Nat, i < 2 → atI (List.replicate j BP) (i : Int) = some BP := fun i hi => atI_nat (by rw [List.getElem?_replicate, if_pos (by omega)])
  have fin : ∀ o7 o11, SDs (Bx P w K mg base NMr "_law_moved_right" (top 60) f cdv A outer s H) H W [some .pot, some (.val (.str (SX.S z))), some (.val (.dcT (kvP es))), some (.val (Bo C CB z n (srt es))), some (.val (.lst (k.map D.int))), some (.val (.str (blT z (srt es)))), some (.val (prq r)), o7, some (.val (.dcT (kvP (insP es k r)))), some (.val (Ra C (fr r))), some (.val (.lst (List.replicate j BP))), o11] ((defBody (top 60)).drop 8) { nx := fun _ => Q .non, rt := Q } := fun o7 o11 => by
    refine sds_cons (sd_ret (ed_and (ed_cmp (ed_callB T.T.repr (ad_cons (nm 3 (ad_nil (cd_reprO Y.BR (hr.mono (j := 6) (by decide)) hG ⟨z, m, n, 22, srt es, rfl, hz, hm, hn, by decide, gs, _, rfl, nm 5 (od_eqs (kB ?_))⟩))))))))
    rw [decide_eq_true rfl]
    show ED _ _ _ _ _
    refine ed_one (ed_cmp (ed_meth T.nu.cl Y.am (hr.mono (j := 4) (by decide)) hG (nm 3 ⟨bf C z n (srt es), rfl, lkN (by decide +kernel) (by decide +kernel) (by decide +kernel), ad_cons (nm 4 (ad_nil ⟨z, n, srt es, _, k, rfl, .inl rfl, by rw [kl, hm], hz.l8, nn, ?_⟩))⟩)))
    rw [amt_srt ge]
    have ab := amt_bq ge k (by decide)
    refine ed_makeA V.L.V.mk2 (hr.mono (j := 3) (by decide)) hG (ad_cons (i0 (p := fr (amt es k)) (ed_get2 (un1 hr) (nm 2 ⟨_, rfl, ed_callTy T.T.tuple (ad_cons (nm 4 (ad_nil (cd_tuple (ed_tup (ad_cons (ed_int (ad_cons (ed_int (ad_nil ⟨[.int 0, .int 1], rfl, by simp, ik k, (tD_ik _).symm, amt_lookP k, ?_⟩))))))))))⟩))))
    refine ad_cons (i1 (p := fr (amt es k)) (ed_get2 (un1 hr) (nm 2 ⟨_, rfl, ed_callTy T.T.tuple (ad_cons (nm 4 (ad_nil (cd_tuple (ed_tup (ad_cons (ed_int (ad_cons (ed_int (ad_nil ⟨[.int 0, .int 1], rfl, by simp, ik k, (tD_ik _).symm, amt_lookP k, ?_⟩))))))))))⟩)))
    refine ad_nil (mk_ok (n := 22) (fr_ne _) ab.t ab.b (by decide) ?_)
    rw [low_self]
    refine od_eqO V.L.V.T.nu V.L.eq (hr.mono (j := 1) (by decide)) hG ⟨_, _, rfl, .inl ⟨_, rfl, ?_⟩⟩
    rw [decide_eq_true rfl, decide_eq_true rfl]
    exact q
  refine sds_cons (sd_if (td_cmp (ed_callTy T.T.tuple (ad_cons (nm 4 (ad_nil (cd_tuple (nm 2 ?_))))))))
  show OD _ _ (tI k) _ _
  rw [← tD_ik]
  refine od_din (un1 hr) (kB ?_)
  by_cases c : k ∈ es.map (·.1)
  · obtain ⟨e, me, ek⟩ := List.mem_map.mp c
    have me2 : (k, e.2) ∈ es := by rw [← ek]; exact me
    have me3 : (k, e.2) ∈ srt es := (srt_perm es).mem_iff.mpr me2
    have me4 : (k, r) ∈ srt (put es k r) := (srt_perm _).mem_iff.mpr (List.mem_append.mpr (.inr (List.mem_singleton.mpr rfl)))
    rw [show look (kvP es) (ik k) = some (prq e.2) by rw [← ek]; exact look_kvP ge.nd me]
    show SDs _ _ _ _ _ _
    have asr : amt (srt es) k = e.2 := amt_in gs.nd me3
    subst hBP
    refine sds_cons (sd_set 11 nd rfl (ed_call Y.wam (hr.mono (j := 10) (by decide)) hG (ad_cons (ed_ix (nm 10 (ed_int ⟨_, 0, _, .inl rfl, rfl, lj 0 (by decide), ad_cons (nm 4 (ad_cons (ed_meth T.nu.cl Y.am (hr.mono (j := 4) (by decide)) hG (nm 3 ⟨bf C z n (srt es), rfl, lkN (by decide +kernel) (by decide +kernel) (by decide +kernel), ad_cons (nm 4 (ad_nil ⟨z, n, srt es, _, k, rfl, .inl rfl, by rw [kl, hm], hz.l8, nn, ?_⟩))⟩))))⟩))))))
    rw [asr]
    refine ad_nil ⟨z, m, n, n, 22, srt (put es k r), _, k, _, e.2, rfl, .inr rfl, hz, hm, hn, by decide, g1, l1, .inl rfl, kl, nn, sm, .rat e.2 (ge.bq e me), ge.pos e me, ?_⟩
    rw [srt_back ge hn me2]
    refine sds_cons (sd_if (td_of (tw_or (td_cmp (nm 11 (nm 3 (od_neB V gs.nd (hr.mono (j := 5) (by decide)) hG (kB ?_))))))))
    show TW _ _ _ _ _
    refine tw_or1 (td_cmp (ed_call Y.wo (hr.mono (j := 9) (by decide)) hG (ad_cons (ed_ix (nm 10 (ed_int ⟨_, 0, _, .inl rfl, rfl, lj 0 (by decide), ad_cons (nm 4 (ad_nil ⟨z, m, n, 22, srt (put es k r), _, k, r, rfl, hz, hm, hn, by decide, g1, .inl rfl, me4, ?_⟩))⟩))))))
    rw [srt_out ge hn]
    refine ed_call Y.wo (hr.mono (j := 9) (by decide)) hG (ad_cons (nm 3 (ad_cons (nm 4 (ad_nil ⟨z, m, n, 22, srt es, _, k, e.2, rfl, hz, hm, hn, by decide, gs, .inl rfl, me3, ?_⟩)))))
    rw [srt_oth ge hn]
    refine od_neB V (srt_ge (ge_oth ge k)).nd (hr.mono (j := 5) (by decide)) hG (kB ?_)
    show SDs _ _ _ _ _ _
    exact sds_nil (sds_nil (fin _ _))
  · have me4 : (k, r) ∈ srt (put es k r) := (srt_perm _).mem_iff.mpr (List.mem_append.mpr (.inr (List.mem_singleton.mpr rfl)))
    rw [look_noP c]
    show SDs _ _ _ _ _ _
    subst hBP
    refine sds_cons (sd_if (td_cmp (ed_call Y.wo (hr.mono (j := 9) (by decide)) hG (ad_cons (ed_ix (nm 10 (ed_int ⟨_, 1, _, .inl rfl, rfl, lj 1 (by decide), ad_cons (nm 4 (ad_nil ⟨z, m, n, 22, srt (put es k r), _, k, r, rfl, hz, hm, hn, by decide, g1, .inl rfl, me4, ?_⟩))⟩)))))))
    rw [srt_out ge hn, oth_none c]
    refine nm 3 (od_neB V gs.nd (hr.mono (j := 5) (by decide)) hG (kB ?_))
    show SDs _ _ _ _ _ _
    exact sds_nil (sds_nil (fin _ _))
end
end K46

set_option Elab.async false
set_option linter.all false
set_option maxRecDepth 100000
set_option maxHeartbeats 2000000
/-! dicts of unlike lengths; {} as data -/
namespace DL
open PySem PySem.Spec PyProof.Rows L2 PySem.W
section
variable {X : Cx} {B : Hp} {S : En} {Q : D → Prop} {kvs kvs' : List (List Key × D)}
theorem ft_new {dp : Pos} {Q : List (List Key × D) → Prop} (q : Q []) : FT X B S (.Dict [] [] dp) Q := fun σ W H r R k => PE.w pe_dnewT fun p hp => k [] p [] W _ (Stp.own hp) (r.ok.own hp) hp (r.ok.notP hp) (r.ok.free hp) upd_same .nil q
theorem od_eqTn (hu : X.A.units < cLine) (hl : kvs.length ≠ kvs'.length) (q : Q (.bl false)) : OD X (compareOp .Eq) (.dcT kvs) (.dcT kvs') Q := fun v u W H ok h1 h2 R c pins t τ v' u' J r1 r2 => by
  show wpAny _ _ (richCompare .Eq _ _) _ _ _
  cases h1 with
  | @dcT _ a oa ws ha d1 => cases h2 with
    | @dcT _ b ob us hb d2 =>
      cases r1
      cases r2
      obtain ⟨ga, z1, n1, rows, pr, o1, es, ep, g1, x1, da, he, nd⟩ := (show ObjOk X.prog X.w H t.heap a (.frz oa (.dT ws)) from J.hok a _ (ok.ex _ _ ha))
      rw [ga] at g1
      cases g1
      obtain ⟨gb, z2, n2, rows2, pr2, o2, es', ep', g2, x2, db, he2, nd2⟩ := (show ObjOk X.prog X.w H t.heap b (.frz ob (.dT us)) from J.hok b _ (ok.ex _ _ hb))
      rw [gb] at g2
      cases g2
      have l1 : es.size = rows.length := size_of_entries he
      have l2 : es'.size = rows2.length := size_of_entries he2
      have l3 : ws.length = rows.length := Paired.length pr
      have l4 : us.length = rows2.length := Paired.length pr2
      have l5 := d1.length
      have l6 := d2.length
      have ta : t.TypeIs (.ref a) "dict" := ⟨oa, ga, x1.1⟩
      have tb : t.TypeIs (.ref b) "dict" := ⟨ob, gb, x2.1⟩
      have hsz : ¬ es.size = es'.size := by omega
      refine wpAny_richCompare_same_room (op := .Eq) ta tb PySem.F.slot_dict_eq (wpAny_call_entry PySem.F.slot_dict_eq ta PySem.F.entry_dict_eq ?_ (PySem.F.args_dict_eq_2 _ _)) hu
      show wpAny _ _ (Builtin.Dict.dictSlotArgs "__eq__" ⟨[.ref a, .ref b], []⟩ >>= _) _ _ t
      refine wpAny_bind ?_
      unfold Builtin.Dict.dictSlotArgs
      refine wpAny_bind (wpAny_notOrdered_dict ta ?_)
      show wpAny _ _ (pure (Value.ref a, Value.ref b)) _ _ t
      refine wpAny_pure ?_
      refine wpAny_bind (wpAny_isInstance (T := "dict") tb PySem.F.sub_dict_dict ?_)
      simp only [Bool.not_true, Bool.false_eq_true, if_false]
      refine wpAny_bind (wpAny_pure (wpAny_bind (wpAny_pure ?_)))
      refine wpAny_bind ?_
      unfold Builtin.Dict.samePairs Builtin.Dict.showsAll
      rw [if_neg (show ¬ (a == sysModules) = true by rw [n1]; exact Bool.false_ne_true), if_neg (show ¬ (b == sysModules) = true by rw [n2]; exact Bool.false_ne_true)]
      refine wpAny_bind (wpAny_pure (wpAny_bind (wpAny_pure ?_)))
      refine wpAny_bind (wpAny_dictEntries ga da ?_)
      dsimp only
      refine wpAny_bind (wpAny_dictEntries gb db ?_)
      rw [if_pos (by simpa using hsz)]
      refine wpAny_bind (wpAny_rule (wpAny_pure ?_))
      refine wpAny_pure ⟨_, rfl, ?_, ?_⟩
      · exact fun x => nomatch x
      · exact ⟨.bl false, H, J, rfl, c.now ok (.bl false) q⟩
theorem od_eqT0 (hr : Room 1 X.A) (hG : X.A.guards = some (gOf X)) (q : Q (.bl kvs.isEmpty)) : OD X (compareOp .Eq) (.dcT kvs) (.dcT []) Q := by
  cases kvs with
  | nil => exact od_eqR (n := 1) (rcR_dct (n := 0) rfl (fun k d h => by cases h)) hr hG q
  | cons kv kvs => exact od_eqTn hr.units0 (by simp) q
end
end DL

set_option Elab.async false
set_option linter.all false
set_option maxRecDepth 100000
set_option maxHeartbeats 2000000
/-! a comprehension over a dict's keys with a test -/
namespace DL
open PySem PySem.Spec PyProof.Rows L2
section
variable {X : Cx} {B : Hp} {S : En} {pos : Pos} {kvs : List (List Key × D)}
theorem fd_lcKI {elt tg iter c : Expr} {scope : Scope} {own : List (Str × Nat)} {g : TG} {Q : List D → Prop} (J : Nat → List D → Prop) (S' : D → En) (hc : X.calm = true) (hN : X.N.Nodup) (ok : BlkOk X.N X.env.scope scope own)
    (hg : ∀ (s : Shared) (H : Hp) (C : Addr) (cl : List (Str × Addr)) (fp : List Addr), PG (X.blk s H scope (compEnvC scope cl C X.env) fp) tg g)
    (h : ED X B S iter fun d => d = .dcT kvs ∧ kvs.length ≤ 50000 ∧ J 0 []) (hp : ∀ d, Pat X.K g (own.map (·.2)) S d (S' d))
    (he : ∀ (i : Nat) k d acc, kvs[i]? = some (k, d) → acc.length ≤ i → J i acc → ∀ (s : Shared) (H0 : Hp) (C : Addr) (cl : List (Str × Addr)) (fp : List Addr), TD (X.blk s H0 scope (compEnvC scope cl C X.env) fp) B (S' (tD k)) c fun b =>
      if b = true then ∀ (s : Shared) (H0 : Hp) (C : Addr) (cl : List (Str × Addr)) (fp : List Addr), ED (X.blk s H0 scope (compEnvC scope cl C X.env) fp) B (S' (tD k)) elt fun y => J (i + 1) (acc ++ [y]) else J (i + 1) acc)
    (hd : ∀ acc, acc.length ≤ kvs.length → J kvs.length acc → Q acc) (hs : ∀ x, foldedSetIterable iter X.env x = pure x := by intro _; rfl) : FD X B S (.ListComp elt [⟨tg, iter, [c], 0⟩] scope pos) Q := fun σ W H r R k => by
  refine PE.w (pe_lc (te := WEb X scope elt) (tt := WTb X scope c) hc hN (pi_keys we_pe) ok hg (fun s H C cl fp => pts_one (wtb_pt s H C cl fp)) web_pe hs) ?_
  refine h σ W H r _ fun d v W1 H1 s1 ok1 n1 q1 => ?_
  obtain ⟨rfl, hz, j0⟩ := q1
  cases n1 with
  | @dcT _ a o ws ha m =>
    have hlw := m.length
    refine ⟨a, o, rfl, .inr ⟨ws, ok1.ex _ _ ha, fun p hp0 => ?_⟩⟩
    have r1 := r.step s1 ok1
    refine lc_it walk_keysT (fun i H' => ∃ acc W', Mid X.K (gOf X) W1 H1 p acc W' H' ∧ acc.length ≤ i ∧ J i acc) ⟨[], W1, ⟨Stp.own hp0, ok1.own hp0, ok1.notP hp0, ok1.free hp0, [], upd_same, .nil⟩, Nat.le_refl _, j0⟩
      (fun i H' _ ⟨acc, W', mm, _⟩ => mm.ok.ex _ _ (mm.st.I _ _ ha)) ?_ ?_
    · rintro i y H' H2 hi ⟨acc, W', mm, hl, j⟩ ⟨rfl, k1, v1, q, hw, rfl, hq⟩
      obtain ⟨d, hd', nd⟩ := m.get hw
      obtain ⟨W2, s2, ok2, hI⟩ := ext1 mm.ok hq
      have mm2 := mm.step s2 ok2
      have r2 := r1.step mm2.st mm2.ok
      refine hp (tD k1) (gOf X) B σ W2 H2 _ r2 (.tup hI (keys_dns k1)) _ fun σ2 e2 r3 => ⟨e2, ?_⟩
      show WTb X scope c σ2 H2 _
      intro s H0 C cl fp
      have lt : i < kvs.length := (List.getElem?_eq_some_iff.mp hd').1
      refine he i k1 d acc hd' hl j s H0 C cl fp σ2 W2 H2 r3 _ fun b W3 H3 s3 ok3 q3 => ?_
      cases b with
      | false => exact iteF ⟨acc, W3, mm2.step s3 ok3, Nat.le_succ_of_le hl, by simpa using q3⟩
      | true =>
        refine iteT ?_
        show WEb X scope elt σ2 H3 _
        intro s H0 C cl fp
        refine (show ∀ (s : Shared) (H0 : Hp) (C : Addr) (cl : List (Str × Addr)) (fp : List Addr), ED (X.blk s H0 scope (compEnvC scope cl C X.env) fp) B (S' (tD k1)) elt fun y => J (i + 1) (acc ++ [y]) by simpa using q3) s H0 C cl fp σ2 W3 H3 (r3.step s3 ok3) _ fun y v W4 H4 s4 ok4 n4 q4 => ?_
        obtain ⟨xs', e1, e3, m3⟩ := ((mm2.step s3 ok3).step s4 ok4).more hp0 n4 (by omega)
        exact ⟨xs', e1, e3, _, W4, m3, by simp only [List.length_append, List.length_singleton]; omega, q4⟩
    · rintro H' ⟨acc, W', mm, hl, j⟩
      obtain ⟨ys, hH, ds⟩ := mm.h
      rw [← hlw] at hl j
      exact k acc p ys W' H' (s1.trans ok1 mm.st) mm.ok (s1.free ok1 hp0) mm.n mm.i hH ds (hd acc hl j)
end
end DL

set_option Elab.async false
set_option linter.all false
set_option maxRecDepth 100000
set_option maxHeartbeats 8000000
/-! k46: left out right -/
namespace K46
open PySem L2 DL
section
variable {P : Program} {w : World} {K : PySem.W.Frag} {mg : Str → Option Value} {base : Heap} {C CB : Addr}
theorem od_neb {X : Cx} {Q : D → Prop} {i j : Bool} (q : Q (.bl (!decide (i = j)))) : OD X (compareOp .NotEq) (.bl i) (.bl j) Q := by
  refine od_of op_ne fun v u W H ok h1 h2 R c => ?_
  cases h1; cases h2
  refine ⟨rfl, c.now ok (.bl _) ?_⟩
  have e : decide (V.bl i = V.bl j) = decide (i = j) := by by_cases z : i = j <;> simp [z]
  rw [e]
  exact q
theorem kvP_app {a b : List Ent} : kvP (a ++ b) = kvP a ++ kvP b := by unfold kvP; rw [List.map_append]
theorem emp_len {α β : Type} {a : List α} {b : List β} (h : a.length = b.length) : a.isEmpty = b.isEmpty := by
  cases a <;> cases b <;> first | rfl | cases h
abbrev spWR (C CB : Addr) : SpD := fun as Q => ∃ z, ∃ m n : Nat, ∃ es, as = [.pot, .val (.str (SX.S z)), .val (.dcT (kvP es)), .val (Bo C CB z n (srt es))] ∧ LetZ z ∧ z.length = m ∧ n ≤ 8 ∧ GE m n 22 es ∧ Q (.bl true)
abbrev NWr : List Str := ["_law_pot_here", "_law_letters", "_law_own", "_law_made_here", "_law_shown_here", "_law_counts_here", "_law_later", "_law_told", "_law_one"]
theorem sc_wr : FnScope NWr ["_law_pot_here", "_law_letters", "_law_own", "_law_made_here"] (defScope (top 61)) := ⟨rfl, rfl, rfl, by decide +kernel, rfl, by decide +kernel, by decide +kernel⟩
theorem ok_wr {f : Addr} {fd : FuncData} (F : FunS K "_law_without_right" "_law_without_right" (top 61) f fd) (Y : Lw P w K mg base C CB) : GnOk P w K mg base 10 f fd ["_law_pot_here", "_law_letters", "_law_own", "_law_made_here"] (lift K (spWR C CB)) := by
  refine gn_dl F sc_wr (fun as Q h => by obtain ⟨_, _, _, _, rfl, _⟩ := h; rfl) (fun cdv A outer s H hr hG W as Q h => ?_)
  obtain ⟨z, m, n, es, rfl, hz, hm, hn, ge, q⟩ := h
  have nd := sc_wr.nd
  have V := Y.V
  have T := V.T
  have m8 : m ≤ 8 := by rw [← hm]; exact hz.l8
  have m1 : 1 ≤ m := by rw [← hm]; exact hz.l1
  have gs := srt_ge ge
  have ln := ge.ln
  refine sds_cons (sd_set 4 nd rfl (ed_callB T.T.repr (ad_cons (nm 3 (ad_nil (cd_reprO Y.BR (hr.mono (j := 6) (by decide)) hG ⟨z, m, n, 22, srt es, rfl, hz, hm, hn, by decide, gs, _, rfl, ?_⟩))))))
  refine sds_cons (sd_forL (l := (srt es).map fun e : Ent => tI e.1) PassesOwn.never rfl (fun i S' => ∃ o5 o6 o7, S' = [some .pot, some (.val (.str (SX.S z))), some (.val (.dcT (kvP es))), some (.val (Bo C CB z n (srt es))), some (.val (.str (blT z (srt es)))), o5, o6, o7, none]) (ed_callB T.sorted (ad_cons (nm 2 (ad_nil (cd_skeys rfl m1 ge hn ⟨rfl, none, none, none, rfl⟩))))) ?_ ?_)
  · rintro i e S' hi ⟨o5, o6, o7, rfl⟩
    rw [List.getElem?_map] at hi
    obtain ⟨x, hx, rfl⟩ := Option.map_eq_some_iff.mp hi
    have mxs := List.mem_of_getElem? hx
    have mx := (srt_perm es).mem_iff.mp mxs
    have go := ge_oth ge x.1
    refine gd_name 5 nd rfl (sds_cons (sd_ownT 6 nd rfl (ft_dict rfl (un2 hr) T.dict (ed_fd (fd_lcKI (kvs := kvP es) (fun i acc => acc = (kvP (oth (es.take i) x.1)).map DL.prD) (fun d => itE _ [("_law_one", 8)] 8 d) rfl nd (own := [("_law_one", 8)]) (blkOk_by (by show blkC NWr (defScope (top 61)) _ _ = true; decide +kernel)) (fun _ _ _ _ _ => pg_name (i := 8) nd rfl (Or.inl rfl)) (nm 2 ⟨rfl, by rw [kvP_len]; omega, rfl⟩) (fun d => pat_name 8 (by simp)) ?_ ?_)))))
    · rintro i kk d acc hi _ rfl s2 H0 C2 cl fp
      have hi' := hi
      unfold kvP at hi'
      rw [List.getElem?_map] at hi'
      cases he : es[i]? with
      | none => rw [he] at hi'; cases hi'
      | some e =>
        rw [he] at hi'
        cases hi'
        have me := List.mem_of_getElem? he
        rw [tD_ik]
        have tk : es.take (i + 1) = es.take i ++ [e] := by rw [List.take_add_one, he]; rfl
        refine td_cmp (nm 8 (nm 5 (od_ned (ff hr) (pyd_tI e.1) (pyd_tI x.1) (shaped_pI _) (shaped_pI _) (kB ?_))))
        rw [eqv_pI, tk]
        by_cases y : e.1 = x.1
        · rw [decide_eq_true y]
          refine iteF ?_
          unfold oth
          rw [List.filter_append, List.filter_cons_of_neg (by rw [decide_eq_true y]; decide)]
          simp
        · rw [decide_eq_false y]
          refine iteT fun s3 H3 C3 cl3 fp3 => ?_
          refine ed_tup (ad_cons (nm 8 (ad_cons (ed_dget (un1 hr) (nm 2 (nm 8 ⟨_, ik e.1, _, rfl, (tD_ik _).symm, look_kvP ge.nd me, ad_nil ⟨[tI e.1, prq e.2], rfl, by simp, ?_⟩⟩))))))
          unfold oth
          rw [List.filter_append, List.filter_cons_of_pos (by rw [decide_eq_false y]; rfl), List.filter_nil, kvP_app, List.map_append]
          show _ = _ ++ [D.tup [tD (ik e.1), prq e.2]]
          rw [tD_ik]
    rintro acc hacc rfl
    rw [kvP_len, List.take_length]
    refine ⟨kvP (oth es x.1), rfl, ?_⟩
    rw [putAll_kvP go.nd]
    refine sds_frzT 6 _ rfl ?_
    refine sds_st (S' := [some .pot, some (.val (.str (SX.S z))), some (.val (.dcT (kvP es))), some (.val (Bo C CB z n (srt es))), some (.val (.str (blT z (srt es)))), some (.val (tI x.1)), some (.val (.dcT (kvP (oth es x.1)))), o7, none]) rfl ?_
    have g1 := srt_ge go
    refine sds_cons (sd_forL (l := [Bo C CB z n (srt (oth es x.1)), Bo C CB z n (srt (oth es x.1))]) PassesOwn.never rfl (fun i S' => ∃ o7, S' = [some .pot, some (.val (.str (SX.S z))), some (.val (.dcT (kvP es))), some (.val (Bo C CB z n (srt es))), some (.val (.str (blT z (srt es)))), some (.val (tI x.1)), some (.val (.dcT (kvP (oth es x.1)))), o7, none]) (ed_lst (ad_cons (ed_call Y.wo (hr.mono (j := 9) (by decide)) hG (ad_cons (nm 3 (ad_cons (nm 5 (ad_nil ⟨z, m, n, 22, srt es, _, x.1, x.2, rfl, hz, hm, hn, by decide, gs, .inr rfl, mxs, ?_⟩)))))))) ?_ ?_)
    · rw [srt_oth ge hn]
      refine ad_cons (ed_call Y.wo (hr.mono (j := 9) (by decide)) hG (ad_cons (nm 3 (ad_cons (ed_fd (fd_list T.T.list (nm 5 ⟨x.1.map D.int, .inr rfl, ad_nil ⟨z, m, n, 22, srt es, _, x.1, x.2, rfl, hz, hm, hn, by decide, gs, .inl rfl, mxs, ?_⟩⟩)))))))
      rw [srt_oth ge hn]
      exact ad_nil ⟨[_, _], rfl, by simp, rfl, o7, rfl⟩
    · rintro j e S' hj ⟨o7, rfl⟩
      have : e = Bo C CB z n (srt (oth es x.1)) := by
        have := List.mem_of_getElem? hj
        simpa using this
      subst this
      refine gd_name 7 nd rfl (sds_cons (sd_if (td_of (tw_or (td_cmp (ed_callB T.T.repr (ad_cons (mE V g1 (hr.mono (j := 1) (by decide)) hG (nm 7 ⟨rfl, ad_nil (cd_reprE Y.R (hr.mono (j := 4) (by decide)) hG g1 hn m8 (by decide) (ed_call Y.shown (hr.mono (j := 5) (by decide)) hG (ad_cons (nm 6 (ad_nil ⟨m, n, 22, oth es x.1, rfl, m1, m8, hn, by decide, go, od_nes (kB ?_)⟩)))))⟩)))))))))
      rw [decide_eq_true rfl]
      show TW _ _ _ _ _
      refine tw_or (td_cmp (pL V (hr.mono (j := 2) (by decide)) hG (nm 7 ⟨rfl, nm 1 (od_nes (kB ?_))⟩)))
      rw [decide_eq_true rfl]
      show TW _ _ _ _ _
      refine tw_or1 (td_cmp (pN V (hr.mono (j := 2) (by decide)) hG (nm 7 ⟨rfl, ed_cmp (nm 6 (ed_ft (ft_new (od_eqT0 (hr.mono (j := 1) (by decide)) hG ?_))))⟩)))
      have e1 : (srt (oth es x.1)).isEmpty = (kvP (oth es x.1)).isEmpty := emp_len (by rw [kvP_len, (srt_perm _).length_eq])
      rw [e1]
      refine od_neb (kB ?_)
      rw [decide_eq_true rfl]
      show SDs _ _ _ _ _ _
      exact sds_nil (sds_nil ⟨_, rfl⟩)
    · rintro S' ⟨o7, rfl⟩
      exact sds_nil ⟨_, _, _, rfl⟩
  · rintro S' ⟨o5, o6, o7, rfl⟩
    refine sds_cons (sd_ret (ed_cmp (ed_callB T.T.repr (ad_cons (nm 3 (ad_nil (cd_reprO Y.BR (hr.mono (j := 6) (by decide)) hG ⟨z, m, n, 22, srt es, rfl, hz, hm, hn, by decide, gs, _, rfl, nm 4 (od_eqs ?_)⟩)))))))
    rw [decide_eq_true rfl]
    exact q
end
end K46

set_option Elab.async false
set_option linter.all false
set_option maxRecDepth 100000
set_option maxHeartbeats 2000000
/-! a dict != {} -/
namespace DL
open PySem PySem.Spec PyProof.Rows L2 PySem.W
section
variable {X : Cx} {Q : D → Prop} {kvs kvs' : List (List Key × D)}
theorem od_neTn (hu : X.A.units < cLine) (hl : kvs.length ≠ kvs'.length ∨ (kvs = [] ∧ kvs' = [])) (q : Q (.bl (decide (kvs.length ≠ kvs'.length)))) : OD X (compareOp .NotEq) (.dcT kvs) (.dcT kvs') Q := fun v u W H ok h1 h2 R c pins t τ v' u' J r1 r2 => by
  show wpAny _ _ (richCompare .NotEq _ _) _ _ _
  cases h1 with
  | @dcT _ a oa ws ha d1 => cases h2 with
    | @dcT _ b ob us hb d2 =>
      cases r1
      cases r2
      obtain ⟨ga, z1, n1, rows, pr, o1, es, ep, g1, x1, da, he, nd⟩ := (show ObjOk X.prog X.w H t.heap a (.frz oa (.dT ws)) from J.hok a _ (ok.ex _ _ ha))
      rw [ga] at g1
      cases g1
      obtain ⟨gb, z2, n2, rows2, pr2, o2, es', ep', g2, x2, db, he2, nd2⟩ := (show ObjOk X.prog X.w H t.heap b (.frz ob (.dT us)) from J.hok b _ (ok.ex _ _ hb))
      rw [gb] at g2
      cases g2
      have l1 : es.size = rows.length := size_of_entries he
      have l2 : es'.size = rows2.length := size_of_entries he2
      have l3 : ws.length = rows.length := Paired.length pr
      have l4 : us.length = rows2.length := Paired.length pr2
      have l5 := d1.length
      have l6 := d2.length
      have ta : t.TypeIs (.ref a) "dict" := ⟨oa, ga, x1.1⟩
      have tb : t.TypeIs (.ref b) "dict" := ⟨ob, gb, x2.1⟩
      refine wpAny_richCompare_same_room (op := .NotEq) ta tb PySem.F.slot_dict_ne (wpAny_call_entry PySem.F.slot_dict_ne ta PySem.F.entry_dict_ne ?_ (PySem.F.args_dict_ne_2 _ _)) hu
      show wpAny _ _ (Builtin.Dict.dictSlotArgs "__ne__" ⟨[.ref a, .ref b], []⟩ >>= _) _ _ t
      refine wpAny_bind ?_
      unfold Builtin.Dict.dictSlotArgs
      refine wpAny_bind (wpAny_notOrdered_dict ta ?_)
      show wpAny _ _ (pure (Value.ref a, Value.ref b)) _ _ t
      refine wpAny_pure ?_
      refine wpAny_bind (wpAny_isInstance (T := "dict") tb PySem.F.sub_dict_dict ?_)
      simp only [Bool.not_true, Bool.false_eq_true, if_false]
      refine wpAny_bind (wpAny_pure (wpAny_bind (wpAny_pure ?_)))
      refine wpAny_bind ?_
      unfold Builtin.Dict.samePairs Builtin.Dict.showsAll
      rw [if_neg (show ¬ (a == sysModules) = true by rw [n1]; exact Bool.false_ne_true), if_neg (show ¬ (b == sysModules) = true by rw [n2]; exact Bool.false_ne_true)]
      refine wpAny_bind (wpAny_pure (wpAny_bind (wpAny_pure ?_)))
      refine wpAny_bind (wpAny_dictEntries ga da ?_)
      dsimp only
      refine wpAny_bind (wpAny_dictEntries gb db ?_)
      rcases hl with hl | ⟨rfl, rfl⟩
      · have hsz : ¬ es.size = es'.size := by omega
        rw [if_pos (by simpa using hsz)]
        refine wpAny_bind (wpAny_rule (wpAny_pure ?_))
        rw [decide_eq_true hl] at q
        refine wpAny_pure ⟨_, rfl, ?_, ?_⟩
        · exact fun x => nomatch x
        · exact ⟨.bl true, H, J, rfl, c.now ok (.bl true) q⟩
      · have z1 : es.size = 0 := by have : ([] : List (List Key × D)).length = 0 := rfl; omega
        have z2 : es'.size = 0 := by have : ([] : List (List Key × D)).length = 0 := rfl; omega
        rw [if_neg (by rw [z1, z2]; simp)]
        refine wpAny_bind (wpAny_dictEpoch ga da ?_)
        refine wpAny_bind ?_
        rw [Std.Legacy.Range.forIn_eq_forIn_range']
        simp only [Std.Legacy.Range.size, Nat.sub_zero, Nat.add_sub_cancel, Nat.div_one]
        rw [z1]
        simp only [List.range'_zero, List.forIn_nil]
        refine wpAny_pure ?_
        refine wpAny_pure ?_
        refine wpAny_pure ⟨_, rfl, ?_, ?_⟩
        · exact fun x => nomatch x
        · exact ⟨.bl false, H, J, rfl, c.now ok (.bl false) q⟩
theorem od_neT0 (hu : X.A.units < cLine) (q : Q (.bl (!kvs.isEmpty))) : OD X (compareOp .NotEq) (.dcT kvs) (.dcT []) Q := by
  cases kvs with
  | nil => exact od_neTn hu (.inr ⟨rfl, rfl⟩) q
  | cons kv kvs => exact od_neTn hu (.inl (by simp)) q
end
end DL

set_option Elab.async false
set_option linter.all false
set_option maxRecDepth 100000
set_option maxHeartbeats 8000000
/-! k46: one blend right -/
namespace K46
open PySem L2 DL
section
variable {P : Program} {w : World} {K : PySem.W.Frag} {mg : Str → Option Value} {base : Heap} {C CB : Addr}
abbrev spOR : SpD := fun as Q => ∃ z, ∃ m n : Nat, ∃ es, as = [.pot, .val (.str (SX.S z)), .val (.dcT (kvP es))] ∧ LetZ z ∧ z.length = m ∧ n ≤ 8 ∧ GE m n 22 es ∧ es.length ≤ 50 ∧ Q (.bl true)
abbrev NOr : List Str := ["_law_pot_here", "_law_letters", "_law_own", "_law_size", "_law_made_here", "_law_degree", "_law_turn", "_law_counts_here"]
theorem sc_or : FnScope NOr ["_law_pot_here", "_law_letters", "_law_own"] (defScope (top 62)) := ⟨rfl, rfl, rfl, by decide +kernel, rfl, by decide +kernel, by decide +kernel⟩
theorem ok_or {f : Addr} {fd : FuncData} (F : FunS K "_law_one_right" "_law_one_right" (top 62) f fd) (Y : Lw P w K mg base C CB) (MA : Df P w K mg base "_law_made" 9 2 (spMade C CB)) (CN : Df P w K mg base "_law_counts" 2 3 spCnt) (MR : Df P w K mg base "_law_moved_right" 11 5 (spMR C CB)) (WR : Df P w K mg base "_law_without_right" 10 4 (spWR C CB)) : GnOk P w K mg base 12 f fd ["_law_pot_here", "_law_letters", "_law_own"] (lift K spOR) := by
  refine gn_dl F sc_or (fun as Q h => by obtain ⟨_, _, _, _, rfl, _⟩ := h; rfl) (fun cdv A outer s H hr hG W as Q h => ?_)
  obtain ⟨z, m, n, es, rfl, hz, hm, hn, ge, l50, q⟩ := h
  have nd := sc_or.nd
  have V := Y.V
  have T := V.T
  have m8 : m ≤ 8 := by rw [← hm]; exact hz.l8
  have m1 : 1 ≤ m := by rw [← hm]; exact hz.l1
  have hl : ((SX.S z).length : Int) = (m : Int) := by rw [SX.S_len, hm]
  refine sds_cons (sd_par 3 4 rfl nd rfl rfl (by decide) rfl rfl (ad_cons (ed_callB T.T.len (ad_cons (nm 1 (ad_nil (cd_lenS (z := SX.S z) (by rw [SX.S_len]; omega) (ad_cons (ed_call MA (hr.mono (j := 9) (by decide)) hG (ad_cons (nm 1 (ad_cons (nm 2 (ad_nil ⟨z, m, n, 22, es, rfl, hz, hm, hn, by decide, ge, ad_nil ⟨_, _, rfl, ?_⟩⟩))))))))))))))
  rw [hl]
  refine sds_cons (sd_mid (fun S' => ∃ d : Nat, d ≤ 8 ∧ (es ≠ [] → d = n) ∧ S' = [some .pot, some (.val (.str (SX.S z))), some (.val (.dcT (kvP es))), some (.val (.int (m : Int))), some (.val (Bo C CB z n (srt es))), some (.val (.int (d : Int))), none, none]) ?_ (sd_set 5 nd rfl (ed_ifx (td_cmp (nm 2 (ed_ft (ft_new (od_neT0 hr.units0 (kB ?_)))))))))
  rotate_left
  · cases es with
    | nil =>
      show ED _ _ _ _ _
      exact ed_call Y.draw (hr.mono (j := 1) (by decide)) hG (ad_pot 0 rfl rfl (ad_cons (ed_int (ad_nil ⟨9, rfl, by decide, by decide, fun d hd => ⟨d, by omega, fun h => absurd rfl h, rfl⟩⟩))))
    | cons e0 es =>
      show ED _ _ _ _ _
      cases he : srt (e0 :: es) with
      | nil =>
        have := (srt_perm (e0 :: es)).length_eq
        rw [he] at this
        cases this
      | cons e1 r1 =>
        have me : e1 ∈ e0 :: es := (srt_perm _).mem_iff.mp (by rw [he]; exact List.mem_cons_self ..)
        refine ed_callB T.sum (ad_cons (ed_ix (ed_callB T.sorted (ad_cons (nm 2 (ad_nil (cd_skeys rfl m1 ge hn (ed_int ⟨_, 0, tI e1.1, .inl rfl, rfl, ?_, ad_nil (cd_sumS rfl (.inr rfl) ?_)⟩))))))))
        · rw [he]
          exact atI_nat (j := 0) rfl
        · exact ⟨n, hn, fun _ => rfl, by rw [ge.sum e1 me]; rfl⟩
  rintro S' ⟨d, d8, dn, rfl⟩
  have ged : GE m d 22 es ∧ Bo C CB z n (srt es) = Bo C CB z d (srt es) := by
    cases es with
    | nil => exact ⟨GE.nil, by rw [srt_nil]; rfl⟩
    | cons e0 es => rw [dn (by simp)]; exact ⟨ge, rfl⟩
  obtain ⟨gd, eB⟩ := ged
  rw [eB]
  have gs := srt_ge gd
  refine sds_cons (sd_forR (n := 3) PassesOwn.never rfl T.T.range (fun i S' => ∃ o6 o7, S' = [some .pot, some (.val (.str (SX.S z))), some (.val (.dcT (kvP es))), some (.val (.int (m : Int))), some (.val (Bo C CB z d (srt es))), some (.val (.int (d : Int))), o6, o7]) (ad_cons (ed_int (ad_nil ⟨rfl, by decide, by decide, none, none, rfl⟩))) ?_ ?_)
  · rintro i S' hi ⟨o6, o7, rfl⟩
    refine gd_name 6 nd rfl (sds_cons (sd_set 7 nd rfl (ed_call CN (hr.mono (j := 2) (by decide)) hG (ad_pot 0 rfl rfl (ad_cons (nm 3 (ad_cons (nm 5 (ad_nil ⟨m, d, rfl, m1, m8, d8, fun k lk nn sk => ?_⟩)))))))))
    refine sds_cons (sd_if (td_not (td_val (ed_call MR hr hG (ad_pot 0 rfl rfl (ad_cons (nm 1 (ad_cons (nm 2 (ad_cons (nm 4 (ad_cons (nm 7 (ad_nil ⟨z, m, d, es, k, rfl, hz, hm, d8, gd, l50, lk, nn, sk, kB ?_⟩))))))))))))))
    show SDs _ _ _ _ _ _
    exact sds_nil (sds_nil ⟨_, _, rfl⟩)
  rintro S' ⟨o6, o7, rfl⟩
  have fin : SDs (Bx P w K mg base NOr "_law_one_right" (top 62) f cdv A outer s H) H W [some .pot, some (.val (.str (SX.S z))), some (.val (.dcT (kvP es))), some (.val (.int (m : Int))), some (.val (Bo C CB z d (srt es))), some (.val (.int (d : Int))), o6, o7] ((defBody (top 62)).drop 4) { nx := fun _ => Q .non, rt := Q } := by
    exact sds_cons (sd_ret (ed_call WR (hr.mono (j := 10) (by decide)) hG (ad_pot 0 rfl rfl (ad_cons (nm 1 (ad_cons (nm 2 (ad_cons (nm 4 (ad_nil ⟨z, m, d, es, rfl, hz, hm, d8, gd, q⟩))))))))))
  refine sds_cons (sd_if (td_of (tw_and (td_cmp (nm 2 (ed_ft (ft_new (od_neT0 hr.units0 (kB ?_)))))))))
  cases hc : (kvP es).isEmpty with
  | true =>
    show SDs _ _ _ _ _ _
    exact sds_nil fin
  | false =>
    show TW _ _ _ _ _
    refine tw_and1 (td_not (td_val (ed_call MR hr hG (ad_pot 0 rfl rfl (ad_cons (nm 1 (ad_cons (nm 2 (ad_cons (nm 4 (ad_cons (ed_fd (fd_list T.T.list (ed_call Y.pick (hr.mono (j := 2) (by decide)) hG (ad_pot 0 rfl rfl (ad_cons (ed_callB T.sorted (ad_cons (nm 2 (ad_nil (cd_skeys rfl m1 gd d8 (ad_nil ⟨_, rfl, ?_, ?_, fun x hx => ?_⟩))))))))))))))))))))))
    · rw [List.length_map, (srt_perm es).length_eq, ← kvP_len]
      cases h : kvP es with
      | nil => rw [h] at hc; cases hc
      | cons _ _ => simp
    · rw [List.length_map, (srt_perm es).length_eq]; omega
    · obtain ⟨e, he, rfl⟩ := List.mem_map.mp hx
      have me := (srt_perm es).mem_iff.mp he
      refine ⟨e.1.map D.int, .inr rfl, ad_nil ⟨z, m, d, es, e.1, rfl, hz, hm, d8, gd, l50, gd.len e me, gd.nn e me, gd.sum e me, kB ?_⟩⟩
      show SDs _ _ _ _ _ _
      exact sds_nil fin
end
end K46

set_option Elab.async false
set_option linter.all false
set_option maxRecDepth 100000
set_option maxHeartbeats 4000000
/-! k46: products with whole amounts -/
namespace K46
open PySem L2 DL
abbrev NEnt := List Int × Nat
def cs (ns : List NEnt) : List Ent := ns.map fun e => (e.1, ((e.2 : Nat) : Rat))
def tot (ns : List NEnt) : Nat := (ns.map (·.2)).sum
structure NE (m n : Nat) (ns : List NEnt) : Prop where
  len : ∀ e ∈ ns, e.1.length = m
  nn : ∀ e ∈ ns, ∀ c ∈ e.1, (0 : Int) ≤ c
  sum : ∀ e ∈ ns, e.1.sum = (n : Int)
  pos : ∀ e ∈ ns, 0 < e.2
  nd : (ns.map (·.1)).Nodup
theorem NE.nil {m n : Nat} : NE m n [] := ⟨nofun, nofun, nofun, nofun, .nil⟩
theorem cs_keys (ns : List NEnt) : (cs ns).map (·.1) = ns.map (·.1) := by unfold cs; rw [List.map_map]; rfl
theorem cs_len (ns : List NEnt) : (cs ns).length = ns.length := by unfold cs; rw [List.length_map]
/-! how many keys there are -/
def allK : Nat → Nat → List (List Int)
  | 0, 0 => [[]]
  | 0, _ + 1 => []
  | m + 1, n => (List.range (n + 1)).flatMap fun c => (allK m (n - c)).map fun l => ((c : Nat) : Int) :: l
theorem mem_allK : ∀ {m n : Nat} {k : List Int}, k.length = m → (∀ c ∈ k, (0 : Int) ≤ c) → k.sum = (n : Int) → k ∈ allK m n
  | 0, 0, [], _, _, _ => List.mem_singleton.mpr rfl
  | 0, n + 1, [], _, _, h => by
    have : (0 : Int) = ((n + 1 : Nat) : Int) := h
    omega
  | 0, _, _ :: _, h, _, _ => by cases h
  | m + 1, _, [], h, _, _ => by cases h
  | m + 1, n, c :: k, hl, nn, sm => by
    have c0 := nn c (List.mem_cons_self ..)
    have nk : ∀ c ∈ k, (0 : Int) ≤ c := fun d hd => nn d (List.mem_cons_of_mem _ hd)
    have s0 := (le_sum nk).1
    rw [List.sum_cons] at sm
    unfold allK
    rw [List.mem_flatMap]
    refine ⟨c.toNat, List.mem_range.mpr (by omega), List.mem_map.mpr ⟨k, mem_allK (Nat.succ.inj hl) nk (by omega), ?_⟩⟩
    rw [Int.toNat_of_nonneg c0]
theorem nodup_le {α : Type} [DecidableEq α] : ∀ {l m : List α}, l.Nodup → (∀ a ∈ l, a ∈ m) → l.length ≤ m.length
  | [], _, _, _ => Nat.zero_le _
  | a :: l, m, nd, h => by
    rw [List.nodup_cons] at nd
    have ha := h a (List.mem_cons_self ..)
    have := nodup_le (l := l) (m := m.erase a) nd.2 fun b hb => (List.mem_erase_of_ne (fun e => by subst e; exact nd.1 hb)).mpr (h b (List.mem_cons_of_mem _ hb))
    have e := List.length_erase_of_mem ha
    have p := List.length_pos_of_mem ha
    rw [List.length_cons]
    omega
theorem allK_len : ∀ m : Nat, m ≤ 4 → ∀ n : Nat, n ≤ 4 → (allK m n).length ≤ 35 := by decide +kernel
theorem NE.few {m n : Nat} {ns : List NEnt} (h : NE m n ns) (m4 : m ≤ 4) (n4 : n ≤ 4) : ns.length ≤ 35 := by
  have := nodup_le (m := allK m n) h.nd fun k hk => by
    obtain ⟨e, he, rfl⟩ := List.mem_map.mp hk
    exact mem_allK (h.len e he) (h.nn e he) (h.sum e he)
  rw [List.length_map] at this
  exact Nat.le_trans this (allK_len m m4 n n4)
theorem NE.ge {m n b : Nat} {ns : List NEnt} (h : NE m n ns) (m4 : m ≤ 4) (n4 : n ≤ 4) (hb : ∀ e ∈ ns, e.2 < 2 ^ b) (b1 : 1 ≤ b) : GE m n b (cs ns) := by
  refine ⟨fun e he => ?_, fun e he => ?_, fun e he => ?_, fun e he => ?_, fun e he => ?_, by rw [cs_keys]; exact h.nd, by rw [cs_len]; have := h.few m4 n4; omega⟩
  all_goals obtain ⟨x, hx, rfl⟩ := List.mem_map.mp he
  · exact h.len x hx
  · exact h.nn x hx
  · exact h.sum x hx
  · show (0 : Rat) < (((x.2 : Nat) : Int) : Rat)
    exact Rat.intCast_pos.mpr (by have := h.pos x hx; omega)
  · exact Bq.int (i := ((x.2 : Nat) : Int)) (by rw [Int.natAbs_natCast]; exact hb x hx) b1
theorem le_tot : ∀ {ns : List NEnt} {e : NEnt}, e ∈ ns → e.2 ≤ tot ns
  | x :: ns, e, h => by
    show e.2 ≤ ((x :: ns).map (·.2)).sum
    rw [List.map_cons, List.sum_cons]
    rcases List.mem_cons.mp h with rfl | h
    · omega
    · have : e.2 ≤ (ns.map (·.2)).sum := le_tot h
      omega
/-! a key put -/
def insN (ns : List NEnt) (k : List Int) (a : Nat) : List NEnt := if k ∈ ns.map (·.1) then ns.map (fun e => if e.1 = k then (k, a) else e) else ns ++ [(k, a)]
theorem ins_cs {ns : List NEnt} {k : List Int} {a : Nat} : insP (cs ns) k ((a : Nat) : Rat) = cs (insN ns k a) := by
  unfold insP insN
  rw [cs_keys]
  by_cases c : k ∈ ns.map (·.1)
  · rw [if_pos c, if_pos c]
    unfold cs
    rw [List.map_map, List.map_map]
    refine List.map_congr_left fun e _ => ?_
    show (if e.1 = k then (k, ((a : Nat) : Rat)) else (e.1, ((e.2 : Nat) : Rat))) = (fun e : NEnt => (e.1, ((e.2 : Nat) : Rat))) (if e.1 = k then (k, a) else e)
    by_cases y : e.1 = k
    · rw [if_pos y, if_pos y]
    · rw [if_neg y, if_neg y]
  · rw [if_neg c, if_neg c]
    unfold cs
    rw [List.map_append]
    rfl
theorem insN_mem {ns : List NEnt} {k : List Int} {a : Nat} {e : NEnt} (h : e ∈ insN ns k a) : e = (k, a) ∨ e ∈ ns := by
  unfold insN at h
  split at h
  · obtain ⟨x, hx, rfl⟩ := List.mem_map.mp h
    by_cases y : x.1 = k
    · rw [if_pos y]; exact .inl rfl
    · rw [if_neg y]; exact .inr hx
  · rcases List.mem_append.mp h with h | h
    · exact .inr h
    · exact .inl (List.mem_singleton.mp h)
theorem insN_nd {ns : List NEnt} {k : List Int} {a : Nat} (nd : (ns.map (·.1)).Nodup) : ((insN ns k a).map (·.1)).Nodup := by
  unfold insN
  split
  · have e : (ns.map fun e : NEnt => if e.1 = k then (k, a) else e).map (·.1) = ns.map (·.1) := by
      rw [List.map_map]
      refine List.map_congr_left fun e _ => ?_
      show (if e.1 = k then (k, a) else e).1 = e.1
      by_cases y : e.1 = k
      · rw [if_pos y, y]
      · rw [if_neg y]
    rw [e]
    exact nd
  · rename_i h
    rw [List.map_append, List.nodup_append]
    refine ⟨nd, by simp, fun x hx y hy e => ?_⟩
    rw [List.map_singleton, List.mem_singleton] at hy
    have hy2 : y = k := hy
    exact h (by rw [← hy2, ← e]; exact hx)
theorem ne_ins {m n : Nat} {ns : List NEnt} (h : NE m n ns) {k : List Int} {a : Nat} (hk : k.length = m) (nn : ∀ c ∈ k, (0 : Int) ≤ c) (sm : k.sum = (n : Int)) (ap : 0 < a) : NE m n (insN ns k a) := by
  refine ⟨fun e he => ?_, fun e he => ?_, fun e he => ?_, fun e he => ?_, insN_nd h.nd⟩
  all_goals rcases insN_mem he with rfl | he
  · exact hk
  · exact h.len e he
  · exact nn
  · exact h.nn e he
  · exact sm
  · exact h.sum e he
  · exact ap
  · exact h.pos e he
def amN (ns : List NEnt) (k : List Int) : Nat := ((ns.find? fun e => decide (e.1 = k)).map (·.2)).getD 0
theorem look_cs (ns : List NEnt) (k : List Int) : (look (kvP (cs ns)) (ik k)).getD (.tup [.int 0, .int 1]) = prq ((amN ns k : Nat) : Rat) := by
  rw [amt_lookP]
  have : amt (cs ns) k = ((amN ns k : Nat) : Rat) := by
    unfold amt amN cs
    rw [List.find?_map]
    have e : ((fun e : Ent => decide (e.1 = k)) ∘ fun e : NEnt => (e.1, ((e.2 : Nat) : Rat))) = fun e : NEnt => decide (e.1 = k) := rfl
    rw [e]
    cases ns.find? fun e => decide (e.1 = k) with
    | none => rfl
    | some x => rfl
  rw [this]
theorem tot_map {k : List Int} {a : Nat} : ∀ {ns : List NEnt}, (ns.map (·.1)).Nodup → k ∈ ns.map (·.1) → tot (ns.map fun e => if e.1 = k then (k, amN ns k + a) else e) = tot ns + a
  | [], _, h => by cases h
  | e :: ns, nd, h => by
    rw [List.map_cons, List.nodup_cons] at nd
    by_cases y : e.1 = k
    · have am : amN (e :: ns) k = e.2 := by
        unfold amN
        rw [List.find?_cons_of_pos (by rw [decide_eq_true y])]
        rfl
      have e1 : ns.map (fun x : NEnt => if x.1 = k then (k, e.2 + a) else x) = ns := by
        refine (List.map_congr_left fun x hx => ?_).trans (List.map_id ns)
        have : ¬ x.1 = k := fun z => nd.1 (by rw [y, ← z]; exact List.mem_map_of_mem hx)
        rw [if_neg this]
        rfl
      rw [am, List.map_cons, if_pos y, e1]
      show (e.2 + a) + tot ns = e.2 + tot ns + a
      omega
    · have am : amN (e :: ns) k = amN ns k := by
        unfold amN
        rw [List.find?_cons_of_neg (by rw [decide_eq_false y]; decide)]
      have h2 : k ∈ ns.map (·.1) := by
        rw [List.map_cons] at h
        rcases List.mem_cons.mp h with z | z
        · exact absurd z.symm y
        · exact z
      have ih := tot_map (k := k) (a := a) nd.2 h2
      rw [am, List.map_cons, if_neg y]
      show e.2 + tot _ = e.2 + tot ns + a
      rw [ih]
      omega
theorem tot_ins {ns : List NEnt} {k : List Int} {a : Nat} (nd : (ns.map (·.1)).Nodup) : tot (insN ns k (amN ns k + a)) = tot ns + a := by
  unfold insN
  by_cases c : k ∈ ns.map (·.1)
  · rw [if_pos c, tot_map nd c]
  · rw [if_neg c]
    have am : amN ns k = 0 := by
      unfold amN
      rw [List.find?_eq_none.mpr]
      · rfl
      · intro e he
        simp only [decide_eq_true_eq]
        exact fun z => c (by rw [← z]; exact List.mem_map_of_mem he)
    rw [am]
    unfold tot
    rw [List.map_append, List.sum_append]
    simp
/-- sorted, still whole amounts -/
theorem srt_cs (ns : List NEnt) : ∃ ns', ns'.Perm ns ∧ srt (cs ns) = cs ns' := by
  have num : ∀ a : Nat, (((a : Nat) : Rat)).num.toNat = a := fun a => by
    rw [Rat.num_natCast]
    omega
  refine ⟨(srt (cs ns)).map fun e => (e.1, e.2.num.toNat), ?_, ?_⟩
  · have p := (srt_perm (cs ns)).map fun e : Ent => (e.1, e.2.num.toNat)
    have e : (cs ns).map (fun e : Ent => (e.1, e.2.num.toNat)) = ns := by
      unfold cs
      rw [List.map_map]
      refine (List.map_congr_left fun x _ => ?_).trans (List.map_id ns)
      show (x.1, (((x.2 : Nat) : Rat)).num.toNat) = x
      rw [num]
    rw [e] at p
    exact p
  · unfold cs
    rw [List.map_map]
    refine ((List.map_congr_left fun x hx => ?_).trans (List.map_id _)).symm
    obtain ⟨y, _, rfl⟩ := List.mem_map.mp ((srt_perm (cs ns)).mem_iff.mp hx)
    show (y.1, (((((y.2 : Nat) : Rat)).num.toNat : Nat) : Rat)) = (y.1, ((y.2 : Nat) : Rat))
    rw [num]
theorem tot_perm {ns ns' : List NEnt} (p : ns'.Perm ns) : tot ns' = tot ns := (p.map _).sum_nat
theorem NE.perm {m n : Nat} {ns ns' : List NEnt} (h : NE m n ns) (p : ns'.Perm ns) : NE m n ns' :=
  ⟨fun e he => h.len e (p.mem_iff.mp he), fun e he => h.nn e (p.mem_iff.mp he), fun e he => h.sum e (p.mem_iff.mp he), fun e he => h.pos e (p.mem_iff.mp he), (p.map _).nodup_iff.mpr h.nd⟩
theorem tot_take {ns : List NEnt} {i : Nat} {e : NEnt} (h : ns[i]? = some e) : tot (ns.take (i + 1)) = tot (ns.take i) + e.2 := by
  unfold tot
  rw [List.take_add_one, h, List.map_append, List.sum_append]
  simp
theorem tot_take_le (ns : List NEnt) (i : Nat) : tot (ns.take i) ≤ tot ns := by
  have : tot ns = tot (ns.take i) + tot (ns.drop i) := by
    unfold tot
    rw [← List.sum_append, ← List.map_append, List.take_append_drop]
  omega
/-! sums of keys -/
theorem plus_len {a b : List Int} (h : a.length = b.length) : (plus a b).length = a.length := by
  unfold plus
  rw [List.length_zipWith]
  omega
theorem plus_nn : ∀ {a b : List Int}, (∀ c ∈ a, (0 : Int) ≤ c) → (∀ c ∈ b, (0 : Int) ≤ c) → ∀ c ∈ plus a b, (0 : Int) ≤ c
  | [], _, _, _, c, h => by cases h
  | _ :: _, [], _, _, c, h => by cases h
  | x :: a, y :: b, ha, hb, c, h => by
    rcases List.mem_cons.mp (show c ∈ (x + y) :: plus a b from h) with rfl | h
    · have := ha x (List.mem_cons_self ..)
      have := hb y (List.mem_cons_self ..)
      omega
    · exact plus_nn (fun c hc => ha c (List.mem_cons_of_mem _ hc)) (fun c hc => hb c (List.mem_cons_of_mem _ hc)) c h
theorem plus_sum : ∀ {a b : List Int}, a.length = b.length → (plus a b).sum = a.sum + b.sum
  | [], [], _ => rfl
  | x :: a, y :: b, h => by
    have ih := plus_sum (a := a) (b := b) (Nat.succ.inj h)
    show ((x + y) :: plus a b).sum = _
    rw [List.sum_cons, List.sum_cons, List.sum_cons, ih]
    omega
/-! unit vectors -/
def unitv (m j : Nat) : List Int := (List.range m).map fun i => if i = j then 1 else 0
theorem unitv_len {m j : Nat} : (unitv m j).length = m := by unfold unitv; rw [List.length_map, List.length_range]
theorem unitv_nn {m j : Nat} : ∀ c ∈ unitv m j, (0 : Int) ≤ c := fun c hc => by
  obtain ⟨i, _, rfl⟩ := List.mem_map.mp hc
  show (0 : Int) ≤ if i = j then 1 else 0
  split <;> decide
theorem unitv_sum : ∀ m : Nat, m ≤ 4 → ∀ j : Nat, j < m → (unitv m j).sum = 1 := by decide +kernel
theorem unitv_inj : ∀ m : Nat, m ≤ 4 → ∀ i : Nat, i < m → ∀ j : Nat, j < m → unitv m i = unitv m j → i = j := by decide +kernel
/-! rows of 0 and 1 -/
def rowsB : Nat → List (List Int)
  | 0 => [[]]
  | n + 1 => (rowsB n).map (· ++ [0]) ++ (rowsB n).map (· ++ [1])
theorem rowsB_ok : ∀ m : Nat, m ≤ 4 → (rowsB m).length ≤ 16 ∧ ∀ r ∈ rowsB m, r.length = m ∧ ∀ c ∈ r, (0 : Int) ≤ c := by decide +kernel
end K46

set_option Elab.async false
set_option linter.all false
set_option maxRecDepth 100000
set_option maxHeartbeats 4000000
/-! dicts that a def hands back new; a dict of one entry; what a name owns, compared, asked, sorted; x, y = e, {} -/
namespace DL
open PySem PySem.Spec PyProof.Rows L2 PySem.W
/-- {k: v}, k a tuple -/
def tOneT (trs : List (TE × TE)) : TE := fun σ H Q => ∀ p, H p = none → tPairs trs σ (upd H p (.dT [])) fun ps H2 => H2 p = some (.dT []) ∧ ∃ ks b y, ps = [(.ref b, y)] ∧ H2 b = some (.tup (ks.map kV)) ∧ Q (.ref p) (upd H2 p (.dT [(ks, y)]))
theorem one_disp {prog : Program} {w : World} {K : Type} [DecidableEq K] {knd : HeapKind prog w K} {A : Around} {E : Value → Shared → Prop} {s : Shared} {env : Env} {keys : List (Option Expr)} {values : List Expr} {pos : Pos} {pairs : List (Sem Value × Sem Value)} {Q : Value → Shared → Prop} (hu : knd.room A)
    (hshape : (evalEachOpt keys env).zip ((evalEach values env).map fun v => do let x ← v; standAt pos; pure x) = pairs.map fun p => (some p.1, p.2)) (h0 : pairs ≠ []) (hlen : pairs.length ≤ 15)
    (h : wpAny (model prog w) A (evalPairs pairs) (fun vs s₁ => ∃ ps, CarriesH knd s₁.heap vs ps ∧ s₁.heap.DictOfH knd s.heap.objs.size [] ∧
      ∀ h' tk, h'.DictOfH knd s.heap.objs.size (storedAllH [] ps) → Heap.SameBut s.heap.objs.size s₁.heap h' → Q (.ref s.heap.objs.size) { s₁ with heap := h', toks := tk }) E
      { s with heap := s.heap.push { cls := .type "dict", data := .dict #[] } }) :
    wpAny (model prog w) A (eval (.Dict keys values pos) env) Q E s := by
  rw [arm_eval_Dict, hshape, dictDisplay_pairs pairs h0 (by omega)]
  exact wpAny_bind (wpAny_standAt (wpAny_bind (wpAny_subDictH (knd := knd) (Q := fun d s' => wpAny (model prog w) A (pure (Value.ref d)) Q E s') hu hlen
    (wpAny_mono h (fun vs s₁ h₁ => by obtain ⟨ps, hc, hm, hq⟩ := h₁; exact ⟨ps, hc, hm, fun h' tk a b => wpAny_pure (hq h' tk a b)⟩) fun _ _ e => e))))
theorem pe_oneT {X : Cx} {pos : Pos} {k v : Expr} {tk tv : TE} (hu : X.A.units + 1 < cLine) (hk : PE X k tk) (hv : PE X v tv) : PE X (.Dict [some k] [v] pos) (tOneT [(tk, tv)]) := by
  refine ⟨fun pins s σ H Q I q => ?_⟩
  have hn := I.hok.fresh (Nat.le_refl s.heap.objs.size)
  have I1 := I.laid (a := s.heap.objs.size) (o := .dT []) (h' := s.heap.push { cls := .type "dict", data := .dict #[] }) (t' := s.toks) (fun _ _ q => Heap.get?_push_of_some _ q) (Nat.le_refl _) (dt_empty s.heap I.big)
  refine one_disp (knd := tupleKind (mixKind X.prog X.w)) (pairs := pairTrees [some k] [v] X.env pos) (Nat.lt_of_succ_lt hu) (zip_pairTrees [some k] [v] X.env pos rfl rfl) (by intro h; cases h) (by show 1 ≤ 15; decide) (thn ((pps_cons hk hv pps_nil).run pins _ σ _ _ I1 (q _ hn)) fun ws s2 ⟨ps, H2, I2, rel, e, ks, b, y, ep, eb, q2⟩ => ?_)
  subst ep
  cases rel with
  | @cons _ w0 _ _ r1 r2 =>
    cases r2
    obtain ⟨w1, w2⟩ := w0
    obtain ⟨ra, rb⟩ := r1
    cases (show w1 = Value.ref b from ra)
    obtain ⟨z, hd, xs, r0, dd⟩ := dt_of I2.hok e
    cases r0
    refine ⟨[(ks, b, w2)], ⟨rfl, rfl, key_of I2.hok eb, True.intro⟩, dd, fun h' tk dk hs => ⟨.ref s.heap.objs.size, _, ?_, rfl, q2⟩⟩
    obtain ⟨o, es, ep, hq, h2, h3, h4, _, h6⟩ := dk
    have nil : KT H2 [] [] := .nil
    refine d_write I2 (by rw [e]; exact True.intro) hs ⟨o, hq⟩ ⟨by rw [sizeLine_eq]; show 1 ≤ _; decide, hd, _, (nil.put ks eb rb).keeps fun c ys ec => ?_, o, es, ep, hq, h2, h3, h4, h6⟩
    rw [upd_ne (ne_of ec e (fun z => nomatch z))]
    exact ec
/-! a new dict handed back -/
abbrev SpT := List Sl → (List (List Key × D) → Prop) → Prop
def liftT (K : PySem.W.Frag) (sp : SpT) : SpG := fun g vs H R => ∃ as W Q, Ok g W H ∧ Args K W as vs ∧ sp as Q ∧ ContT K g W H Q R
structure NfT (P : Program) (w : World) (K : PySem.W.Frag) (mg : Str → Option Value) (base : Heap) (x : Str) (k : Nat) (sp : SpT) : Prop where
  ex : ∃ f fd ps, GnOk P w K mg base k f fd ps (liftT K sp) ∧ mg x = some (.ref f) ∧ PySem.W.keepIn K (.ref f) = true ∧ Binds K fd ps []
section
variable {X : Cx} {B : Hp} {W0 : Wd} {S : En} {pos p apos : Pos} {e o : Expr} {es : List Expr} {x : Str} {k : Nat}
theorem ContT.step {K : PySem.W.Frag} {g : List Code} {W W1 : Wd} {H H1 : Hp} {Q : List (List Key × D) → Prop} {R : VK} (c : ContT K g W H Q R) (a : Stp W H W1 H1) (ok : Ok g W1 H1) : ContT K g W1 H1 Q R := fun l p xs W' H' s ok' hp n i hl d q => c l p xs W' H' (a.trans ok s) ok' (a.free ok hp) n i hl d q
theorem ft_callT {sp : SpT} {Q : List (List Key × D) → Prop} (F : NfT X.prog X.w X.K X.mg X.base x k sp) (hr : Room k X.A) (hG : X.A.guards = some (gOf X)) (h : AD X B S (e :: es) fun as => sp as Q) (hg : Gl X x := by rfl) (hdb : (x == ("__debug__" : Str)) = false := by decide)
    (he : starEach (e :: es) X.env = (false, eval e X.env) :: starEach es X.env := by rfl) (hpl : (backTo pos (starEach es X.env)).any (·.1) = false := by rfl) : FT X B S (.Call (.Name x p) (e :: es) [] pos) Q := fun σ W H r R c => by
  obtain ⟨f, fd, ps, F, hm, hk, hb⟩ := F.ex
  refine we_call F hr hG hg hm hk hb .nil ?_ hdb he hpl
  refine h σ W H r _ fun as vs W1 H1 s1 ok1 n1 q1 => ?_
  rw [List.append_nil]
  exact ⟨as, W1, Q, ok1, n1, q1, c.step s1 ok1⟩
end
/-- a block that ends by handing a new dict back -/
def ST (X : Cx) (B : Hp) (W0 : Wd) (S : En) (sts : List Stmt) (Q : List (List Key × D) → Prop) : Prop := ∀ σ W H, Rep X.K (gOf X) B S σ W H → Stp W0 B W H → ∀ R, ContT X.K (gOf X) W0 B Q R → WSs X sts { nx := fun _ H' => R .non H', rt := R } σ H
section
variable {X : Cx} {B : Hp} {W0 : Wd} {S : En} {pos px : Pos} {x : Str} {st : Stmt} {sts : List Stmt} {Q : List (List Key × D) → Prop}
theorem st_ret (i : Nat) {kvs : List (List Key × D)} (hN : X.N[i]? = some x) (h : S[i]? = some (some (.ownT kvs))) (q : Q kvs) (hv : Vis X.env.scope x := by first | exact Or.inl rfl | exact Or.inr (Or.inl rfl) | exact Or.inr (Or.inr rfl)) (hd : (x == ("__debug__" : Str)) = false := by decide) (hcd : (x == ("__classdict__" : Str)) = false := by decide) : ST X B W0 S [.Return (some (.Name x px)) pos] Q := fun σ W H r z R c => by
  refine PSs.w (pss_cons (ps_ret (pe_var hN hv hd hcd)) pss_nil) ?_
  obtain ⟨v, e1, p, ws, rfl, hB, n, hI, hH, d0⟩ := r.sl i _ h
  exact ⟨_, e1, c kvs p ws W H z r.ok hB n hI hH d0 q⟩
theorem st_cons (h : SD X B W0 S st { nx := fun S' => ST X B W0 S' sts Q, rt := fun _ => False }) : ST X B W0 S (st :: sts) Q := fun σ W H r z R c => by
  refine PSs.w (pss_cons ws_ps wss_pss) ?_
  exact h σ W H r z _ ⟨fun S' σ' W' H' r' z' _ q => q σ' W' H' r' z' R c, fun _ _ _ _ _ _ _ _ q => q.elim, fun _ _ _ _ _ _ _ q => q.elim, fun _ _ _ _ _ _ _ q => q.elim⟩
end
section
variable {P : Program} {w : World} {K : PySem.W.Frag} {mg : Str → Option Value} {base : Heap}
/-- a def that ends by handing a new dict back -/
theorem gn_newT {x qual : Str} {st : Stmt} {f : Addr} {fd : FuncData} {N ps : List Str} {k : Nat} {sp : SpT} (F : FunS K x qual st f fd) (hS : FnScope N ps (defScope st)) (len : ∀ as Q, sp as Q → as.length = ps.length)
    (body : ∀ cdv A outer s H, Room k (A.deeper (PyProof.Rows.envOfC qual (defScope st) s.heap.objs.size f cdv)) → (Bx P w K mg base N qual st f cdv A outer s H).A.guards = some (gOf (Bx P w K mg base N qual st f cdv A outer s H)) → ∀ W as Q, sp as Q →
      ST (Bx P w K mg base N qual st f cdv A outer s H) H W (startE N as) (defBody st) Q) : GnOk P w K mg base (k + 1) f fd ps (liftT K sp) := by
  refine gn_of F hS (fun g vs H Q h => ?_) (fun cdv A outer s H g vs R hr hG h => ?_)
  · obtain ⟨as, W, Qd, _, ha, hsp, _⟩ := h
    rw [← len _ _ hsp]
    exact (Paired.length ha).symm
  · obtain ⟨as, W, Qd, ok, ha, hsp, c⟩ := h
    obtain ⟨e1, e2⟩ := gOf_bx (P := P) (w := w) (K := K) (mg := mg) (base := base) (N := N) (qual := qual) (st := st) (f := f) (cdv := cdv) (outer := outer) (s := s) (H := H) hG
    refine ⟨WSs _ _, wss_pss, body cdv A outer s H hr (by rw [e2]; exact e1) W as Qd hsp (L2.start N vs) W H (by rw [e2]; exact rep_start ok ha) Stp.refl R ?_⟩
    rw [e2]
    exact c
end
section
variable {X : Cx} {B : Hp} {W0 : Wd} {S : En} {pos px py p p1 : Pos} {Q : D → Prop} {QB : Bool → Prop} {a b e f key value : Expr} {x y : Str} {E : Ends'}
/-- {k: v} -/
theorem ft_one {Q : List (List Key × D) → Prop} (hu : X.A.units + 1 < cLine) (h : ED X B S key fun y => ED X B S value fun d => ∃ k, y = tD k ∧ Q [(k, d)]) : FT X B S (.Dict [some key] [value] pos) Q := fun σ W H r R k0 => by
  refine PE.w (pe_oneT hu we_pe we_pe) ?_
  intro p hp
  have r0 := r.step (H1 := upd H p (.dT [])) (Stp.own hp) (r.ok.own hp)
  refine h σ W _ r0 _ fun y v W1 H1 s1 ok1 n1 q1 => ?_
  refine q1 σ W1 H1 (r0.step s1 ok1) _ fun d u W2 H2 s2 ok2 n2 q2 => ?_
  obtain ⟨k, rfl, q⟩ := q2
  obtain ⟨bq, rfl, hb⟩ := dn_tupkey ok2 (n1.mono s2.I)
  have st := s1.trans ok1 s2
  have nP0 := r.ok.notP hp
  have hH2 : H2 p = some (.dT []) := st.keep _ _ upd_same nP0
  have nP : ¬ W2.P p := fun q => nP0 (st.oldP p _ upd_same q)
  have hI2 : W2.I p = none := st.old p _ upd_same (fun _ z => by cases z) (r.ok.free hp)
  refine ⟨hH2, k, bq, u, rfl, hb, ?_⟩
  have z2 : Stp W H W2 H2 := (Stp.own hp).trans (r.ok.own hp) st
  exact k0 [(k, d)] p [(k, u)] W2 _ (stp_upd z2 hp) (ok_upd ok2 nP hI2) hp nP hI2 upd_same (.cons n2 .nil) q
/-- x, y = e, {..} : x data, y owns -/
theorem sd_parVT {pt : Pos} {kt k2 pt2} (i j : Nat) (hij : i ≠ j) (h : ED X B S a fun d => FT X B S b fun m => E.nx ((S.set i (some (.val d))).set j (some (.ownT m))))
    (hps : PS X (.Assign [.Tuple [.Name x px, .Name y py] kt pt] (.Tuple [a, b] k2 pt2) pos) (tPar i j (tCons (WE X a) (tCons (WE X b) tNil)))) :
    SD X B W0 S (.Assign [.Tuple [.Name x px, .Name y py] kt pt] (.Tuple [a, b] k2 pt2) pos) E := fun σ W H r z D' k => by
  refine PS.w hps ?_
  refine h σ W H r _ fun d v W1 H1 s1 ok1 n1 q1 => ?_
  have r1 := r.step s1 ok1
  refine q1 σ W1 H1 r1 _ fun m p' ys W2 H2 s2 ok2 hp' n' i2 hl' d' q2 => ?_
  have zz := z.trans r.ok s1
  have r2 := (r1.step s2 ok2).set (i := i) (n1.mono s2.I)
  have new : ∀ (j' : Nat) (m : List (List Key × D)), (S.set i (some (.val d)))[j']? = some (some (.ownT m)) → (σ.set i (some v))[j']? ≠ some (some (.ref p')) := fun j' m e1 e2 => by
    by_cases c : i = j'
    · subst c
      by_cases lt : i < S.length
      · rw [List.getElem?_set_self lt] at e1; cases e1
      · rw [List.getElem?_eq_none (by rw [List.length_set]; omega)] at e1; cases e1
    · rw [List.getElem?_set_ne c] at e1 e2
      obtain ⟨v, e3, p2, zs, e4, _, _, _, h4, _⟩ := r1.sl j' _ e1
      rw [e2] at e3
      cases e3
      cases e4
      rw [hp'] at h4
      cases h4
  exact ⟨v, .ref p', rfl, k.nx _ _ W2 H2 (r2.newT (i := j) (zz.free ok1 hp') n' i2 hl' d' new) (zz.trans ok1 s2) (s1.I.trans s2.I) q2⟩
/-- d.get(k, x), d what a name owns -/
theorem ed_get2T {apos cpos : Pos} (i : Nat) (kvs : List (List Key × D)) (hu : X.A.units + 1 < cLine) (hN : X.N[i]? = some x) (h : S[i]? = some (some (.ownT kvs))) (he : ED X B S e fun y => ED X B S f fun z => ∃ k, y = tD k ∧ Q ((look kvs k).getD z)) (m : M2 X (.Name x px) "get" apos e f cpos := by exact ⟨rfl, rfl, rfl, rfl⟩)
    (hv : Vis X.env.scope x := by first | exact Or.inl rfl | exact Or.inr (Or.inl rfl) | exact Or.inr (Or.inr rfl)) (hd : (x == ("__debug__" : Str)) = false := by decide) (hcd : (x == ("__classdict__" : Str)) = false := by decide) : ED X B S (.Call (.Attribute (.Name x px) "get" apos) [e, f] [] cpos) Q := fun σ W H r R k0 => by
  refine PE.w (pe_dget2 hu (pe_var hN hv hd hcd) we_pe we_pe m) ?_
  obtain ⟨v, e1, p, ws, rfl, hB, n, hI, hH, d0⟩ := r.sl i _ h
  refine ⟨_, e1, p, rfl, .inr ⟨ws, .inl hH⟩, ?_⟩
  refine he σ W H r _ fun y u W2 H2 s2 ok2 n2 q2 => ?_
  refine q2 σ W2 H2 (r.step s2 ok2) _ fun z x W3 H3 s3 ok3 n3 q3 => ?_
  obtain ⟨k, rfl, q3⟩ := q3
  obtain ⟨q, rfl, hb⟩ := dn_tupkey ok3 (n2.mono s3.I)
  have st := s2.trans ok2 s3
  have m3 := d0.mono st.I
  have e3 : Rd H3 p (.dT ws) := .inl (st.keep _ _ hH n)
  refine ⟨_, dget_of e3 hb, ?_⟩
  have k3 := (k0.step s2 ok2).step s3 ok3
  obtain ⟨l1, l2⟩ := dnt_look (k := k) m3
  cases hl : look kvs k with
  | none =>
    rw [l2 hl]
    rw [hl] at q3
    exact k3.now ok3 n3 q3
  | some d =>
    obtain ⟨v, ev, nv⟩ := l1 d hl
    rw [ev]
    rw [hl] at q3
    exact k3.now ok3 nv q3
abbrev RSortK (X : Cx) (dd : Nat) (Bb : Int) : List V → Hp → VK → Prop := fun xs H Q => ∃ d kvs, xs = [V.ref d] ∧ Rd H d (.dT kvs) ∧ kvs.length < 64 ∧ (∀ p ∈ kvs, ∃ l : List Int, p.1 = ik l ∧ l.length = dd ∧ TS.Bd Bb l) ∧
    ∀ bs ys p, IsKeys H kvs bs → ys.Perm (bs.map V.ref) → ys.Pairwise (fun x y => ∀ n m, TupI X.K H x n → TupI X.K H y m → TS.code Bb n ≤ TS.code Bb m) → H p = none → Q (.ref p) (upd H p (.lst ys))
/-- sorted(x), x the owner of a dict with keys of ints -/
theorem ed_sortOwnT {dd : Nat} {Bb : Int} {ls : List (List Int)} (i : Nat) (kvs : List (List Key × D)) (hc : X.calm = true) (hm : X.mg "sorted" = none) (hN : X.N[i]? = some x) (h : S[i]? = some (some (.ownT kvs))) (hd1 : 1 ≤ dd) (hk : kvs.map (·.1) = ls.map ik) (h64 : ls.length < 64) (hx : ∀ l ∈ ls, l.length = dd ∧ TS.Bd Bb l)
    (q : ∀ ls' : List (List Int), ls'.Perm ls → ls'.Pairwise (fun a b => TS.code Bb a ≤ TS.code Bb b) → Q (.lst (ls'.map tI))) (hg : Gl X "sorted" := by rfl)
    (hps : PE X (.Call (.Name "sorted" p) [.Name x px] [] pos) (tCB (RSortK X dd Bb) (tCons (tVar i) tNil))) : ED X B S (.Call (.Name "sorted" p) [.Name x px] [] pos) Q := fun σ W H r R c => by
  refine PE.w hps ?_
  obtain ⟨v, e1, p, ws, rfl, hB, n, hI, hH, m⟩ := r.sl i _ h
  have hl : kvs.length = ls.length := by have := congrArg List.length hk; simpa using this
  refine ⟨_, e1, p, ws, rfl, .inl hH, by rw [← m.length, hl]; exact h64, fun p hm => ?_, fun bs ys p isk perm pw hn => ?_⟩
  · have : p.1 ∈ ls.map ik := by
      rw [← hk, m.keys]
      exact List.mem_map_of_mem hm
    obtain ⟨l, hl, e⟩ := List.mem_map.mp this
    exact ⟨l, e.symm, hx l hl⟩
  · obtain ⟨W2, s2, ok2, e2⟩ := extN isk r.ok
    have dk := dns_keysOf (m.mono s2.I) e2
    rw [keysD_ik hk] at dk
    obtain ⟨ls', p1, n1⟩ := dns_perm perm dk
    have st := Stp.new (o := .lst ys) ok2 hn
    exact c _ _ _ _ (s2.trans ok2 st) (ok2.new hn) (.lst (show upd W2.I p _ p = _ from upd_same) (n1.mono st.I)) (q ls' p1 (dns_pair ok2 n1 pw))
theorem op_eqT0 (hu : X.A.units < cLine) : OpR X (compareOp .Eq) (fun x y H Q => ∃ p q ws, x = .ref p ∧ y = .ref q ∧ Rd H p (.dT ws) ∧ Rd H q (.dT []) ∧ Q (.bl ws.isEmpty) H) := by
  intro pins t σ H x y v u Q J rx ry h
  obtain ⟨a, b, ws, rfl, rfl, ha, hb, q⟩ := h
  show wpAny _ _ (richCompare .Eq _ _) _ _ _
  obtain rfl : v = Value.ref a := rx
  obtain rfl : u = Value.ref b := ry
  obtain ⟨z1, n1, rows, pr, o1, es, ep, ga, x1, da, he, nd⟩ := (show ObjOk X.prog X.w H t.heap a (.dT ws) from ha.ok J.hok)
  obtain ⟨z2, n2, rows2, pr2, o2, es', ep', gb, x2, db, he2, nd2⟩ := (show ObjOk X.prog X.w H t.heap b (.dT []) from hb.ok J.hok)
  have l1 : es.size = rows.length := size_of_entries he
  have l2 : es'.size = rows2.length := size_of_entries he2
  have l3 : ws.length = rows.length := Paired.length pr
  have l4 : ([] : List (List Key × V)).length = rows2.length := Paired.length pr2
  rw [List.length_nil] at l4
  have ta : t.TypeIs (.ref a) "dict" := ⟨o1, ga, x1.1⟩
  have tb : t.TypeIs (.ref b) "dict" := ⟨o2, gb, x2.1⟩
  refine wpAny_richCompare_same_room (op := .Eq) ta tb PySem.F.slot_dict_eq (wpAny_call_entry PySem.F.slot_dict_eq ta PySem.F.entry_dict_eq ?_ (PySem.F.args_dict_eq_2 _ _)) hu
  show wpAny _ _ (Builtin.Dict.dictSlotArgs "__eq__" ⟨[.ref a, .ref b], []⟩ >>= _) _ _ t
  refine wpAny_bind ?_
  unfold Builtin.Dict.dictSlotArgs
  refine wpAny_bind (wpAny_notOrdered_dict ta ?_)
  show wpAny _ _ (pure (Value.ref a, Value.ref b)) _ _ t
  refine wpAny_pure ?_
  refine wpAny_bind (wpAny_isInstance (T := "dict") tb PySem.F.sub_dict_dict ?_)
  simp only [Bool.not_true, Bool.false_eq_true, if_false]
  refine wpAny_bind (wpAny_pure (wpAny_bind (wpAny_pure ?_)))
  refine wpAny_bind ?_
  unfold Builtin.Dict.samePairs Builtin.Dict.showsAll
  rw [if_neg (show ¬ (a == sysModules) = true by rw [n1]; exact Bool.false_ne_true), if_neg (show ¬ (b == sysModules) = true by rw [n2]; exact Bool.false_ne_true)]
  refine wpAny_bind (wpAny_pure (wpAny_bind (wpAny_pure ?_)))
  refine wpAny_bind (wpAny_dictEntries ga da ?_)
  dsimp only
  refine wpAny_bind (wpAny_dictEntries gb db ?_)
  cases ws with
  | cons w0 ws =>
    rw [List.length_cons] at l3
    have hsz : ¬ es.size = es'.size := by omega
    rw [if_pos (by simpa using hsz)]
    refine wpAny_bind (wpAny_rule (wpAny_pure ?_))
    exact wpAny_pure ⟨_, rfl, (fun x => nomatch x), ⟨.bl false, H, J, rfl, q⟩⟩
  | nil =>
    rw [List.length_nil] at l3
    have z1 : es.size = 0 := by omega
    have z2 : es'.size = 0 := by omega
    rw [if_neg (by rw [z1, z2]; simp)]
    refine wpAny_bind (wpAny_dictEpoch ga da ?_)
    refine wpAny_bind ?_
    rw [Std.Legacy.Range.forIn_eq_forIn_range']
    simp only [Std.Legacy.Range.size, Nat.sub_zero, Nat.add_sub_cancel, Nat.div_one]
    rw [z1]
    simp only [List.range'_zero, List.forIn_nil]
    refine wpAny_pure ?_
    refine wpAny_pure ?_
    exact wpAny_pure ⟨_, rfl, (fun x => nomatch x), ⟨.bl true, H, J, rfl, q⟩⟩
/-- x == {}, x the owner of a dict -/
theorem td_eqT0 {dp : Pos} (i : Nat) (kvs : List (List Key × D)) (hu : X.A.units < cLine) (hN : X.N[i]? = some x) (h : S[i]? = some (some (.ownT kvs))) (q : QB kvs.isEmpty)
    (hm : behindInMarks .Eq (.Dict [] [] dp) = false := by rfl) (hv : Vis X.env.scope x := by first | exact Or.inl rfl | exact Or.inr (Or.inl rfl) | exact Or.inr (Or.inr rfl)) (hd : (x == ("__debug__" : Str)) = false := by decide) (hcd : (x == ("__classdict__" : Str)) = false := by decide) : TD X B S (.Compare (.Name x px) [.Eq] [.Dict [] [] dp] pos) QB := fun σ W H r R k0 => by
  refine PT.w (pt_cmpR (op_eqT0 hu) (pe_var hN hv hd hcd) pe_dnewT hm) ?_
  obtain ⟨v, e1, p, ws, rfl, hB, n, hI, hH, d0⟩ := r.sl i _ h
  refine ⟨_, e1, fun p2 hp => ?_⟩
  have s1 : Stp W H W (upd H p2 (.dT [])) := Stp.own hp
  have ok1 := r.ok.own (o := .dT []) hp
  refine ⟨p, p2, ws, rfl, rfl, .inl (s1.keep _ _ hH n), .inl upd_same, ?_⟩
  have e : ws.isEmpty = kvs.isEmpty := by cases d0 <;> rfl
  rw [e]
  exact ⟨_, rfl, (k0.step s1 ok1).now ok1 q⟩
end
end DL

set_option Elab.async false
set_option linter.all false
set_option maxRecDepth 100000
set_option maxHeartbeats 8000000
/-! k46: products of whole amounts -/
namespace K46
open PySem L2 DL
theorem bqN {a b : Nat} (h : a < 2 ^ b) (b1 : 1 ≤ b) : Bq b ((a : Nat) : Rat) := Bq.int (i := ((a : Nat) : Int)) (by rw [Int.natAbs_natCast]; exact h) b1
theorem prqN (a : Nat) : prq ((a : Nat) : Rat) = .tup [.int (a : Int), .int 1] := by
  show pr ((((a : Nat) : Rat)).num, (((((a : Nat) : Rat)).den : Nat) : Int)) = _
  rw [Rat.num_natCast, Rat.den_natCast]
  rfl
theorem amN_le {ns : List NEnt} {k : List Int} : amN ns k ≤ tot ns := by
  unfold amN
  cases h : ns.find? fun e => decide (e.1 = k) with
  | none => exact Nat.zero_le _
  | some e => exact le_tot (List.mem_of_find?_eq_some h)
theorem cs_fst (ns : List NEnt) : (cs ns).map (fun e => tI e.1) = ns.map fun e => tI e.1 := by unfold cs; rw [List.map_map]; rfl
theorem bnd {ns ps : List NEnt} {i j : Nat} {e : NEnt} (h : ns[i]? = some e) : tot (ns.take i) * tot ps + e.2 * tot (ps.take j) ≤ tot ns * tot ps := by
  have h1 := tot_take h
  have h2 := tot_take_le ns (i + 1)
  have h3 : e.2 * tot (ps.take j) ≤ e.2 * tot ps := Nat.mul_le_mul_left _ (tot_take_le ps j)
  have h4 : (tot (ns.take i) + e.2) * tot ps ≤ tot ns * tot ps := Nat.mul_le_mul_right _ (by omega)
  rw [Nat.add_mul] at h4
  omega
section
variable {P : Program} {w : World} {K : PySem.W.Frag} {mg : Str → Option Value} {base : Heap} {C CB : Addr}
abbrev spTimes : SpT := fun as Q => ∃ m n k : Nat, ∃ ns ps : List NEnt, as = [.val (.dcT (kvP (cs ns))), .val (.dcT (kvP (cs ps)))] ∧ 1 ≤ m ∧ m ≤ 4 ∧ n + k ≤ 4 ∧ NE m n ns ∧ NE m k ps ∧ tot ns * tot ps < 2 ^ 20 ∧ tot ns < 2 ^ 20 ∧ tot ps < 2 ^ 20 ∧ ∀ gs, NE m (n + k) gs → tot gs = tot ns * tot ps → Q (kvP (cs gs))
abbrev NTi : List Str := ["_law_one", "_law_other", "_law_found", "_law_near", "_law_far", "_law_counts_here", "_law_here", "_law_there"]
theorem sc_ti : FnScope NTi ["_law_one", "_law_other"] (defScope (top 53)) := ⟨rfl, rfl, rfl, by decide +kernel, rfl, by decide +kernel, by decide +kernel⟩
theorem ok_ti {f : Addr} {fd : FuncData} (F : FunS K "_law_times" "_law_times" (top 53) f fd) (T : Tb K mg C CB) (SU : Df P w K mg base "_law_sum" 2 2 (spFF addF)) (PRD : Df P w K mg base "_law_product" 2 2 (spFF mulF)) : GnOk P w K mg base 3 f fd ["_law_one", "_law_other"] (liftT K spTimes) := by
  refine gn_newT F sc_ti (fun as Q h => by obtain ⟨_, _, _, _, _, rfl, _⟩ := h; rfl) (fun cdv A outer s H hr hG W as Q h => ?_)
  obtain ⟨m, n, k, ns, ps, rfl, m1, m4, nk, hn, hp, bt, bn, bp, q⟩ := h
  have nd := sc_ti.nd
  have gn : GE m n 20 (cs ns) := hn.ge m4 (by omega) (fun e he => Nat.lt_of_le_of_lt (le_tot he) bn) (by decide)
  have gp : GE m k 20 (cs ps) := hp.ge m4 (by omega) (fun e he => Nat.lt_of_le_of_lt (le_tot he) bp) (by decide)
  obtain ⟨ns', pn, en⟩ := srt_cs ns
  obtain ⟨ps', pp, ep⟩ := srt_cs ps
  have hn' := hn.perm pn
  have hp' := hp.perm pp
  rw [← tot_perm pn, ← tot_perm pp] at bt q
  refine st_cons (sd_newT 2 nd rfl ?_)
  refine st_cons (sd_forL (l := ns'.map fun e => tI e.1) PassesOwn.never rfl (fun i S' => ∃ o3 o4 o5 o6 o7, ∃ gs, NE m (n + k) gs ∧ tot gs = tot (ns'.take i) * tot ps' ∧ S' = [some (.val (.dcT (kvP (cs ns)))), some (.val (.dcT (kvP (cs ps)))), some (.ownT (kvP (cs gs))), o3, o4, o5, o6, o7]) (ed_callB T.sorted (ad_cons (nm 0 (ad_nil (cd_skeys rfl m1 gn (by omega) ⟨by rw [en, cs_fst], none, none, none, none, none, [], NE.nil, by rw [List.take_zero]; show 0 = 0 * _; rw [Nat.zero_mul], rfl⟩))))) ?_ ?_)
  · rintro i d S' hi ⟨o3, o4, o5, o6, o7, gs0, hg0, tg0, rfl⟩
    obtain ⟨e, he, rfl⟩ : ∃ e, ns'[i]? = some e ∧ d = tI e.1 := by
      rw [List.getElem?_map] at hi
      cases h : ns'[i]? with
      | none => rw [h] at hi; cases hi
      | some x => rw [h] at hi; cases hi; exact ⟨x, rfl, rfl⟩
    have me' := List.mem_of_getElem? he
    have me : e ∈ ns := pn.mem_iff.mp me'
    have mc : ((e.1, ((e.2 : Nat) : Rat)) : Ent) ∈ cs ns := List.mem_map.mpr ⟨e, me, rfl⟩
    refine gd_name 3 nd rfl ?_
    refine sds_cons (sd_forL (l := ps'.map fun e => tI e.1) PassesOwn.never rfl (fun j S' => ∃ o4 o5 o6 o7, ∃ gs, NE m (n + k) gs ∧ tot gs = tot (ns'.take i) * tot ps' + e.2 * tot (ps'.take j) ∧ S' = [some (.val (.dcT (kvP (cs ns)))), some (.val (.dcT (kvP (cs ps)))), some (.ownT (kvP (cs gs))), some (.val (tI e.1)), o4, o5, o6, o7]) (ed_callB T.sorted (ad_cons (nm 1 (ad_nil (cd_skeys rfl m1 gp (by omega) ⟨by rw [ep, cs_fst], o4, o5, o6, o7, gs0, hg0, by rw [List.take_zero, tg0]; show _ = _ + e.2 * 0; rw [Nat.mul_zero, Nat.add_zero], rfl⟩))))) ?_ ?_)
    · rintro j d S' hj ⟨o4, o5, o6, o7, gs, hg, tg, rfl⟩
      obtain ⟨g, hgj, rfl⟩ : ∃ g, ps'[j]? = some g ∧ d = tI g.1 := by
        rw [List.getElem?_map] at hj
        cases h : ps'[j]? with
        | none => rw [h] at hj; cases hj
        | some x => rw [h] at hj; cases hj; exact ⟨x, rfl, rfl⟩
      have mg' := List.mem_of_getElem? hgj
      have mg2 : g ∈ ps := pp.mem_iff.mp mg'
      have mcg : ((g.1, ((g.2 : Nat) : Rat)) : Ent) ∈ cs ps := List.mem_map.mpr ⟨g, mg2, rfl⟩
      have lene : e.1.length = g.1.length := by rw [hn.len e me, hp.len g mg2]
      refine gd_name 4 nd rfl ?_
      refine sds_cons (sd_set 5 nd rfl (ed_callTy T.T.tuple (ad_cons (ed_fd (fd_relZ (l := e.1.map D.int) (l' := g.1.map D.int) (fun a b y => ∀ x z, a = .int x → b = .int z → y = .int (x + z)) 6 7 (own := [("_law_here", 6), ("_law_there", 7)]) rfl nd T.T.zip (blkOk_by (by show blkC NTi (defScope (top 53)) _ _ = true; decide +kernel)) (fun _ _ _ _ _ => pg_tup rfl (pgs_cons (pg_name (i := 6) nd rfl (Or.inl rfl)) (pgs_cons (pg_name (i := 7) nd rfl (Or.inl rfl)) pgs_nil rfl) rfl)) (by rw [List.length_map, List.length_map, lene]) (by rw [List.length_map, hn.len e me]; omega) (.inr rfl) (.inr rfl) (ad_cons (nm 3 (ad_cons (nm 4 (ad_nil rfl))))) (by simp) (by simp) ?_ ?_)))))
      · intro n' a b ha hb s2 H0 C2 cl fp
        obtain ⟨x, _, rfl⟩ := List.mem_map.mp (List.mem_of_getElem? ha)
        obtain ⟨y, _, rfl⟩ := List.mem_map.mp (List.mem_of_getElem? hb)
        refine ed_bin (nm 6 (nm 7 (od_add ?_)))
        intro x' y' h1 h2
        cases h1
        cases h2
        rfl
      · intro out lo ho
        rw [List.length_map] at lo
        have eo := zip_out (a := e.1) (b := g.1) lene lo fun n x y z h1 h2 h3 => ho n (.int x) (.int y) z (by rw [List.getElem?_map, h1]; rfl) (by rw [List.getElem?_map, h2]; rfl) h3 x y rfl rfl
        rw [eo]
        refine ad_nil (cd_tuple ?_)
        have few := hg.few m4 nk
        have bb := bnd (ps := ps') (j := j) he
        have am := amN_le (ns := gs) (k := plus e.1 g.1)
        have ea : e.2 ≤ tot ns := le_tot me
        have ga : g.2 ≤ tot ps := le_tot mg2
        have pg : e.2 * g.2 < 2 ^ 20 := by
          have h1 : e.2 * g.2 ≤ tot ns' * tot ps' := Nat.mul_le_mul (le_tot me') (le_tot mg')
          omega
        refine sds_cons (sd_putT 2 (kvP (cs gs)) (un1 hr) rfl rfl (by rw [kvP_len, cs_len]; omega) (ed_call SU hr hG ?_))
        refine ad_cons (ed_get2T 2 (kvP (cs gs)) (un1 hr) rfl rfl (nm 5 (ed_tup (ad_cons (ed_int (ad_cons (ed_int (ad_nil ⟨[.int 0, .int 1], rfl, by simp, ik (plus e.1 g.1), (tD_ik _).symm, ?_⟩))))))))
        rw [look_cs]
        refine ad_cons (ed_call PRD hr hG (ad_cons (ed_dget (un1 hr) (nm 0 (nm 3 ⟨_, ik e.1, _, rfl, (tD_ik _).symm, look_kvP gn.nd mc, ?_⟩)))))
        refine ad_cons (ed_dget (un1 hr) (nm 1 (nm 4 ⟨_, ik g.1, _, rfl, (tD_ik _).symm, look_kvP gp.nd mcg, ?_⟩)))
        refine ad_nil ⟨_, _, rfl, (gn.bq _ mc).le (by decide), (gp.bq _ mcg).le (by decide), ?_⟩
        rw [mulF_fr, ← Rat.natCast_mul]
        refine ad_nil ⟨_, _, rfl, (bqN (b := 20) (by omega) (by decide)).le (by decide), (bqN (b := 20) pg (by decide)).le (by decide), ?_⟩
        rw [addF_fr, ← Rat.natCast_add]
        refine nm 5 ⟨ik (plus e.1 g.1), (tD_ik _).symm, ?_⟩
        rw [put_kvP, ins_cs]
        refine sds_nil ⟨some (.val (tI g.1)), some (.val (tI (plus e.1 g.1))), o6, o7, insN gs (plus e.1 g.1) (amN gs (plus e.1 g.1) + e.2 * g.2), ?_, ?_, rfl⟩
        · refine ne_ins hg (by rw [plus_len lene, hn.len e me]) (plus_nn (hn.nn e me) (hp.nn g mg2)) ?_ ?_
          · rw [plus_sum lene, hn.sum e me, hp.sum g mg2]
            omega
          · have := Nat.mul_pos (hn.pos e me) (hp.pos g mg2)
            omega
        · rw [tot_ins hg.nd, tg, tot_take hgj, Nat.mul_add]
          omega
    · rintro S' ⟨o4, o5, o6, o7, gs, hg, tg, rfl⟩
      refine sds_nil ⟨some (.val (tI e.1)), o4, o5, o6, o7, gs, hg, ?_, rfl⟩
      rw [tg, List.length_map, List.take_length, tot_take he, Nat.add_mul]
  · rintro S' ⟨o3, o4, o5, o6, o7, gs, hg, tg, rfl⟩
    rw [List.length_map, List.take_length] at tg
    exact st_ret 2 rfl rfl (q gs hg tg)
end
end K46

set_option Elab.async false
set_option linter.all false
set_option maxRecDepth 100000
set_option maxHeartbeats 8000000
/-! k46: products of forms -/
namespace K46
open PySem L2 DL
section
variable {P : Program} {w : World} {K : PySem.W.Frag} {mg : Str → Option Value} {base : Heap} {C CB : Addr}
abbrev spForms : SpT := fun as Q => ∃ m n : Nat, as = [.pot, .val (.int (m : Int)), .val (.int (n : Int))] ∧ 1 ≤ m ∧ m ≤ 4 ∧ n ≤ 4 ∧ ∀ ns, NE m n ns → 0 < tot ns → tot ns ≤ 196608 → Q (kvP (cs ns))
abbrev NFo : List Str := ["_law_pot_here", "_law_size", "_law_degree", "_law_own", "_law_turn", "_law_sure", "_law_form", "_law_place", "_law_many", "_law_at"]
theorem sc_fo : FnScope NFo ["_law_pot_here", "_law_size", "_law_degree"] (defScope (top 54)) := ⟨rfl, rfl, rfl, by decide +kernel, rfl, by decide +kernel, by decide +kernel⟩
theorem pow16 {i : Nat} (h : i ≤ 4) : 3 * 16 ^ i ≤ 196608 := by
  have : 16 ^ i ≤ 16 ^ 4 := Nat.pow_le_pow_right (by decide) h
  omega
theorem ok_fo {f : Addr} {fd : FuncData} (F : FunS K "_law_forms" "_law_forms" (top 54) f fd) (T : Tb K mg C CB) (G : Df P w K mg base "_law_draw" 1 2 spDraw) (TI : NfT P w K mg base "_law_times" 3 spTimes) : GnOk P w K mg base 4 f fd ["_law_pot_here", "_law_size", "_law_degree"] (liftT K spForms) := by
  refine gn_newT F sc_fo (fun as Q h => by obtain ⟨_, _, rfl, _⟩ := h; rfl) (fun cdv A outer s H hr hG W as Q h => ?_)
  obtain ⟨m, n, rfl, m1, m4, n4, q⟩ := h
  have nd := sc_fo.nd
  refine st_cons (sd_ownT 3 nd rfl (ft_one (un1 hr) ?_))
  refine ed_callTy T.T.tuple (ad_cons (ed_fd (fd_repL (ed_lst (ad_cons (ed_int (ad_nil ⟨[.int 0], rfl, by simp, nm 1 ⟨[.int 0], m, rfl, rfl, by rw [List.length_singleton]; omega, by omega, ?_⟩⟩)))))))
  have e0 : (List.replicate m [D.int 0]).flatten = (List.replicate m (0 : Int)).map D.int := by simp
  rw [e0]
  refine ad_nil (cd_tuple ?_)
  refine ed_tup (ad_cons (ed_bin (ed_int (ed_call G (hr.mono (j := 1) (by decide)) hG (ad_pot 0 rfl rfl (ad_cons (ed_int (ad_nil ⟨3, rfl, by decide, by decide, fun d hd => od_add (ad_cons (ed_int (ad_nil ⟨[.int (1 + (d : Int)), .int 1], rfl, by simp, ik (List.replicate m 0), (tD_ik _).symm, ?_⟩)))⟩))))))))
  have eo : [(ik (List.replicate m 0), D.tup [.int (1 + (d : Int)), .int 1])] = kvP (cs [(List.replicate m 0, d + 1)]) := by
    show _ = [(ik (List.replicate m 0), prq (((d + 1 : Nat)) : Rat))]
    rw [prqN, show ((d + 1 : Nat) : Int) = 1 + (d : Int) by omega]
  rw [eo]
  refine st_cons (sd_forR (n := (n : Int)) PassesOwn.never rfl T.T.range (fun i S' => ∃ o4 o5 o6 o7 o8 o9, ∃ ns, NE m i ns ∧ 0 < tot ns ∧ tot ns ≤ 3 * 16 ^ i ∧ S' = [some .pot, some (.val (.int (m : Int))), some (.val (.int (n : Int))), some (.ownT (kvP (cs ns))), o4, o5, o6, o7, o8, o9]) (ad_cons (nm 2 (ad_nil ⟨rfl, by omega, by omega, none, none, none, none, none, none, _, ?_, ?_, ?_, rfl⟩))) ?_ ?_)
  · refine ⟨fun e he => ?_, fun e he => ?_, fun e he => ?_, fun e he => ?_, by simp⟩
    all_goals (rw [List.mem_singleton.mp he])
    · exact List.length_replicate
    · intro c hc
      rw [(List.mem_replicate.mp hc).2]
      exact Int.le_refl _
    · exact sum_rep0 m
    · exact Nat.succ_pos d
  · show 0 < (d + 1) + 0
    omega
  · show (d + 1) + 0 ≤ 3 * 1
    omega
  · rintro i S' hi ⟨o4, o5, o6, o7, o8, o9, ns, hn, t0, tl, rfl⟩
    have i4 : i < 4 := by omega
    refine gd_name 4 nd rfl ?_
    refine sds_cons (sd_parVT 5 6 (by decide) (ed_call G (hr.mono (j := 1) (by decide)) hG (ad_pot 0 rfl rfl (ad_cons (nm 1 (ad_nil ⟨(m : Int), rfl, by omega, by omega, fun sr hsr => ft_new ?_⟩))))) (ps_par rfl nd rfl rfl (by decide) rfl rfl (pa_cons we_pe (pa_cons we_pe pa_nil)) (by rfl)))
    refine sds_cons (sd_forR (n := (m : Int)) PassesOwn.never rfl T.T.range (fun j S' => ∃ o7 o8 o9, ∃ ps, NE m 1 ps ∧ (∀ e ∈ ps, ∃ i' : Nat, i' < j ∧ e.1 = unitv m i') ∧ tot ps ≤ 4 * j ∧ (sr < j → 0 < tot ps) ∧ S' = [some .pot, some (.val (.int (m : Int))), some (.val (.int (n : Int))), some (.ownT (kvP (cs ns))), some (.val (.int (i : Int))), some (.val (.int (sr : Int))), some (.ownT (kvP (cs ps))), o7, o8, o9]) (ad_cons (nm 1 (ad_nil ⟨rfl, by omega, by omega, o7, o8, o9, [], NE.nil, nofun, Nat.zero_le _, fun h => absurd h (Nat.not_lt_zero _), rfl⟩))) ?_ ?_)
    · rintro j S' hj ⟨o7, o8, o9, ps, hp, up, tp, sp, rfl⟩
      have jm : j < m := by omega
      refine gd_name 7 nd rfl ?_
      refine sds_cons (sd_mid (fun S' => ∃ a : Nat, a ≤ 4 ∧ (j = sr → 0 < a) ∧ S' = [some .pot, some (.val (.int (m : Int))), some (.val (.int (n : Int))), some (.ownT (kvP (cs ns))), some (.val (.int (i : Int))), some (.val (.int (sr : Int))), some (.ownT (kvP (cs ps))), some (.val (.int (j : Int))), some (.val (.int (a : Int))), o9]) ?_ (sd_set 8 nd rfl (ed_bin (ed_call G (hr.mono (j := 1) (by decide)) hG (ad_pot 0 rfl rfl (ad_cons (ed_int (ad_nil ⟨4, rfl, by decide, by decide, fun d2 hd2 => ed_ifx (td_cmp (nm 7 (nm 5 (od_eqi (kB ?_)))))⟩))))))))
      rotate_left
      · by_cases c : j = sr
        · rw [decide_eq_true (by rw [c])]
          show ED _ _ _ _ _
          exact ed_int (od_add ⟨d2 + 1, by omega, fun _ => Nat.succ_pos _, rfl⟩)
        · rw [decide_eq_false (by omega)]
          show ED _ _ _ _ _
          exact ed_int (od_add ⟨d2, by omega, fun h => absurd h c, by rw [Int.add_zero]; rfl⟩)
      rintro S' ⟨a, a4, ha, rfl⟩
      refine sds_cons (sd_if (td_cmp (nm 8 (ed_int (od_gt (kB ?_)))))) 
      have few := hp.few m4 (by decide)
      by_cases c : 0 < a
      · rw [decide_eq_true (by omega)]
        show SDs _ _ _ _ _ _
        refine sds_cons (sd_putT 6 (kvP (cs ps)) (un1 hr) rfl rfl (by rw [kvP_len, cs_len]; omega) (ed_tup (ad_cons (nm 8 (ad_cons (ed_int (ad_nil ⟨[.int (a : Int), .int 1], rfl, by simp, ?_⟩)))))))
        refine ed_callTy T.T.tuple (ad_cons (ed_fd (fd_mpR (n := m) (u := fun x => .int (if x = j then 1 else 0)) (own := [("_law_at", 9)]) 9 rfl nd T.T.range (blkOk_by (by show blkC NFo (defScope (top 54)) _ _ = true; decide +kernel)) (fun _ _ _ _ _ => pg_name (i := 9) nd rfl (Or.inl rfl)) (by simp) (by omega) (ad_cons (nm 1 (ad_nil rfl))) ?_ ?_)))
        · intro x hx s2 H0 C2 cl fp
          refine ed_ifx (td_cmp (nm 9 (nm 7 (od_eqi (kB ?_)))))
          by_cases c2 : x = j
          · rw [decide_eq_true (by rw [c2]), if_pos c2]
            show ED _ _ _ _ _
            exact ed_int rfl
          · rw [decide_eq_false (by omega), if_neg c2]
            show ED _ _ _ _ _
            exact ed_int rfl
        have eu : ((List.range m).map fun x => D.int (if x = j then 1 else 0)) = (unitv m j).map D.int := by unfold unitv; rw [List.map_map]; rfl
        rw [eu]
        refine ad_nil (cd_tuple ⟨ik (unitv m j), (tD_ik _).symm, ?_⟩)
        have no : unitv m j ∉ ps.map (·.1) := fun z => by
          obtain ⟨e, he, e2⟩ := List.mem_map.mp z
          obtain ⟨i', hi', e3⟩ := up e he
          have := unitv_inj m m4 i' (by omega) j jm (by rw [← e3, ← e2])
          omega
        rw [← prqN, put_kvP, ins_cs]
        have eN : insN ps (unitv m j) a = ps ++ [(unitv m j, a)] := by unfold insN; rw [if_neg no]
        have tN : tot (insN ps (unitv m j) a) = tot ps + a := by
          rw [eN]
          unfold tot
          rw [List.map_append, List.sum_append]
          simp
        refine sds_nil (sds_nil ⟨some (.val (.int (j : Int))), some (.val (.int (a : Int))), o9, insN ps (unitv m j) a, ne_ins hp unitv_len unitv_nn (unitv_sum m m4 j jm) c, fun e he => ?_, by rw [tN]; omega, fun _ => by rw [tN]; omega, rfl⟩)
        rcases insN_mem he with rfl | he
        · exact ⟨j, Nat.lt_succ_self _, rfl⟩
        · obtain ⟨i', hi', e3⟩ := up e he
          exact ⟨i', by omega, e3⟩
      · rw [decide_eq_false (by omega)]
        show SDs _ _ _ _ _ _
        refine sds_nil (sds_nil ⟨some (.val (.int (j : Int))), some (.val (.int (a : Int))), o9, ps, hp, fun e he => ?_, by omega, fun h => ?_, rfl⟩)
        · obtain ⟨i', hi', e3⟩ := up e he
          exact ⟨i', by omega, e3⟩
        · by_cases c2 : j = sr
          · exact absurd (ha c2) c
          · exact sp (by omega)
    · rintro S' ⟨o7, o8, o9, ps, hp, up, tp, sp, rfl⟩
      rw [Int.toNat_natCast] at tp sp
      have p0 := sp (by omega)
      have p16 : tot ps ≤ 16 := by omega
      have e16 : 3 * 16 ^ (i + 1) = (3 * 16 ^ i) * 16 := by rw [Nat.pow_succ, Nat.mul_assoc]
      have le := pow16 (i := i) (by omega)
      have le2 := pow16 (i := i + 1) (by omega)
      have pr1 : tot ns * tot ps ≤ (3 * 16 ^ i) * 16 := Nat.mul_le_mul tl p16
      refine sds_frzT 6 _ rfl (sds_frzT 3 _ rfl ?_)
      refine sds_cons (sd_ownT 3 nd rfl (ft_callT TI hr hG (ad_cons (nm 3 (ad_cons (nm 6 (ad_nil ⟨m, i, 1, ns, ps, rfl, m1, m4, by omega, hn, hp, by omega, by omega, by omega, fun gs hg tg => ?_⟩)))))))
      exact sds_nil ⟨_, _, _, _, _, _, gs, hg, by rw [tg]; exact Nat.mul_pos t0 p0, by rw [tg, e16]; exact pr1, rfl⟩
  · rintro S' ⟨o4, o5, o6, o7, o8, o9, ns, hn, t0, tl, rfl⟩
    rw [Int.toNat_natCast] at hn tl
    have le := pow16 n4
    exact st_ret 3 rfl rfl (q ns hn t0 (by omega))
end
end K46

set_option Elab.async false
set_option linter.all false
set_option maxRecDepth 100000
set_option maxHeartbeats 8000000
/-! k46: products without squares; the model -/
namespace K46
open PySem L2 DL
section
variable {X : Cx} {B : Hp} {S : En} {pos p2 : Pos} {Q : D → Prop} {e b : Expr}
theorem cd_min {i j : Int} {Q : D → Prop} (hc : X.calm = true) (q : Q (.int (if j < i then j else i))) : CD X (.builtin "min") [.val (.int i), .val (.int j)] Q := cd_of (call_min2 hc) fun vs W H ok ha R c => by
  obtain ⟨v, u, rfl, h, h'⟩ := two_args ha
  cases h; cases h'
  exact ⟨i, j, rfl, c.now ok (.int _) q⟩
/-- s[:i] of a text -/
theorem ed_slST (h : ED X B S e fun d => ED X B S b fun y => ∃ z : List Nat, ∃ j : Nat, d = .str (SX.S z) ∧ y = .int (j : Int) ∧ z.length ≤ 50000 ∧ Q (.str (SX.S (z.take j)))) : ED X B S (.Subscript e (.Slice none (some b) none p2) pos) Q := fun σ W H r R k => by
  refine PE.w (pe_slice C8.sl_txt we_pe po_none (po_some we_pe)) ?_
  refine h σ W H r _ fun d v W1 H1 s1 ok1 n1 q1 => ?_
  show WE X b σ H1 _
  refine q1 σ W1 H1 (r.step s1 ok1) _ fun d2 u W2 H2 s2 ok2 n2 q2 => ?_
  obtain ⟨z, j, rfl, rfl, hz, q2⟩ := q2
  cases n1
  cases n2
  refine ⟨_, rfl, SX.S z, rfl, Nat.le_trans (by rw [SX.S_len]; exact hz) (by decide), ?_⟩
  rw [SX.slice_to (by omega), Int.toNat_natCast]
  exact ((k.step s1 ok1).step s2 ok2).now ok2 (.str _) q2
theorem sd_ifAny {W0 : Wd} {c : Expr} {x y : List Stmt} {E : Ends'} (PB : Bool → Prop) (h : TD X B S c PB) (hx : PB true → SDs X B W0 S x E) (hy : PB false → SDs X B W0 S y E) : SD X B W0 S (.If c x y pos) E :=
  sd_if (fun σ W H r R k => h σ W H r R fun b W' H' s ok q => k b W' H' s ok (by
    cases b with
    | true => exact hx q
    | false => exact hy q))
end
section
variable {P : Program} {w : World} {K : PySem.W.Frag} {mg : Str → Option Value} {base : Heap} {C CB : Addr}
abbrev rD (r : List Int) : D := .lst (r.map D.int)
abbrev spBare : SpD := fun as Q => ∃ m n : Nat, as = [.pot, .val (.int (m : Int)), .val (.int (n : Int))] ∧ 1 ≤ m ∧ m ≤ 4 ∧ n ≤ 4 ∧ ∀ ns, NE m n ns → (∀ e ∈ ns, e.2 ≤ 3) → Q (.dcT (kvP (cs ns)))
abbrev NBa : List Str := ["_law_pot_here", "_law_size", "_law_degree", "_law_rows", "_law_own", "_law_place", "_law_row"]
theorem sc_ba : FnScope NBa ["_law_pot_here", "_law_size", "_law_degree"] (defScope (top 56)) := ⟨rfl, rfl, rfl, by decide +kernel, rfl, by decide +kernel, by decide +kernel⟩
theorem ok_ba {f : Addr} {fd : FuncData} (F : FunS K "_law_bare" "_law_bare" (top 56) f fd) (T : Tb K mg C CB) (G : Df P w K mg base "_law_draw" 1 2 spDraw) : GnOk P w K mg base 2 f fd ["_law_pot_here", "_law_size", "_law_degree"] (lift K spBare) := by
  refine gn_dl F sc_ba (fun as Q h => by obtain ⟨_, _, rfl, _⟩ := h; rfl) (fun cdv A outer s H hr hG W as Q h => ?_)
  obtain ⟨m, n, rfl, m1, m4, n4, q⟩ := h
  have nd := sc_ba.nd
  refine sds_cons (sd_parVT 3 4 (by decide) (ed_lst (ad_cons (ed_lst (ad_nil ⟨[], rfl, by simp, ad_nil ⟨[.lst []], rfl, by simp, ft_new ?_⟩⟩)))) (ps_par rfl nd rfl rfl (by decide) rfl rfl (pa_cons we_pe (pa_cons we_pe pa_nil)) (by rfl)))
  refine sds_cons (sd_forR (n := (m : Int)) PassesOwn.never rfl T.T.range (fun i S' => ∃ o5 o6, S' = [some .pot, some (.val (.int (m : Int))), some (.val (.int (n : Int))), some (.val (.lst ((rowsB i).map rD))), some (.ownT []), o5, o6]) (ad_cons (nm 1 (ad_nil ⟨rfl, by omega, by omega, none, none, rfl⟩))) ?_ ?_)
  · rintro i S' hi ⟨o5, o6, rfl⟩
    have ok := rowsB_ok i (by omega)
    have len := ok.1
    refine gd_name 5 nd rfl ?_
    refine sds_cons (sd_set 3 nd rfl (ed_bin (ed_fd (fd_mp (f := rD) (u := fun r => rD (r ++ [0])) (l := rowsB i) 6 rfl nd (own := [("_law_row", 6)]) (blkOk_by (by show blkC NBa (defScope (top 56)) _ _ = true; decide +kernel)) (fun _ _ _ _ _ => pg_name (i := 6) nd rfl (Or.inl rfl)) (by simp) (by omega) (.inl rfl) (nm 3 rfl) ?_ ?_))))
    · intro r hr' s2 H0 C2 cl fp
      refine ed_bin (nm 6 (ed_lst (ad_cons (ed_int (ad_nil ⟨[.int 0], rfl, by simp, od_catL (l := r.map D.int) (m := [.int 0]) (by rw [List.length_map, List.length_singleton, (ok.2 r hr').1]; omega) ?_⟩)))))
      show _ = D.lst _
      rw [List.map_append]
      rfl
    refine ed_fd (fd_mp (f := rD) (u := fun r => rD (r ++ [1])) (l := rowsB i) 6 rfl nd (own := [("_law_row", 6)]) (blkOk_by (by show blkC NBa (defScope (top 56)) _ _ = true; decide +kernel)) (fun _ _ _ _ _ => pg_name (i := 6) nd rfl (Or.inl rfl)) (by simp) (by omega) (.inl rfl) (nm 3 rfl) ?_ ?_)
    · intro r hr' s2 H0 C2 cl fp
      refine ed_bin (nm 6 (ed_lst (ad_cons (ed_int (ad_nil ⟨[.int 1], rfl, by simp, od_catL (l := r.map D.int) (m := [.int 1]) (by rw [List.length_map, List.length_singleton, (ok.2 r hr').1]; omega) ?_⟩)))))
      show _ = D.lst _
      rw [List.map_append]
      rfl
    refine od_catL (by rw [List.length_map, List.length_map]; omega) ?_
    refine sds_nil ⟨some (.val (.int (i : Int))), o6, ?_⟩
    have e : (rowsB i).map (fun r => rD (r ++ [0])) ++ (rowsB i).map (fun r => rD (r ++ [1])) = (rowsB (i + 1)).map rD := by
      show _ = ((rowsB i).map (· ++ [0]) ++ (rowsB i).map (· ++ [1])).map rD
      rw [List.map_append, List.map_map, List.map_map]
      rfl
    rw [e]
    rfl
  rintro S' ⟨o5, o6, rfl⟩
  rw [Int.toNat_natCast]
  have ok := rowsB_ok m m4
  refine sds_cons (sd_forL (l := (rowsB m).map rD) PassesOwn.never rfl (fun i S' => ∃ o6, ∃ ns, NE m n ns ∧ (∀ e ∈ ns, e.2 ≤ 3) ∧ S' = [some .pot, some (.val (.int (m : Int))), some (.val (.int (n : Int))), some (.val (.lst ((rowsB m).map rD))), some (.ownT (kvP (cs ns))), o5, o6]) (nm 3 ⟨rfl, o6, [], NE.nil, nofun, rfl⟩) ?_ ?_)
  · rintro i d S' hi ⟨o6, ns, hn, le3, rfl⟩
    obtain ⟨r, hr', rfl⟩ := List.mem_map.mp (List.mem_of_getElem? hi)
    obtain ⟨rl, rn⟩ := ok.2 r hr'
    refine gd_name 6 nd rfl ?_
    refine sds_cons (sd_ifAny (fun k => k = true → r.sum = (n : Int)) (td_of (tw_and (td_cmp (ed_callB T.sum (ad_cons (nm 6 (ad_nil (cd_sumS rfl (.inl rfl) (nm 2 (od_eqi (kB ?_)))))))))))  ?_ ?_)
    · by_cases c : r.sum = (n : Int)
      · rw [decide_eq_true c]
        show TW _ _ _ _ _
        refine tw_and1 (td_of (tw_or (td_eqT0 4 (kvP (cs ns)) hr.units0 rfl rfl ?_)))
        cases (kvP (cs ns)).isEmpty with
        | true => exact fun _ => c
        | false =>
          show TW _ _ _ _ _
          exact tw_or1 (td_cmp (ed_call G (hr.mono (j := 1) (by decide)) hG (ad_pot 0 rfl rfl (ad_cons (ed_int (ad_nil ⟨5, rfl, by decide, by decide, fun d hd => ed_int (od_gt (kB fun _ => c))⟩))))))
      · rw [decide_eq_false c]
        exact fun h => absurd h (by decide)
    · intro c
      have sm := c rfl
      have few := hn.few m4 n4
      refine sds_cons (sd_putT 4 (kvP (cs ns)) (un1 hr) rfl rfl (by rw [kvP_len, cs_len]; omega) ?_)
      refine ed_tup (ad_cons (ed_bin (ed_int (ed_call G (hr.mono (j := 1) (by decide)) hG (ad_pot 0 rfl rfl (ad_cons (ed_int (ad_nil ⟨3, rfl, by decide, by decide, fun d hd => od_add (ad_cons (ed_int (ad_nil ⟨[.int (1 + (d : Int)), .int 1], rfl, by simp, ?_⟩)))⟩))))))))
      refine ed_callTy T.T.tuple (ad_cons (nm 6 (ad_nil (cd_tuple ⟨ik r, (tD_ik _).symm, ?_⟩))))
      have e1 : D.tup [.int (1 + (d : Int)), .int 1] = prq (((d + 1 : Nat)) : Rat) := by
        rw [prqN, show ((d + 1 : Nat) : Int) = 1 + (d : Int) by omega]
      rw [e1, put_kvP, ins_cs]
      refine sds_nil (sds_nil ⟨_, insN ns r (d + 1), ne_ins hn rl rn sm (Nat.succ_pos _), fun e he => ?_, rfl⟩)
      rcases insN_mem he with rfl | he
      · show d + 1 ≤ 3
        omega
      · exact le3 e he
    · intro _
      exact sds_nil (sds_nil ⟨_, ns, hn, le3, rfl⟩)
  · rintro S' ⟨o6, ns, hn, le3, rfl⟩
    refine sds_frzT 4 _ rfl ?_
    exact sds_cons (sd_ret (nm 4 (q ns hn le3)))
/-! the model -/
def nmA : List (List Nat) := [[97], [97, 98], [97, 98, 99], [97, 98, 99, 100]]
def nmB : List (List Nat) := [[120], [98, 122], [98, 100, 102], [99, 103, 112, 113]]
theorem nm_ok (l : List (List Nat)) (hl : l = nmA ∨ l = nmB) : ∀ m : Nat, 1 ≤ m → m ≤ 4 → ∃ z, l[m - 1]? = some z ∧ LetZ z ∧ z.length = m := by
  have key : ∀ z : List Nat, (1 ≤ z.length ∧ z.length ≤ 8 ∧ (∀ c ∈ z, 97 ≤ c ∧ c ≤ 122) ∧ z.Pairwise (· < ·)) → LetZ z := fun z h => ⟨h.1, h.2.1, h.2.2.1, h.2.2.2⟩
  intro m h1 h4
  obtain rfl | rfl | rfl | rfl : m = 1 ∨ m = 2 ∨ m = 3 ∨ m = 4 := by omega
  all_goals rcases hl with rfl | rfl
  all_goals exact ⟨_, rfl, key _ (by decide), rfl⟩
theorem s_a : ("a" : Str) = SX.S [97] := by decide +kernel
theorem s_ab : ("ab" : Str) = SX.S [97, 98] := by decide +kernel
theorem s_abc : ("abc" : Str) = SX.S [97, 98, 99] := by decide +kernel
theorem s_abcd : ("abcd" : Str) = SX.S [97, 98, 99, 100] := by decide +kernel
theorem s_x : ("x" : Str) = SX.S [120] := by decide +kernel
theorem s_bz : ("bz" : Str) = SX.S [98, 122] := by decide +kernel
theorem s_bdf : ("bdf" : Str) = SX.S [98, 100, 102] := by decide +kernel
theorem s_cgpq : ("cgpq" : Str) = SX.S [99, 103, 112, 113] := by decide +kernel
theorem fr_of {a b : Int} (hb : 0 < b) (e : low a b = (a, b)) : fr (Rat.divInt a b) = (a, b) := by rw [← e, low_fr (by omega)]
theorem nine {a : Nat} (h : a ≤ 196608) {r : Rat} {t b : Int} (e : fr r = (t, b)) (t1 : 0 < t) (t9 : t ≤ 9) (b1 : 0 < b) (b3 : b ≤ 3) : Bq 22 (((a : Nat) : Rat) * r) := by
  have ea : fr ((a : Nat) : Rat) = ((a : Int), 1) := by
    show ((((a : Nat) : Rat)).num, (((((a : Nat) : Rat)).den : Nat) : Int)) = _
    rw [Rat.num_natCast, Rat.den_natCast]
    rfl
  show Bd 22 (fr _)
  rw [← mulF_fr, ea, e]
  show Bd 22 (low ((a : Int) * t) (1 * b))
  have h9 : (a : Int) * t ≤ 196608 * 9 := Int.mul_le_mul (by omega) t9 (by omega) (by decide)
  have h0 : 0 ≤ (a : Int) * t := Int.mul_nonneg (by omega) (by omega)
  exact low_bd (by omega) (by show _ < 4194304; omega) (by show _ < 4194304; omega)
abbrev spModel : SpD := fun as Q => as = [.pot, .val (.int 4), .val (.int 4)] ∧ ∀ z, ∀ m n : Nat, ∀ es b, LetZ z → z.length = m → n ≤ 4 → GE m n 22 es → es.length ≤ 50 → Q (.tup [.str (SX.S z), .dcT (kvP es), .bl b])
abbrev NMo : List Str := ["_law_pot_here", "_law_letters_most", "_law_degree_most", "_law_size", "_law_way", "_law_degree", "_law_names", "_law_own", "_law_counts_here"]
theorem sc_mo : FnScope NMo ["_law_pot_here", "_law_letters_most", "_law_degree_most"] (defScope (top 55)) := ⟨rfl, rfl, rfl, by decide +kernel, rfl, by decide +kernel, by decide +kernel⟩
theorem ok_mo {f : Addr} {fd : FuncData} (F : FunS K "_law_model" "_law_model" (top 55) f fd) (T : Tb K mg C CB) (G : Df P w K mg base "_law_draw" 1 2 spDraw) (PI : Df P w K mg base "_law_pick" 2 2 spPick) (PRD : Df P w K mg base "_law_product" 2 2 (spFF mulF)) (FO : NfT P w K mg base "_law_forms" 4 spForms) (BA : Df P w K mg base "_law_bare" 2 3 spBare) (AN : Df P w K mg base "_law_any" 4 4 spAny) : GnOk P w K mg base 5 f fd ["_law_pot_here", "_law_letters_most", "_law_degree_most"] (lift K spModel) := by
  refine gn_dl F sc_mo (fun as Q h => by obtain ⟨rfl, _⟩ := h; rfl) (fun cdv A outer s H hr hG W as Q h => ?_)
  obtain ⟨rfl, q⟩ := h
  have nd := sc_mo.nd
  refine sds_cons (sd_mid (fun S' => ∃ m wy : Nat, 1 ≤ m ∧ m ≤ 4 ∧ S' = [some .pot, some (.val (.int 4)), some (.val (.int 4)), some (.val (.int (m : Int))), some (.val (.int (wy : Int))), none, none, none, none]) ?_ (sd_par 3 4 rfl nd rfl rfl (by decide) rfl rfl ?_))
  rotate_left
  · refine ad_cons (ed_callB T.T.max (ad_cons (ed_int (ad_cons (ed_callB T.min (ad_cons (nm 1 (ad_cons (ed_call G (hr.mono (j := 1) (by decide)) hG (ad_pot 0 rfl rfl (ad_cons (ed_bin (nm 1 (ed_int (od_add (ad_nil ⟨6, rfl, by decide, by decide, fun d hd => ad_nil (cd_min rfl (ad_nil (cd_max rfl ?_)))⟩))))))))))))))))
    refine ad_cons (ed_call G (hr.mono (j := 1) (by decide)) hG (ad_pot 0 rfl rfl (ad_cons (ed_int (ad_nil ⟨6, rfl, by decide, by decide, fun wy hw => ad_nil ⟨_, _, rfl, (if (if (d : Int) < 4 then (d : Int) else 4) > 1 then (if (d : Int) < 4 then (d : Int) else 4) else 1).toNat, wy, ?_, ?_, ?_⟩⟩)))))
    · split <;> split <;> omega
    · split <;> split <;> omega
    · have e : (((if (if (d : Int) < 4 then (d : Int) else 4) > 1 then (if (d : Int) < 4 then (d : Int) else 4) else 1).toNat : Nat) : Int) = (if (if (d : Int) < 4 then (d : Int) else 4) > 1 then (if (d : Int) < 4 then (d : Int) else 4) else 1) := by
        split <;> split <;> omega
      rw [e]
      rfl
  rintro S' ⟨m, wy, m1, m4, rfl⟩
  refine sds_cons (sd_mid (fun S' => ∃ n : Nat, n ≤ 4 ∧ S' = [some .pot, some (.val (.int 4)), some (.val (.int 4)), some (.val (.int (m : Int))), some (.val (.int (wy : Int))), some (.val (.int (n : Int))), none, none, none]) ?_ (sd_set 5 nd rfl (ed_callB T.min (ad_cons (nm 2 ?_)))))
  rotate_left
  · refine ad_cons (ed_call PI (hr.mono (j := 2) (by decide)) hG (ad_pot 0 rfl rfl ?_))
    refine ad_cons (ed_lst ?_)
    refine ad_cons (ed_int ?_)
    refine ad_cons (ed_int ?_)
    refine ad_cons (ed_int ?_)
    refine ad_cons (ed_int ?_)
    refine ad_cons (ed_int ?_)
    refine ad_cons (ed_int ?_)
    refine ad_cons (ed_int ?_)
    refine ad_cons (ed_int ?_)
    refine ad_cons (ed_int ?_)
    refine ad_nil ⟨[.int 0, .int 1, .int 2, .int 2, .int 3, .int 3, .int 3, .int 4, .int 4], rfl, by simp, ad_nil ⟨_, rfl, by simp, by simp, fun x hx => ?_⟩⟩
    have hx2 : ∃ n : Nat, x = .int (n : Int) ∧ n ≤ 4 := by
      simp only [List.mem_cons, List.not_mem_nil, or_false] at hx
      rcases hx with rfl | rfl | rfl | rfl | rfl | rfl | rfl | rfl | rfl
      · exact ⟨0, rfl, by decide⟩
      · exact ⟨1, rfl, by decide⟩
      · exact ⟨2, rfl, by decide⟩
      · exact ⟨2, rfl, by decide⟩
      · exact ⟨3, rfl, by decide⟩
      · exact ⟨3, rfl, by decide⟩
      · exact ⟨3, rfl, by decide⟩
      · exact ⟨4, rfl, by decide⟩
      · exact ⟨4, rfl, by decide⟩
    obtain ⟨n, rfl, n4⟩ := hx2
    refine ad_nil (cd_min rfl ⟨n, n4, ?_⟩)
    have e : (if (n : Int) < 4 then (n : Int) else 4) = (n : Int) := by split <;> omega
    rw [e]
    rfl
  rintro S' ⟨n, n4, rfl⟩
  refine sds_cons (sd_mid (fun S' => ∃ z, LetZ z ∧ z.length = m ∧ S' = [some .pot, some (.val (.int 4)), some (.val (.int 4)), some (.val (.int (m : Int))), some (.val (.int (wy : Int))), some (.val (.int (n : Int))), some (.val (.str (SX.S z))), none, none]) ?_ (sd_set 6 nd rfl (ed_ix (ed_call PI (hr.mono (j := 2) (by decide)) hG (ad_pot 0 rfl rfl ?_)))))
  rotate_left
  · refine ad_cons (ed_lst ?_)
    refine ad_cons (ed_lst ?_)
    refine ad_cons (ed_str ?_)
    refine ad_cons (ed_str ?_)
    refine ad_cons (ed_str ?_)
    refine ad_cons (ed_str ?_)
    refine ad_nil ⟨[.str "a", .str "ab", .str "abc", .str "abcd"], rfl, by simp, ?_⟩
    refine ad_cons (ed_lst ?_)
    refine ad_cons (ed_str ?_)
    refine ad_cons (ed_str ?_)
    refine ad_cons (ed_str ?_)
    refine ad_cons (ed_str ?_)
    refine ad_nil ⟨[.str "x", .str "bz", .str "bdf", .str "cgpq"], rfl, by simp, ?_⟩
    refine ad_nil ⟨[.lst [.str "a", .str "ab", .str "abc", .str "abcd"], .lst [.str "x", .str "bz", .str "bdf", .str "cgpq"]], rfl, by simp, ad_nil ⟨_, rfl, by simp, by simp, fun x hx => ?_⟩⟩
    have hx2 : ∃ l, (l = nmA ∨ l = nmB) ∧ x = .lst (l.map fun z => .str (SX.S z)) := by
      simp only [List.mem_cons, List.not_mem_nil, or_false] at hx
      rcases hx with rfl | rfl
      · exact ⟨nmA, .inl rfl, by rw [s_a, s_ab, s_abc, s_abcd]; rfl⟩
      · exact ⟨nmB, .inr rfl, by rw [s_x, s_bz, s_bdf, s_cgpq]; rfl⟩
    obtain ⟨l, hl, rfl⟩ := hx2
    obtain ⟨z, ez, hz, zm⟩ := nm_ok l hl m m1 m4
    refine ed_bin (nm 3 (ed_int (od_sub ⟨_, _, .str (SX.S z), .inl rfl, rfl, ?_, z, hz, zm, rfl⟩)))
    rw [show (m : Int) - 1 = ((m - 1 : Nat) : Int) by omega]
    exact atI_nat (by rw [List.getElem?_map, ez]; rfl)
  rintro S' ⟨z, hz, zm, rfl⟩
  refine sds_cons (sd_if (td_cmp (nm 4 (ed_int (od_eqi (kB ?_))))))
  by_cases c0 : (wy : Int) = 0
  · rw [decide_eq_true c0]
    show SDs _ _ _ _ _ _
    refine sds_cons (sd_ret (ed_tup (ad_cons (nm 6 (ad_cons (ed_ft (ft_callT FO hr hG (ad_pot 0 rfl rfl (ad_cons (nm 3 (ad_cons (nm 5 (ad_nil ⟨m, n, rfl, m1, m4, n4, fun ns hn t0 tl => ad_cons (ed_bl (ad_nil ⟨[.str (SX.S z), .dcT (kvP (cs ns)), .bl true], rfl, by simp, ?_⟩))⟩)))))))))))))
    refine q z m n (cs ns) true hz zm n4 (hn.ge m4 n4 (fun e he => ?_) (by decide)) (by rw [cs_len]; have := hn.few m4 n4; omega)
    have := le_tot he
    show _ < 4194304
    omega
  rw [decide_eq_false c0]
  show SDs _ _ _ _ _ _
  refine sds_nil (sds_cons (sd_if (td_cmp (nm 4 (ed_int (od_eqi (kB ?_)))))))
  by_cases c1 : (wy : Int) = 1
  · rw [decide_eq_true c1]
    show SDs _ _ _ _ _ _
    refine sds_cons (sd_ownT 7 nd rfl (ft_callT FO hr hG (ad_pot 0 rfl rfl (ad_cons (nm 3 (ad_cons (nm 5 (ad_nil ⟨m, n, rfl, m1, m4, n4, fun ns hn t0 tl => ?_⟩))))))))
    have few := hn.few m4 n4
    have gn : GE m n 22 (cs ns) := hn.ge m4 n4 (fun e he => by have := le_tot he; show _ < 4194304; omega) (by decide)
    refine sds_cons (sd_set 8 nd rfl (ed_call PI (hr.mono (j := 2) (by decide)) hG (ad_pot 0 rfl rfl (ad_cons (ed_sortOwnT (dd := m) (Bb := 9) (ls := (cs ns).map (·.1)) 7 (kvP (cs ns)) rfl T.sorted rfl rfl m1 (by rw [kvP_keys, List.map_map]; rfl) (by rw [List.length_map, cs_len]; omega) (fun l hl => ?_) (fun ls' pm pw => ?_) rfl (pe_callB (cr_sortK rfl m1) rfl T.sorted (by first | rfl | decide +kernel) (pa_cons (pe_var (by rfl) (by first | exact Or.inl rfl | exact Or.inr (Or.inl rfl) | exact Or.inr (Or.inr rfl))) pa_nil)))))))
    · obtain ⟨x, hx, rfl⟩ := List.mem_map.mp hl
      exact ⟨gn.len x hx, gn.bd (by omega) hx⟩
    have lp := pm.length_eq
    rw [List.length_map, cs_len] at lp
    have pos : 0 < ns.length := by
      cases ns with
      | nil => exact absurd t0 (by decide)
      | cons _ _ => exact Nat.succ_pos _
    refine ad_nil ⟨_, rfl, by rw [List.length_map]; omega, by rw [List.length_map]; omega, fun x hx => ?_⟩
    obtain ⟨k, hk, rfl⟩ := List.mem_map.mp hx
    obtain ⟨e0, me0, rfl⟩ := List.mem_map.mp (pm.mem_iff.mp hk)
    obtain ⟨e, me, rfl⟩ := List.mem_map.mp me0
    refine sds_cons (sd_putT 7 (kvP (cs ns)) (un1 hr) rfl rfl (by rw [kvP_len, cs_len]; omega) (ed_call PRD (hr.mono (j := 2) (by decide)) hG (ad_cons (ed_getT 7 (kvP (cs ns)) (un1 hr) rfl rfl (nm 8 ⟨ik e.1, _, (tD_ik _).symm, look_kvP gn.nd me0, ?_⟩)))))
    refine ad_cons (ed_call PI (hr.mono (j := 2) (by decide)) hG (ad_pot 0 rfl rfl ?_))
    refine ad_cons ?_
    refine ed_lst ?_
    refine ad_cons (ed_tup (ad_cons (ed_int (ad_cons (ed_int (ad_nil ⟨[.int 1, .int 3], rfl, by simp, ?_⟩))))))
    refine ad_cons (ed_tup (ad_cons (ed_int (ad_cons (ed_int (ad_nil ⟨[.int 1, .int 2], rfl, by simp, ?_⟩))))))
    refine ad_cons (ed_tup (ad_cons (ed_int (ad_cons (ed_int (ad_nil ⟨[.int 2, .int 1], rfl, by simp, ?_⟩))))))
    refine ad_cons (ed_tup (ad_cons (ed_int (ad_cons (ed_int (ad_nil ⟨[.int 3, .int 1], rfl, by simp, ?_⟩))))))
    refine ad_cons (ed_tup (ad_cons (ed_int (ad_cons (ed_int (ad_nil ⟨[.int 9, .int 1], rfl, by simp, ?_⟩))))))
    refine ad_nil ⟨[.tup [.int 1, .int 3], .tup [.int 1, .int 2], .tup [.int 2, .int 1], .tup [.int 3, .int 1], .tup [.int 9, .int 1]], rfl, by simp, ad_nil ⟨_, rfl, by simp, by simp, fun x hx => ?_⟩⟩
    have hx2 : ∃ t b : Int, x = prq (Rat.divInt t b) ∧ fr (Rat.divInt t b) = (t, b) ∧ 0 < t ∧ t ≤ 9 ∧ 0 < b ∧ b ≤ 3 := by
      simp only [List.mem_cons, List.not_mem_nil, or_false] at hx
      have key : ∀ t b : Int, 0 < t → t ≤ 9 → 0 < b → b ≤ 3 → low t b = (t, b) → ∃ t' b' : Int, D.tup [.int t, .int b] = prq (Rat.divInt t' b') ∧ fr (Rat.divInt t' b') = (t', b') ∧ 0 < t' ∧ t' ≤ 9 ∧ 0 < b' ∧ b' ≤ 3 := fun t b h1 h2 h3 h4 e => by
        have ef := fr_of h3 e
        exact ⟨t, b, by show _ = pr (fr _); rw [ef]; rfl, ef, h1, h2, h3, h4⟩
      rcases hx with rfl | rfl | rfl | rfl | rfl
      · exact key 1 3 (by decide) (by decide) (by decide) (by decide) (by decide +kernel)
      · exact key 1 2 (by decide) (by decide) (by decide) (by decide) (by decide +kernel)
      · exact key 2 1 (by decide) (by decide) (by decide) (by decide) (by decide +kernel)
      · exact key 3 1 (by decide) (by decide) (by decide) (by decide) (by decide +kernel)
      · exact key 9 1 (by decide) (by decide) (by decide) (by decide) (by decide +kernel)
    obtain ⟨t, b, rfl, ef, t1, t9, b1, b3⟩ := hx2
    have rp : 0 < Rat.divInt t b := dv_pos t1 b1
    have bqr : Bq 22 (Rat.divInt t b) := by
      have := low_bd (t := t) (b := b) (n := 22) (by omega) (by show _ < 4194304; omega) (by show _ < 4194304; omega)
      rw [low_fr (by omega)] at this
      exact this
    refine ad_nil ⟨_, _, rfl, (gn.bq _ me0).le (by decide), bqr.le (by decide), ?_⟩
    rw [mulF_fr]
    refine nm 8 ⟨ik e.1, (tD_ik _).symm, ?_⟩
    rw [put_kvP]
    have el := le_tot me
    have gi : GE m n 22 (insP (cs ns) e.1 (((e.2 : Nat) : Rat) * Rat.divInt t b)) := ge_ins gn (hn.len e me) (hn.nn e me) (hn.sum e me) (Rat.mul_pos (gn.pos _ me0) rp) (nine (by omega) ef t1 t9 b1 b3) (by rw [cs_len]; omega)
    have il : (insP (cs ns) e.1 (((e.2 : Nat) : Rat) * Rat.divInt t b)).length ≤ 50 := Nat.le_trans ins_len (by rw [cs_len]; omega)
    refine sds_frzT 7 _ rfl ?_
    exact sds_cons (sd_ret (ed_tup (ad_cons (nm 6 (ad_cons (nm 7 (ad_cons (ed_bl (ad_nil ⟨[.str (SX.S z), .dcT (kvP (insP (cs ns) e.1 (((e.2 : Nat) : Rat) * Rat.divInt t b))), .bl false], rfl, by simp, q z m n _ false hz zm n4 gi il⟩)))))))))
  rw [decide_eq_false c1]
  show SDs _ _ _ _ _ _
  refine sds_nil (sds_cons (sd_ifAny (fun _ => True) (td_of (tw_and (td_cmp (nm 4 (ed_int (od_eqi (kB ?_))))))) (fun _ => ?_) (fun _ => ?_)))
  · cases decide ((wy : Int) = 2) with
    | true =>
      show TW _ _ _ _ _
      exact tw_and1 (td_cmp (nm 5 (nm 3 (od_le (kB trivial)))))
    | false => trivial
  · refine sds_cons (sd_ret (ed_tup (ad_cons (nm 6 (ad_cons (ed_call BA (hr.mono (j := 2) (by decide)) hG (ad_pot 0 rfl rfl (ad_cons (nm 3 (ad_cons (nm 5 (ad_nil ⟨m, n, rfl, m1, m4, n4, fun ns hn le3 => ad_cons (ed_bl (ad_nil ⟨[.str (SX.S z), .dcT (kvP (cs ns)), .bl false], rfl, by simp, ?_⟩))⟩))))))))))))
    refine q z m n (cs ns) false hz zm n4 (hn.ge m4 n4 (fun e he => ?_) (by decide)) (by rw [cs_len]; have := hn.few m4 n4; omega)
    have := le3 e he
    show _ < 4194304
    omega
  · refine sds_nil (sds_cons (sd_ret (ed_tup (ad_cons (nm 6 (ad_cons (ed_call AN hr hG (ad_pot 0 rfl rfl (ad_cons (nm 3 (ad_cons (nm 5 (ad_cons (ed_int (ad_nil ⟨m, n, 5, rfl, m1, by omega, by omega, by decide, by decide, fun es ge ne le => ad_cons (ed_bl (ad_nil ⟨[.str (SX.S z), .dcT (kvP es), .bl false], rfl, by simp, ?_⟩))⟩)))))))))))))))
    exact q z m n es false hz zm n4 (ge.mono (by decide)) (by omega)
end
end K46

set_option Elab.async false
set_option linter.all false
set_option maxRecDepth 100000
set_option maxHeartbeats 8000000
/-! k46: the law -/
namespace K46
open PySem L2 DL
section
variable {P : Program} {w : World} {K : PySem.W.Frag} {mg : Str → Option Value} {base : Heap} {C CB : Addr}
theorem s_bd : ("bd" : Str) = SX.S [98, 100] := by decide +kernel
theorem s_pqrs : ("pqrs" : Str) = SX.S [112, 113, 114, 115] := by decide +kernel
theorem let_bd : LetZ [98, 100] := ⟨by decide, by decide, by decide, by decide⟩
theorem let_pqrs {d : Nat} (h : d < 4) : LetZ ([112, 113, 114, 115].take (d + 1)) ∧ ([112, 113, 114, 115].take (d + 1)).length = d + 1 := by
  obtain rfl | rfl | rfl | rfl : d = 0 ∨ d = 1 ∨ d = 2 ∨ d = 3 := by omega
  all_goals exact ⟨⟨by decide, by decide, by decide, by decide⟩, rfl⟩
abbrev NRi : List Str := ["_law_pot_here", "_law_letters", "_law_own", "_law_is_sure", "_law_size"]
theorem sc_right : FnScope NRi ["_law_pot_here"] (defScope (top 63)) := ⟨rfl, rfl, rfl, by decide +kernel, rfl, by decide +kernel, by decide +kernel⟩
abbrev spRight : SpD := fun as Q => as = [.pot] ∧ Q (.bl true)
theorem ok_right {f : Addr} {fd : FuncData} (F : FunS K "_law_right" "_law_right" (top 63) f fd) (G : Df P w K mg base "_law_draw" 1 2 spDraw) (AN : Df P w K mg base "_law_any" 4 4 spAny) (MO : Df P w K mg base "_law_model" 5 3 spModel) (OR : Df P w K mg base "_law_one_right" 12 3 spOR) : GnOk P w K mg base 13 f fd ["_law_pot_here"] (lift K spRight) := by
  refine gn_dl F sc_right (fun as Q h => by obtain ⟨rfl, _⟩ := h; rfl) (fun cdv A outer s H hr hG W as Q h => ?_)
  obtain ⟨rfl, q⟩ := h
  have nd := sc_right.nd
  refine sds_cons (sd_asg (ed_call MO (hr.mono (j := 5) (by decide)) hG (ad_pot 0 rfl rfl (ad_cons (ed_int (ad_cons (ed_int (ad_nil ⟨rfl, fun z m n es b hz zm n4 ge l50 => gd_tup rfl (gds_cons (gd_name 1 nd rfl (gds_cons (gd_name 2 nd rfl (gds_cons (gd_name 3 nd rfl (gds_nil ?_))))))) rfl⟩))))))))
  refine sds_cons (sd_if (td_of (tw_or (td_not (td_val (ed_call OR hr hG (ad_pot 0 rfl rfl (ad_cons (nm 1 (ad_cons (nm 2 (ad_nil ⟨z, m, n, es, rfl, hz, zm, by omega, ge, l50, kB ?_⟩))))))))))))
  show TW _ _ _ _ _
  refine tw_or1 (td_not (td_val (ed_call OR hr hG (ad_pot 0 rfl rfl (ad_cons (ed_str (ad_cons (ed_ft (ft_new (ad_nil ⟨[98, 100], 2, 0, [], by rw [s_bd]; rfl, let_bd, rfl, by decide, GE.nil, by decide, kB ?_⟩))))))))))
  show SDs _ _ _ _ _ _
  refine sds_nil ?_
  refine sds_cons (sd_set 4 nd rfl (ed_bin (ed_int (ed_call G (hr.mono (j := 1) (by decide)) hG (ad_pot 0 rfl rfl (ad_cons (ed_int (ad_nil ⟨4, rfl, by decide, by decide, fun d hd => od_add ?_⟩))))))))
  have d4 : d < 4 := by omega
  obtain ⟨lz, ll⟩ := let_pqrs d4
  have e1 : (1 : Int) + (d : Int) = ((d + 1 : Nat) : Int) := by omega
  rw [e1]
  refine sds_cons (sd_ret (ed_call OR hr hG (ad_pot 0 rfl rfl (ad_cons (ed_slST (ed_str (nm 4 ⟨[112, 113, 114, 115], d + 1, by rw [s_pqrs], rfl, by decide, ?_⟩)))))))
  refine ad_cons (ed_call AN (hr.mono (j := 4) (by decide)) hG (ad_pot 0 rfl rfl (ad_cons (nm 4 (ad_cons (ed_call G (hr.mono (j := 1) (by decide)) hG (ad_pot 0 rfl rfl (ad_cons (ed_int (ad_nil ⟨9, rfl, by decide, by decide, fun n2 hn2 => ad_cons (ed_int (ad_nil ⟨d + 1, n2, 6, rfl, by omega, by omega, by omega, by decide, by decide, fun es2 ge2 ne2 le2 => ?_⟩))⟩))))))))))
  exact ad_nil ⟨_, d + 1, n2, es2, rfl, lz, ll, by omega, ge2.mono (by decide), by omega, q⟩
abbrev spLaw : SpD := fun as Q => ∃ ns : List Int, as = [.val (.frl ns)] ∧ Q (.bl true)
theorem sc_law : FnScope ["_law_script", "_law_k"] ["_law_script"] (defScope (top 64)) := ⟨rfl, rfl, rfl, by decide +kernel, rfl, by decide +kernel, by decide +kernel⟩
theorem ok_law {f : Addr} {fd : FuncData} (F : FunS K "law" "law" (top 64) f fd) (T : Tb K mg C CB) (Pt : Nf P w K mg base "_law_pot" 1 spPot) (R : Df P w K mg base "_law_right" 13 1 spRight) : GnOk P w K mg base 14 f fd ["_law_script"] (lift K spLaw) := by
  refine gn_dl F sc_law (fun as Q h => by obtain ⟨_, rfl, _⟩ := h; rfl) (fun cdv A outer s H hr hG W as Q h => ?_)
  obtain ⟨ns, rfl, q⟩ := h
  have nd := sc_law.nd
  obtain ⟨n, hn, n2⟩ : ∃ n : Nat, (if (if (ns.length : Int) < 2 then (ns.length : Int) else 2) > 1 then (if (ns.length : Int) < 2 then (ns.length : Int) else 2) else 1) = (n : Int) ∧ n ≤ 2 := by
    refine ⟨(if (if (ns.length : Int) < 2 then (ns.length : Int) else 2) > 1 then (if (ns.length : Int) < 2 then (ns.length : Int) else 2) else 1).toNat, ?_, ?_⟩
    · split <;> split at * <;> omega
    · split <;> split at * <;> omega
  refine sds_cons (sd_ret (ed_callB T.T.all (ad_cons (ed_fd (fd_relR (n := n) (fun _ y => y = .bl true) 1 (own := [("_law_k", 1)]) rfl nd T.T.range (blkOk_by (by show blkC ["_law_script", "_law_k"] (defScope (top 64)) _ _ = true; decide +kernel)) (fun _ _ _ _ _ => pg_name (i := 1) nd rfl (Or.inl rfl)) (by omega) ?_ (by simp) ?_ ?_)))))
  · refine ad_cons (ed_callB T.T.max (ad_cons (ed_int (ad_cons (ed_callB T.min (ad_cons (ed_int (ad_cons (ed_callB T.T.len (ad_cons (nm 0 (ad_nil (cd_lenF (ad_nil (cd_min rfl (ad_nil (cd_max rfl (ad_nil ?_))))))))))))))))))
    rw [hn]
  · intro i hi s2 H0 C2 cl fp
    exact ed_call R hr hG (ad_newpot (fd_callN Pt (hr.mono (j := 1) (by decide)) hG (ad_cons (nm 0 (ad_cons (nm 1 (ad_nil ⟨ns, i, rfl, by omega, fun a b h => ⟨a, b, rfl, h, ad_nil ⟨rfl, rfl⟩⟩⟩)))))))
  · intro out ho
    refine ad_nil (cd_allT rfl (fun y hy => ?_) q)
    obtain ⟨i, hi, e⟩ := List.getElem_of_mem hy
    obtain ⟨y', e1, p⟩ := ho.2 i (by rw [← ho.1]; exact hi)
    rw [List.getElem?_eq_getElem hi] at e1
    cases e1
    rw [← e]
    exact p
end
end K46

set_option Elab.async false
set_option linter.all false
set_option maxRecDepth 100000
set_option maxHeartbeats 8000000
/-! k46: what the top has written, put together -/
namespace K46
open PySem L2 DL PySem.Spec PyProof.Rows
theorem kit_ref {K : PySem.W.Frag} {t : Value} {C : Addr} {b : Bool} (hd : PySem.W.hasDictIn K C = true) (ty : PySem.W.typeIn K (.ref C) = some (.type "type")) (n : ¬ t = .ref C) (s : PySem.W.subIn K t (.ref C) = some b) : PySem.W.kitOne K t (.ref C) = some b := by
  obtain ⟨cd, hc, _⟩ := PySem.W.any_some hd
  unfold PySem.W.kitOne
  rw [if_neg (by simpa using n)]
  show (if ((PySem.W.clsIn K C).isSome && PySem.W.typeIn K (.ref C) == some (.type "type")) = true then PySem.W.subIn K t (.ref C) else none) = some b
  rw [hc, ty, if_pos (by simp)]
  exact s
theorem kit_tyc {K : PySem.W.Frag} {C : Addr} {T : String} {b : Bool} (m : PySem.W.kitMeta T = true) (s : PySem.W.subIn K (.ref C) (.type T) = some b) : PySem.W.kitOne K (.ref C) (.type T) = some b := by
  unfold PySem.W.kitOne
  rw [if_neg (by simp)]
  show (if PySem.W.kitMeta T = true then PySem.W.subIn K (.ref C) (.type T) else none) = some b
  rw [if_pos m]
  exact s
theorem fun_kbn {K : PySem.W.Frag} {x qual : Str} {st : Stmt} {f : Addr} {fd : FuncData} {ps : List Str} {n : Nat} {ks : List Str} (F : Fun K x qual st f fd)
    (h : ∀ (kV doc pm : Value) (an : Option Addr) (cdv ct : Value) (us ws : List Value), us.length = n → ws.length = ks.length → bindArgs (PySem.W.fnOf x qual (defArgs st) (defBody st) (defScope st) .none kV doc pm an cdv ct) ⟨us, ks.zip ws⟩ = pure (ps.zip (us ++ ws))) :
    KBn K fd ps n ks (fun us ws => us ++ ws) (fun vs zs => vs ++ zs) := by
  obtain ⟨oc, od, kV, doc, pm, an, cdv, ct, osl, rfl, lk, hcd⟩ := F.ex
  exact ⟨fun s us ws _ l1 l2 => .of_eq (h kV doc pm an cdv ct us ws l1 l2), fun r1 r2 => r1.append r2⟩
theorem fund1 {K : PySem.W.Frag} {x qual : Str} {st : Stmt} {f T : Addr} {oc : Value} {od an : Option Addr} {osl : Array (Option Value)} {kV doc pm cdv ct : Value} {tk : Tok} {oT : Value} {dT : Option Addr} {n : Nat} {sT : Array (Option Value)}
    (l : K.lookup f = some ⟨oc, od, .func (PySem.W.fnOf x qual (defArgs st) (defBody st) (defScope st) (.ref T) kV doc pm an cdv ct), osl⟩) (c : PySem.W.codeIn K cdv qual = true) (k : PySem.W.keepIn K (.ref f) = true) (t : K.lookup T = some ⟨oT, dT, .seq [Value.int 1 tk].toArray n, sT⟩) :
    FunD K x qual (defArgs st) (defBody st) (defScope st) [.int 1] [] f (PySem.W.fnOf x qual (defArgs st) (defBody st) (defScope st) (.ref T) kV doc pm an cdv ct) :=
  ⟨⟨oc, od, .ref T, kV, doc, pm, an, cdv, ct, osl, rfl, l, c, .inr ⟨by simp, T, _, [.int 1 tk], n, rfl, t, rfl, .cons ⟨tk, rfl⟩ .nil⟩, .inl rfl⟩, k⟩
theorem law_gives {K : PySem.W.Frag} (H : Hp) (a : Addr) (ns : List Int) (h : SqL K H a (ns.map V.int)) : lift K spLaw [] [.ref a] H fun v _ => v = .bl true :=
  ⟨[.val (.frl ns)], ⟨H, fun _ => False⟩, fun d => d = .bl true, ⟨fun b ⟨_, _, _, z⟩ => absurd z List.not_mem_nil, Ex.refl H, fun _ z => z.elim⟩, .cons (.frl h) .nil, ⟨ns, rfl, rfl⟩, fun d v W' H' _ _ n q => by
    cases n <;> first | rfl | (cases q; done) | (cases q; rfl)⟩
theorem fundT {K : PySem.W.Frag} {x qual : Str} {st : Stmt} {f T T2 : Addr} {oc : Value} {od an : Option Addr} {osl : Array (Option Value)} {kV doc pm cdv ct : Value} {oT : Value} {dT : Option Addr} {n : Nat} {sT : Array (Option Value)}
    (l : K.lookup f = some ⟨oc, od, .func (PySem.W.fnOf x qual (defArgs st) (defBody st) (defScope st) (.ref T) kV doc pm an cdv ct), osl⟩) (c : PySem.W.codeIn K cdv qual = true) (k : PySem.W.keepIn K (.ref f) = true) (t : K.lookup T = some ⟨oT, dT, .seq [Value.ref T2].toArray n, sT⟩) :
    FunD K x qual (defArgs st) (defBody st) (defScope st) [.ref T2] [] f (PySem.W.fnOf x qual (defArgs st) (defBody st) (defScope st) (.ref T) kV doc pm an cdv ct) :=
  ⟨⟨oc, od, .ref T, kV, doc, pm, an, cdv, ct, osl, rfl, l, c, .inr ⟨by simp, T, _, [.ref T2], n, rfl, t, rfl, .cons rfl .nil⟩, .inl rfl⟩, k⟩
theorem lw_mk {P : Program} {w : World} {K : PySem.W.Frag} {h : Heap} {mg : Str → Option Value} {fa : Addr} (X : K.In h) (G : h.Ns mainGlobals mg) (hfa : mg "law" = some (.ref fa))
    {C CB f_init f_binit T2 f_isint f_iscount f_islist f_counts f_small f_rising f_isnum f_above f_ratof f_let f_entry f_ck f_pro f_wam f_wo f_ckm f_cka f_oth f_mvd f_pot f_draw f_pick f_low f_sum f_by f_am f_any f_ti f_fo f_mo f_ba f_made f_cnt f_shown f_mr f_wr f_or f_right f_law f_add f_radd f_mul f_rmul f_eq f_repr f_bents f_bam f_beq f_brepr f_ptop f_pbot f_psign f_blet f_bdeg f_bno p_ptop p_pbot p_psign p_blet p_bdeg p_bno : Addr} {r_ptop r_pbot r_psign r_blet r_bdeg r_bno : List Value} {rlm rla : Option Value} {tk1 tk2 tk3 : Tok} {dd2 : Option Addr} {n2 : Nat} {s2 : Array (Option Value)}
    (aC : PySem.W.nsIn K mainGlobals "Ratio" = some (some (.ref C)))
    (aCB : PySem.W.nsIn K mainGlobals "Blend" = some (some (.ref CB)))
    (a_isint : PySem.W.nsIn K mainGlobals "is_integer" = some (some (.ref f_isint)))
    (F_isint : ∃ fd, Fun K "is_integer" "is_integer" (top 3) f_isint fd)
    (a_iscount : PySem.W.nsIn K mainGlobals "is_count" = some (some (.ref f_iscount)))
    (F_iscount : ∃ fd, Fun K "is_count" "is_count" (top 4) f_iscount fd)
    (a_islist : PySem.W.nsIn K mainGlobals "is_list" = some (some (.ref f_islist)))
    (F_islist : ∃ fd, Fun K "is_list" "is_list" (top 5) f_islist fd)
    (a_counts : PySem.W.nsIn K mainGlobals "is_counts" = some (some (.ref f_counts)))
    (F_counts : ∃ fd, Fun K "is_counts" "is_counts" (top 6) f_counts fd)
    (a_small : PySem.W.nsIn K mainGlobals "is_small_letter" = some (some (.ref f_small)))
    (F_small : ∃ fd, Fun K "is_small_letter" "is_small_letter" (top 7) f_small fd)
    (a_rising : PySem.W.nsIn K mainGlobals "is_rising" = some (some (.ref f_rising)))
    (F_rising : ∃ fd, Fun K "is_rising" "is_rising" (top 8) f_rising fd)
    (a_isnum : PySem.W.nsIn K mainGlobals "is_number" = some (some (.ref f_isnum)))
    (F_isnum : ∃ fd, Fun K "is_number" "is_number" (top 22) f_isnum fd)
    (a_above : PySem.W.nsIn K mainGlobals "is_above" = some (some (.ref f_above)))
    (F_above : ∃ fd, Fun K "is_above" "is_above" (top 23) f_above fd)
    (a_ratof : PySem.W.nsIn K mainGlobals "ratio_of" = some (some (.ref f_ratof)))
    (F_ratof : ∃ fd, Fun K "ratio_of" "ratio_of" (top 24) f_ratof fd)
    (a_let : PySem.W.nsIn K mainGlobals "is_letters" = some (some (.ref f_let)))
    (F_let : ∃ fd, Fun K "is_letters" "is_letters" (top 30) f_let fd)
    (a_entry : PySem.W.nsIn K mainGlobals "_is_entry" = some (some (.ref f_entry)))
    (F_entry : ∃ fd, Fun K "_is_entry" "_is_entry" (top 32) f_entry fd)
    (a_ck : PySem.W.nsIn K mainGlobals "check_blend" = some (some (.ref f_ck)))
    (F_ck : ∃ fd, Fun K "check_blend" "check_blend" (top 35) f_ck fd)
    (a_pro : PySem.W.nsIn K mainGlobals "is_product_of" = some (some (.ref f_pro)))
    (F_pro : ∃ fd, Fun K "is_product_of" "is_product_of" (top 36) f_pro fd)
    (a_wam : PySem.W.nsIn K mainGlobals "with_amount" = some (some (.ref f_wam)))
    (F_wam : ∃ fd, Fun K "with_amount" "with_amount" (top 38) f_wam fd)
    (a_wo : PySem.W.nsIn K mainGlobals "without" = some (some (.ref f_wo)))
    (F_wo : ∃ fd, Fun K "without" "without" (top 39) f_wo fd)
    (a_ckm : PySem.W.nsIn K mainGlobals "_check_moved" = some (some (.ref f_ckm)))
    (F_ckm : ∃ fd, Fun K "_check_moved" "_check_moved" (top 40) f_ckm fd)
    (a_cka : PySem.W.nsIn K mainGlobals "_check_above" = some (some (.ref f_cka)))
    (F_cka : ∃ fd, Fun K "_check_above" "_check_above" (top 41) f_cka fd)
    (a_oth : PySem.W.nsIn K mainGlobals "_others" = some (some (.ref f_oth)))
    (F_oth : ∃ fd, Fun K "_others" "_others" (top 42) f_oth fd)
    (a_mvd : PySem.W.nsIn K mainGlobals "_moved" = some (some (.ref f_mvd)))
    (F_mvd : ∃ fd, Fun K "_moved" "_moved" (top 43) f_mvd fd)
    (a_pot : PySem.W.nsIn K mainGlobals "_law_pot" = some (some (.ref f_pot)))
    (F_pot : ∃ fd, Fun K "_law_pot" "_law_pot" (top 45) f_pot fd)
    (a_draw : PySem.W.nsIn K mainGlobals "_law_draw" = some (some (.ref f_draw)))
    (F_draw : ∃ fd, Fun K "_law_draw" "_law_draw" (top 46) f_draw fd)
    (a_pick : PySem.W.nsIn K mainGlobals "_law_pick" = some (some (.ref f_pick)))
    (F_pick : ∃ fd, Fun K "_law_pick" "_law_pick" (top 47) f_pick fd)
    (a_low : PySem.W.nsIn K mainGlobals "_law_low" = some (some (.ref f_low)))
    (F_low : ∃ fd, Fun K "_law_low" "_law_low" (top 48) f_low fd)
    (a_sum : PySem.W.nsIn K mainGlobals "_law_sum" = some (some (.ref f_sum)))
    (F_sum : ∃ fd, Fun K "_law_sum" "_law_sum" (top 49) f_sum fd)
    (a_by : PySem.W.nsIn K mainGlobals "_law_product" = some (some (.ref f_by)))
    (F_by : ∃ fd, Fun K "_law_product" "_law_product" (top 50) f_by fd)
    (a_am : PySem.W.nsIn K mainGlobals "_law_amount" = some (some (.ref f_am)))
    (F_am : ∃ fd, Fun K "_law_amount" "_law_amount" (top 51) f_am fd)
    (a_any : PySem.W.nsIn K mainGlobals "_law_any" = some (some (.ref f_any)))
    (F_any : ∃ fd, Fun K "_law_any" "_law_any" (top 52) f_any fd)
    (a_ti : PySem.W.nsIn K mainGlobals "_law_times" = some (some (.ref f_ti)))
    (F_ti : ∃ fd, Fun K "_law_times" "_law_times" (top 53) f_ti fd)
    (a_fo : PySem.W.nsIn K mainGlobals "_law_forms" = some (some (.ref f_fo)))
    (F_fo : ∃ fd, Fun K "_law_forms" "_law_forms" (top 54) f_fo fd)
    (a_mo : PySem.W.nsIn K mainGlobals "_law_model" = some (some (.ref f_mo)))
    (F_mo : ∃ fd, Fun K "_law_model" "_law_model" (top 55) f_mo fd)
    (a_ba : PySem.W.nsIn K mainGlobals "_law_bare" = some (some (.ref f_ba)))
    (F_ba : ∃ fd, Fun K "_law_bare" "_law_bare" (top 56) f_ba fd)
    (a_made : PySem.W.nsIn K mainGlobals "_law_made" = some (some (.ref f_made)))
    (F_made : ∃ fd, Fun K "_law_made" "_law_made" (top 57) f_made fd)
    (a_cnt : PySem.W.nsIn K mainGlobals "_law_counts" = some (some (.ref f_cnt)))
    (F_cnt : ∃ fd, Fun K "_law_counts" "_law_counts" (top 58) f_cnt fd)
    (a_shown : PySem.W.nsIn K mainGlobals "_law_shown" = some (some (.ref f_shown)))
    (F_shown : ∃ fd, Fun K "_law_shown" "_law_shown" (top 59) f_shown fd)
    (a_mr : PySem.W.nsIn K mainGlobals "_law_moved_right" = some (some (.ref f_mr)))
    (F_mr : ∃ fd, Fun K "_law_moved_right" "_law_moved_right" (top 60) f_mr fd)
    (a_wr : PySem.W.nsIn K mainGlobals "_law_without_right" = some (some (.ref f_wr)))
    (F_wr : ∃ fd, Fun K "_law_without_right" "_law_without_right" (top 61) f_wr fd)
    (a_or : PySem.W.nsIn K mainGlobals "_law_one_right" = some (some (.ref f_or)))
    (F_or : ∃ fd, Fun K "_law_one_right" "_law_one_right" (top 62) f_or fd)
    (a_right : PySem.W.nsIn K mainGlobals "_law_right" = some (some (.ref f_right)))
    (F_right : ∃ fd, Fun K "_law_right" "_law_right" (top 63) f_right fd)
    (a_law : PySem.W.nsIn K mainGlobals "law" = some (some (.ref f_law)))
    (F_law : ∃ fd, Fun K "law" "law" (top 64) f_law fd)
    (a_init : PySem.W.findIn K (.ref C) "__init__" = some (some (.ref f_init)))
    (i_init : PySem.W.isFn K (.ref f_init) = true)
    (F_init : ∃ fd, FunD K "__init__" "Ratio.__init__" (defArgs sInit) (defBody sInit) (defScope sInit) [.int 1] [] f_init fd)
    (a_binit : PySem.W.findIn K (.ref CB) "__init__" = some (some (.ref f_binit)))
    (i_binit : PySem.W.isFn K (.ref f_binit) = true)
    (F_binit : ∃ fd, FunD K "__init__" "Blend.__init__" (defArgs (ble 0)) (defBody (ble 0)) (defScope (ble 0)) [.ref T2] [] f_binit fd)
    (t2 : K.lookup T2 = some ⟨.type "tuple", dd2, .seq #[] n2, s2⟩)
    (a_add : PySem.W.findIn K (.ref C) "__add__" = some (some (.ref f_add)))
    (i_add : PySem.W.isFn K (.ref f_add) = true)
    (F_add : ∃ fd, Fun K "__add__" "Ratio.__add__" (rat 5) f_add fd)
    (a_radd : PySem.W.findIn K (.ref C) "__radd__" = some (some (.ref f_radd)))
    (i_radd : PySem.W.isFn K (.ref f_radd) = true)
    (F_radd : ∃ fd, Fun K "__radd__" "Ratio.__radd__" (rat 6) f_radd fd)
    (a_mul : PySem.W.findIn K (.ref C) "__mul__" = some (some (.ref f_mul)))
    (i_mul : PySem.W.isFn K (.ref f_mul) = true)
    (F_mul : ∃ fd, Fun K "__mul__" "Ratio.__mul__" (rat 9) f_mul fd)
    (a_rmul : PySem.W.findIn K (.ref C) "__rmul__" = some (some (.ref f_rmul)))
    (i_rmul : PySem.W.isFn K (.ref f_rmul) = true)
    (F_rmul : ∃ fd, Fun K "__rmul__" "Ratio.__rmul__" (rat 10) f_rmul fd)
    (a_eq : PySem.W.findIn K (.ref C) "__eq__" = some (some (.ref f_eq)))
    (i_eq : PySem.W.isFn K (.ref f_eq) = true)
    (F_eq : ∃ fd, Fun K "__eq__" "Ratio.__eq__" (rat 17) f_eq fd)
    (a_repr : PySem.W.findIn K (.ref C) "__repr__" = some (some (.ref f_repr)))
    (i_repr : PySem.W.isFn K (.ref f_repr) = true)
    (F_repr : ∃ fd, Fun K "__repr__" "Ratio.__repr__" (rat 19) f_repr fd)
    (a_ptop : PySem.W.findIn K (.ref C) "top" = some (some (.ref p_ptop)))
    (g_ptop : PySem.W.specialIn K (.ref p_ptop) "__get__" = some (some (.builtin "property.__get__")))
    (t_ptop : PySem.W.takesIn K (.ref p_ptop) = some true)
    (c_ptop : PySem.W.recIn K p_ptop "property" = some (.ref f_ptop :: r_ptop))
    (F_ptop : ∃ fd, Fun K "top" "Ratio.top" (rat 1) f_ptop fd)
    (a_pbot : PySem.W.findIn K (.ref C) "bottom" = some (some (.ref p_pbot)))
    (g_pbot : PySem.W.specialIn K (.ref p_pbot) "__get__" = some (some (.builtin "property.__get__")))
    (t_pbot : PySem.W.takesIn K (.ref p_pbot) = some true)
    (c_pbot : PySem.W.recIn K p_pbot "property" = some (.ref f_pbot :: r_pbot))
    (F_pbot : ∃ fd, Fun K "bottom" "Ratio.bottom" (rat 2) f_pbot fd)
    (a_psign : PySem.W.findIn K (.ref C) "sign" = some (some (.ref p_psign)))
    (g_psign : PySem.W.specialIn K (.ref p_psign) "__get__" = some (some (.builtin "property.__get__")))
    (t_psign : PySem.W.takesIn K (.ref p_psign) = some true)
    (c_psign : PySem.W.recIn K p_psign "property" = some (.ref f_psign :: r_psign))
    (F_psign : ∃ fd, Fun K "sign" "Ratio.sign" (rat 3) f_psign fd)
    (a_bents : PySem.W.findIn K (.ref CB) "entries" = some (some (.ref f_bents)))
    (i_bents : PySem.W.isFn K (.ref f_bents) = true)
    (F_bents : ∃ fd, Fun K "entries" "Blend.entries" (ble 5) f_bents fd)
    (a_bam : PySem.W.findIn K (.ref CB) "amount" = some (some (.ref f_bam)))
    (i_bam : PySem.W.isFn K (.ref f_bam) = true)
    (F_bam : ∃ fd, Fun K "amount" "Blend.amount" (ble 6) f_bam fd)
    (a_beq : PySem.W.findIn K (.ref CB) "__eq__" = some (some (.ref f_beq)))
    (i_beq : PySem.W.isFn K (.ref f_beq) = true)
    (F_beq : ∃ fd, Fun K "__eq__" "Blend.__eq__" (ble 10) f_beq fd)
    (a_brepr : PySem.W.findIn K (.ref CB) "__repr__" = some (some (.ref f_brepr)))
    (i_brepr : PySem.W.isFn K (.ref f_brepr) = true)
    (F_brepr : ∃ fd, Fun K "__repr__" "Blend.__repr__" (ble 11) f_brepr fd)
    (a_blet : PySem.W.findIn K (.ref CB) "letters" = some (some (.ref p_blet)))
    (g_blet : PySem.W.specialIn K (.ref p_blet) "__get__" = some (some (.builtin "property.__get__")))
    (t_blet : PySem.W.takesIn K (.ref p_blet) = some true)
    (c_blet : PySem.W.recIn K p_blet "property" = some (.ref f_blet :: r_blet))
    (F_blet : ∃ fd, Fun K "letters" "Blend.letters" (ble 1) f_blet fd)
    (a_bdeg : PySem.W.findIn K (.ref CB) "degree" = some (some (.ref p_bdeg)))
    (g_bdeg : PySem.W.specialIn K (.ref p_bdeg) "__get__" = some (some (.builtin "property.__get__")))
    (t_bdeg : PySem.W.takesIn K (.ref p_bdeg) = some true)
    (c_bdeg : PySem.W.recIn K p_bdeg "property" = some (.ref f_bdeg :: r_bdeg))
    (F_bdeg : ∃ fd, Fun K "degree" "Blend.degree" (ble 2) f_bdeg fd)
    (a_bno : PySem.W.findIn K (.ref CB) "is_nought" = some (some (.ref p_bno)))
    (g_bno : PySem.W.specialIn K (.ref p_bno) "__get__" = some (some (.builtin "property.__get__")))
    (t_bno : PySem.W.takesIn K (.ref p_bno) = some true)
    (c_bno : PySem.W.recIn K p_bno "property" = some (.ref f_bno :: r_bno))
    (F_bno : ∃ fd, Fun K "is_nought" "Blend.is_nought" (ble 3) f_bno fd)
    (pg : PySem.W.plainGet K C Str.empty = true)
    (hd : PySem.W.hasDictIn K C = true)
    (po : PySem.W.plainOver K C = true)
    (sa : PySem.W.findIn K (.ref C) "__setattr__" = some (some (.builtin "object.__setattr__")))
    (mk : PySem.W.makesIn K C = true)
    (kc : PySem.W.keepIn K (.ref C) = true)
    (nT : PySem.W.findIn K (.ref C) "_top" = some none)
    (nB : PySem.W.findIn K (.ref C) "_bottom" = some none)
    (ne : PySem.W.findIn K (.ref C) "__ne__" = some (some (.builtin "object.__ne__")))
    (sf : PySem.W.selfFirst K C = true)
    (nf : PySem.W.notFirst K C (.ref C) = true)
    (ni : PySem.W.notFirst K C (.type "int") = true)
    (sub_is : PySem.W.subIn K (.ref C) (.type "int") = some false)
    (sub_ob : PySem.W.subIn K (.ref C) (.type "object") = some true)
    (sub_li : PySem.W.subIn K (.ref C) (.type "list") = some false)
    (sub_tu : PySem.W.subIn K (.ref C) (.type "tuple") = some false)
    (ca : PySem.W.findIn K (.ref C) "__class__" = some (some (.builtin "object.__class__")))
    (cm : PySem.W.mroIn K C (.type "object") = some true)
    (pgB : PySem.W.plainGet K CB Str.empty = true)
    (hdB : PySem.W.hasDictIn K CB = true)
    (poB : PySem.W.plainOver K CB = true)
    (saB : PySem.W.findIn K (.ref CB) "__setattr__" = some (some (.builtin "object.__setattr__")))
    (mkB : PySem.W.makesIn K CB = true)
    (kcB : PySem.W.keepIn K (.ref CB) = true)
    (nL : PySem.W.findIn K (.ref CB) "_letters" = some none)
    (nD : PySem.W.findIn K (.ref CB) "_degree" = some none)
    (nA : PySem.W.findIn K (.ref CB) "_amounts" = some none)
    (neB : PySem.W.findIn K (.ref CB) "__ne__" = some (some (.builtin "object.__ne__")))
    (sfB : PySem.W.selfFirst K CB = true)
    (nfB : PySem.W.notFirst K CB (.ref CB) = true)
    (niB : PySem.W.notFirst K CB (.type "int") = true)
    (sub_isB : PySem.W.subIn K (.ref CB) (.type "int") = some false)
    (sub_obB : PySem.W.subIn K (.ref CB) (.type "object") = some true)
    (caB : PySem.W.findIn K (.ref CB) "__class__" = some (some (.builtin "object.__class__")))
    (cmB : PySem.W.mroIn K CB (.type "object") = some true)
    (cn : PySem.W.specialIn K (.builtin "object.__class__") "__get__" = some (some (.builtin "getset_descriptor.__get__")))
    (ct : PySem.W.takesIn K (.builtin "object.__class__") = some true)
    (tyC : PySem.W.typeIn K (.ref C) = some (.type "type"))
    (s_NoneType : PySem.W.subIn K (.type "NoneType") (.ref C) = some false)
    (s_bool : PySem.W.subIn K (.type "bool") (.ref C) = some false)
    (s_str : PySem.W.subIn K (.type "str") (.ref C) = some false)
    (s_tuple : PySem.W.subIn K (.type "tuple") (.ref C) = some false)
    (s_list : PySem.W.subIn K (.type "list") (.ref C) = some false)
    (s_int : PySem.W.subIn K (.type "int") (.ref C) = some false)
    (s_dict : PySem.W.subIn K (.type "dict") (.ref C) = some false)
    (s_intB : PySem.W.subIn K (.type "int") (.ref CB) = some false)
    (lm : PySem.W.findIn K (.type "int") "__rmul__" = some rlm)
    (la : PySem.W.findIn K (.type "int") "__radd__" = some rla)
    (z_gcd : PySem.W.nsIn K mainGlobals "gcd" = some (some (.builtin "math.gcd")))
    (z_ml : PySem.W.nsIn K mainGlobals "MOST_LETTERS" = some (some (.int 8 tk1)))
    (z_md : PySem.W.nsIn K mainGlobals "MOST_DEGREE" = some (some (.int 8 tk2)))
    (z_me : PySem.W.nsIn K mainGlobals "MOST_ENTRIES" = some (some (.int 300 tk3)))
    (z_isinstance : PySem.W.nsIn K mainGlobals "isinstance" = some none)
    (z_int : PySem.W.nsIn K mainGlobals "int" = some none)
    (z_bool : PySem.W.nsIn K mainGlobals "bool" = some none)
    (z_list : PySem.W.nsIn K mainGlobals "list" = some none)
    (z_tuple : PySem.W.nsIn K mainGlobals "tuple" = some none)
    (z_abs : PySem.W.nsIn K mainGlobals "abs" = some none)
    (z_len : PySem.W.nsIn K mainGlobals "len" = some none)
    (z_max : PySem.W.nsIn K mainGlobals "max" = some none)
    (z_divmod : PySem.W.nsIn K mainGlobals "divmod" = some none)
    (z_str : PySem.W.nsIn K mainGlobals "str" = some none)
    (z_repr : PySem.W.nsIn K mainGlobals "repr" = some none)
    (z_range : PySem.W.nsIn K mainGlobals "range" = some none)
    (z_all : PySem.W.nsIn K mainGlobals "all" = some none)
    (z_zip : PySem.W.nsIn K mainGlobals "zip" = some none)
    (z_enumerate : PySem.W.nsIn K mainGlobals "enumerate" = some none)
    (z_sorted : PySem.W.nsIn K mainGlobals "sorted" = some none)
    (z_sum : PySem.W.nsIn K mainGlobals "sum" = some none)
    (z_min : PySem.W.nsIn K mainGlobals "min" = some none)
    (z_dict : PySem.W.nsIn K mainGlobals "dict" = some none)
    : ∃ fd : FuncData, (∀ (s : Shared) (v : Value), BindsTo s fd ⟨[v], []⟩ [("_law_script", v)]) ∧ ∀ base : Heap, K.In base → base.Ns mainGlobals mg → GnOk P w K mg base 14 fa fd ["_law_script"] (lift K spLaw) := by
  have e := hfa.symm.trans (PySem.W.mg_of X G a_law)
  cases e
  obtain ⟨d_isint, F_isint⟩ := F_isint
  obtain ⟨d_iscount, F_iscount⟩ := F_iscount
  obtain ⟨d_islist, F_islist⟩ := F_islist
  obtain ⟨d_counts, F_counts⟩ := F_counts
  obtain ⟨d_small, F_small⟩ := F_small
  obtain ⟨d_rising, F_rising⟩ := F_rising
  obtain ⟨d_isnum, F_isnum⟩ := F_isnum
  obtain ⟨d_above, F_above⟩ := F_above
  obtain ⟨d_ratof, F_ratof⟩ := F_ratof
  obtain ⟨d_let, F_let⟩ := F_let
  obtain ⟨d_entry, F_entry⟩ := F_entry
  obtain ⟨d_ck, F_ck⟩ := F_ck
  obtain ⟨d_pro, F_pro⟩ := F_pro
  obtain ⟨d_wam, F_wam⟩ := F_wam
  obtain ⟨d_wo, F_wo⟩ := F_wo
  obtain ⟨d_ckm, F_ckm⟩ := F_ckm
  obtain ⟨d_cka, F_cka⟩ := F_cka
  obtain ⟨d_oth, F_oth⟩ := F_oth
  obtain ⟨d_mvd, F_mvd⟩ := F_mvd
  obtain ⟨d_pot, F_pot⟩ := F_pot
  obtain ⟨d_draw, F_draw⟩ := F_draw
  obtain ⟨d_pick, F_pick⟩ := F_pick
  obtain ⟨d_low, F_low⟩ := F_low
  obtain ⟨d_sum, F_sum⟩ := F_sum
  obtain ⟨d_by, F_by⟩ := F_by
  obtain ⟨d_am, F_am⟩ := F_am
  obtain ⟨d_any, F_any⟩ := F_any
  obtain ⟨d_ti, F_ti⟩ := F_ti
  obtain ⟨d_fo, F_fo⟩ := F_fo
  obtain ⟨d_mo, F_mo⟩ := F_mo
  obtain ⟨d_ba, F_ba⟩ := F_ba
  obtain ⟨d_made, F_made⟩ := F_made
  obtain ⟨d_cnt, F_cnt⟩ := F_cnt
  obtain ⟨d_shown, F_shown⟩ := F_shown
  obtain ⟨d_mr, F_mr⟩ := F_mr
  obtain ⟨d_wr, F_wr⟩ := F_wr
  obtain ⟨d_or, F_or⟩ := F_or
  obtain ⟨d_right, F_right⟩ := F_right
  obtain ⟨d_law, F_law⟩ := F_law
  obtain ⟨d_init, F_init⟩ := F_init
  obtain ⟨d_binit, F_binit⟩ := F_binit
  obtain ⟨d_add, F_add⟩ := F_add
  obtain ⟨d_radd, F_radd⟩ := F_radd
  obtain ⟨d_mul, F_mul⟩ := F_mul
  obtain ⟨d_rmul, F_rmul⟩ := F_rmul
  obtain ⟨d_eq, F_eq⟩ := F_eq
  obtain ⟨d_repr, F_repr⟩ := F_repr
  obtain ⟨d_bents, F_bents⟩ := F_bents
  obtain ⟨d_bam, F_bam⟩ := F_bam
  obtain ⟨d_beq, F_beq⟩ := F_beq
  obtain ⟨d_brepr, F_brepr⟩ := F_brepr
  obtain ⟨d_ptop, F_ptop⟩ := F_ptop
  obtain ⟨d_pbot, F_pbot⟩ := F_pbot
  obtain ⟨d_psign, F_psign⟩ := F_psign
  obtain ⟨d_blet, F_blet⟩ := F_blet
  obtain ⟨d_bdeg, F_bdeg⟩ := F_bdeg
  obtain ⟨d_bno, F_bno⟩ := F_bno
  have b_isint := F_isint.binds (ps := ["value"]) fun _ _ _ _ _ _ us hl => match us, hl with | [_], _ => rfl
  have b_iscount := F_iscount.binds (ps := ["value"]) fun _ _ _ _ _ _ us hl => match us, hl with | [_], _ => rfl
  have b_islist := F_islist.binds (ps := ["value"]) fun _ _ _ _ _ _ us hl => match us, hl with | [_], _ => rfl
  have b_counts := F_counts.binds (ps := ["value", "many"]) fun _ _ _ _ _ _ us hl => match us, hl with | [_, _], _ => rfl
  have b_small := F_small.binds (ps := ["value"]) fun _ _ _ _ _ _ us hl => match us, hl with | [_], _ => rfl
  have b_rising := F_rising.binds (ps := ["parts"]) fun _ _ _ _ _ _ us hl => match us, hl with | [_], _ => rfl
  have b_isnum := F_isnum.binds (ps := ["value"]) fun _ _ _ _ _ _ us hl => match us, hl with | [_], _ => rfl
  have b_above := F_above.binds (ps := ["value"]) fun _ _ _ _ _ _ us hl => match us, hl with | [_], _ => rfl
  have b_ratof := F_ratof.binds (ps := ["value"]) fun _ _ _ _ _ _ us hl => match us, hl with | [_], _ => rfl
  have b_let := F_let.binds (ps := ["value"]) fun _ _ _ _ _ _ us hl => match us, hl with | [_], _ => rfl
  have b_entry := F_entry.binds (ps := ["entry", "many", "degree"]) fun _ _ _ _ _ _ us hl => match us, hl with | [_, _, _], _ => rfl
  have b_ck := F_ck.binds (ps := ["blend"]) fun _ _ _ _ _ _ us hl => match us, hl with | [_], _ => rfl
  have b_pro := F_pro.binds (ps := ["blend", "value"]) fun _ _ _ _ _ _ us hl => match us, hl with | [_, _], _ => rfl
  have b_wam := F_wam.binds (ps := ["blend", "counts", "number"]) fun _ _ _ _ _ _ us hl => match us, hl with | [_, _, _], _ => rfl
  have b_wo := F_wo.binds (ps := ["blend", "counts"]) fun _ _ _ _ _ _ us hl => match us, hl with | [_, _], _ => rfl
  have b_ckm := F_ckm.binds (ps := ["blend", "counts"]) fun _ _ _ _ _ _ us hl => match us, hl with | [_, _], _ => rfl
  have b_cka := F_cka.binds (ps := ["number"]) fun _ _ _ _ _ _ us hl => match us, hl with | [_], _ => rfl
  have b_oth := F_oth.binds (ps := ["blend", "counts"]) fun _ _ _ _ _ _ us hl => match us, hl with | [_, _], _ => rfl
  have b_mvd := F_mvd.binds (ps := ["blend", "counts", "number"]) fun _ _ _ _ _ _ us hl => match us, hl with | [_, _, _], _ => rfl
  have b_pot := F_pot.binds (ps := ["_law_script", "_law_k"]) fun _ _ _ _ _ _ us hl => match us, hl with | [_, _], _ => rfl
  have b_draw := F_draw.binds (ps := ["_law_pot_here", "_law_size"]) fun _ _ _ _ _ _ us hl => match us, hl with | [_, _], _ => rfl
  have b_pick := F_pick.binds (ps := ["_law_pot_here", "_law_some"]) fun _ _ _ _ _ _ us hl => match us, hl with | [_, _], _ => rfl
  have b_low := F_low.binds (ps := ["_law_top", "_law_base"]) fun _ _ _ _ _ _ us hl => match us, hl with | [_, _], _ => rfl
  have b_sum := F_sum.binds (ps := ["_law_one", "_law_other"]) fun _ _ _ _ _ _ us hl => match us, hl with | [_, _], _ => rfl
  have b_by := F_by.binds (ps := ["_law_one", "_law_other"]) fun _ _ _ _ _ _ us hl => match us, hl with | [_, _], _ => rfl
  have b_am := F_am.binds (ps := ["_law_pot_here"]) fun _ _ _ _ _ _ us hl => match us, hl with | [_], _ => rfl
  have b_any := F_any.binds (ps := ["_law_pot_here", "_law_size", "_law_degree", "_law_most"]) fun _ _ _ _ _ _ us hl => match us, hl with | [_, _, _, _], _ => rfl
  have b_ti := F_ti.binds (ps := ["_law_one", "_law_other"]) fun _ _ _ _ _ _ us hl => match us, hl with | [_, _], _ => rfl
  have b_fo := F_fo.binds (ps := ["_law_pot_here", "_law_size", "_law_degree"]) fun _ _ _ _ _ _ us hl => match us, hl with | [_, _, _], _ => rfl
  have b_mo := F_mo.binds (ps := ["_law_pot_here", "_law_letters_most", "_law_degree_most"]) fun _ _ _ _ _ _ us hl => match us, hl with | [_, _, _], _ => rfl
  have b_ba := F_ba.binds (ps := ["_law_pot_here", "_law_size", "_law_degree"]) fun _ _ _ _ _ _ us hl => match us, hl with | [_, _, _], _ => rfl
  have b_made := F_made.binds (ps := ["_law_letters", "_law_own"]) fun _ _ _ _ _ _ us hl => match us, hl with | [_, _], _ => rfl
  have b_cnt := F_cnt.binds (ps := ["_law_pot_here", "_law_size", "_law_degree"]) fun _ _ _ _ _ _ us hl => match us, hl with | [_, _, _], _ => rfl
  have b_shown := F_shown.binds (ps := ["_law_own"]) fun _ _ _ _ _ _ us hl => match us, hl with | [_], _ => rfl
  have b_mr := F_mr.binds (ps := ["_law_pot_here", "_law_letters", "_law_own", "_law_made_here", "_law_counts_here"]) fun _ _ _ _ _ _ us hl => match us, hl with | [_, _, _, _, _], _ => rfl
  have b_wr := F_wr.binds (ps := ["_law_pot_here", "_law_letters", "_law_own", "_law_made_here"]) fun _ _ _ _ _ _ us hl => match us, hl with | [_, _, _, _], _ => rfl
  have b_or := F_or.binds (ps := ["_law_pot_here", "_law_letters", "_law_own"]) fun _ _ _ _ _ _ us hl => match us, hl with | [_, _, _], _ => rfl
  have b_right := F_right.binds (ps := ["_law_pot_here"]) fun _ _ _ _ _ _ us hl => match us, hl with | [_], _ => rfl
  have b_law := F_law.binds (ps := ["_law_script"]) fun _ _ _ _ _ _ us hl => match us, hl with | [_], _ => rfl
  have b_add := F_add.binds (ps := ["self", "other"]) fun _ _ _ _ _ _ us hl => match us, hl with | [_, _], _ => rfl
  have b_radd := F_radd.binds (ps := ["self", "other"]) fun _ _ _ _ _ _ us hl => match us, hl with | [_, _], _ => rfl
  have b_mul := F_mul.binds (ps := ["self", "other"]) fun _ _ _ _ _ _ us hl => match us, hl with | [_, _], _ => rfl
  have b_rmul := F_rmul.binds (ps := ["self", "other"]) fun _ _ _ _ _ _ us hl => match us, hl with | [_, _], _ => rfl
  have b_eq := F_eq.binds (ps := ["self", "other"]) fun _ _ _ _ _ _ us hl => match us, hl with | [_, _], _ => rfl
  have b_repr := F_repr.binds (ps := ["self"]) fun _ _ _ _ _ _ us hl => match us, hl with | [_], _ => rfl
  have b_bents := F_bents.binds (ps := ["self"]) fun _ _ _ _ _ _ us hl => match us, hl with | [_], _ => rfl
  have b_bam := F_bam.binds (ps := ["self", "counts"]) fun _ _ _ _ _ _ us hl => match us, hl with | [_, _], _ => rfl
  have b_beq := F_beq.binds (ps := ["self", "other"]) fun _ _ _ _ _ _ us hl => match us, hl with | [_, _], _ => rfl
  have b_brepr := F_brepr.binds (ps := ["self"]) fun _ _ _ _ _ _ us hl => match us, hl with | [_], _ => rfl
  have b_ptop := F_ptop.binds (ps := ["self"]) fun _ _ _ _ _ _ us hl => match us, hl with | [_], _ => rfl
  have b_pbot := F_pbot.binds (ps := ["self"]) fun _ _ _ _ _ _ us hl => match us, hl with | [_], _ => rfl
  have b_psign := F_psign.binds (ps := ["self"]) fun _ _ _ _ _ _ us hl => match us, hl with | [_], _ => rfl
  have b_blet := F_blet.binds (ps := ["self"]) fun _ _ _ _ _ _ us hl => match us, hl with | [_], _ => rfl
  have b_bdeg := F_bdeg.binds (ps := ["self"]) fun _ _ _ _ _ _ us hl => match us, hl with | [_], _ => rfl
  have b_bno := F_bno.binds (ps := ["self"]) fun _ _ _ _ _ _ us hl => match us, hl with | [_], _ => rfl
  obtain ⟨ds2, v2, b2⟩ := F_init.binds1 (ps := ["self", "top", "bottom"]) 3 1 (by simp) rfl fun T kV doc pm an cdv ct us its l1 l2 => match us, its, l1, l2 with | [_, _, _], [_], _, _ => ⟨_, rfl, rfl⟩
  obtain ⟨ds1, v1, b1⟩ := F_init.binds1 (ps := ["self", "top", "bottom"]) 2 0 (by simp) rfl fun T kV doc pm an cdv ct us its l1 l2 => match us, its, l1, l2 with | [_, _], [_], _, _ => ⟨_, rfl, rfl⟩
  obtain ⟨bds2, bv2, bb2⟩ := F_binit.binds1 (ps := ["self", "letters", "entries"]) 3 1 (by simp) rfl fun T kV doc pm an cdv ct us its l1 l2 => match us, its, l1, l2 with | [_, _, _], [_], _, _ => ⟨_, rfl, rfl⟩
  obtain ⟨bds1, bv1, bb1⟩ := F_binit.binds1 (ps := ["self", "letters", "entries"]) 2 0 (by simp) rfl fun T kV doc pm an cdv ct us its l1 l2 => match us, its, l1, l2 with | [_, _], [_], _, _ => ⟨_, rfl, rfl⟩
  have bK_wam := fun_kbn (ps := ["blend", "counts", "number"]) (n := 2) (ks := ["number"]) F_wam fun _ _ _ _ _ _ us ws l1 l2 => match us, ws, l1, l2 with | [_, _], [_], _, _ => rfl
  have cl : Cls K C := ⟨pg, hd, po, sa⟩
  have clB : Cls K CB := ⟨pgB, hdB, poB, saB⟩
  have T : Txt K mg C := {
    nu := ⟨cl, sf, nf, ni, s_int, sub_is, sub_ob⟩
    is := ⟨cl, ca, cn, ct, cm⟩
    nT := nT
    nB := nB
    ne := ne
    mC := PySem.W.mg_of X G aC
    gcd := PySem.W.mg_of X G z_gcd
    isi := PySem.W.mg_none_of X G z_isinstance
    int := PySem.W.mg_none_of X G z_int
    bool := PySem.W.mg_none_of X G z_bool
    list := PySem.W.mg_none_of X G z_list
    tuple := PySem.W.mg_none_of X G z_tuple
    abs := PySem.W.mg_none_of X G z_abs
    len := PySem.W.mg_none_of X G z_len
    max := PySem.W.mg_none_of X G z_max
    divmod := PySem.W.mg_none_of X G z_divmod
    str := PySem.W.mg_none_of X G z_str
    repr := PySem.W.mg_none_of X G z_repr
    range := PySem.W.mg_none_of X G z_range
    all := PySem.W.mg_none_of X G z_all
    zip := PySem.W.mg_none_of X G z_zip
    k1 := kit_ty (by decide +kernel)
    k2 := kit_ty (by decide +kernel)
    k3 := kit_ty (by decide +kernel)
    k4 := kit_ty (by decide +kernel)
    k5 := kit_ty (by decide +kernel)
    k7 := kit_ty (by decide +kernel)
    k8 := kit_ty (by decide +kernel)
    k6 := kit_tyc (by decide +kernel) sub_is
    r1 := kit_ref hd tyC (fun z => by cases z) s_NoneType
    r2 := kit_ref hd tyC (fun z => by cases z) s_bool
    r3 := kit_ref hd tyC (fun z => by cases z) s_str
    r4 := kit_ref hd tyC (fun z => by cases z) s_tuple
    r5 := kit_ref hd tyC (fun z => by cases z) s_list
    r7 := kit_ref hd tyC (fun z => by cases z) s_int
    r8 := kit_ref hd tyC (fun z => by cases z) s_dict
    l0 := fun T h => by rcases h with rfl | rfl | rfl | rfl | rfl <;> exact kitAny_cons (b := false) (kit_ty (by decide +kernel)) (fun _ => kitAny_cons (b := false) (kit_ty (by decide +kernel)) (fun _ => rfl) (fun z => Bool.noConfusion z)) (fun z => Bool.noConfusion z)
    l3 := kitAny_cons (b := false) (kit_tyc (by decide +kernel) sub_li) (fun _ => kitAny_cons (b := false) (kit_tyc (by decide +kernel) sub_tu) (fun _ => rfl) (fun z => Bool.noConfusion z)) (fun z => Bool.noConfusion z)
    l1 := kitAny_cons (b := true) (same (beq_self_eq_true _)) (fun z => Bool.noConfusion z) (fun _ => rfl)
    l2 := kitAny_cons (b := false) (kit_ty (by decide +kernel)) (fun _ => kitAny_cons (b := true) (same (beq_self_eq_true _)) (fun z => Bool.noConfusion z) (fun _ => rfl)) (fun z => Bool.noConfusion z) }
  have T2' : Tb K mg C CB := {
    T := T, nu := ⟨clB, sfB, nfB, niB, s_intB, sub_isB, sub_obB⟩, is := ⟨clB, caB, cn, ct, cmB⟩, nL := nL, nD := nD, nA := nA, ne := neB, mB := PySem.W.mg_of X G aCB
    enum := PySem.W.mg_none_of X G z_enumerate, sorted := PySem.W.mg_none_of X G z_sorted, sum := PySem.W.mg_none_of X G z_sum, min := PySem.W.mg_none_of X G z_min, dict := PySem.W.mg_none_of X G z_dict
    ml := ⟨_, PySem.W.mg_of X G z_ml⟩, md := ⟨_, PySem.W.mg_of X G z_md⟩, me := ⟨_, PySem.W.mg_of X G z_me⟩ }
  have M : Mk K C f_init := ⟨mk, a_init, i_init, kc⟩
  have MB : Mk K CB f_binit := ⟨mkB, a_binit, i_binit, kcB⟩
  have em : EmpT K T2 := ⟨_, _, t2, rfl, rfl⟩
  have bL : ∀ (s : Shared) (v : Value), BindsTo s d_law ⟨[v], []⟩ [("_law_script", v)] := by
    obtain ⟨oc, od, kV, doc, pm, an, cdv, ct, osl, rfl, _⟩ := F_law.ex
    exact fun s v => .of_eq rfl
  refine ⟨d_law, bL, fun base _ _ => ?_⟩
  have D_isint : Df P w K mg base "is_integer" 1 1 (spB C isI) := df_of (fun_s F_isint) (ok_isint (fun_s F_isint) T) (PySem.W.mg_of X G a_isint) b_isint rfl
  have D_iscount : Df P w K mg base "is_count" 2 1 (spB C isC) := df_of (fun_s F_iscount) (ok_iscount (fun_s F_iscount) T D_isint) (PySem.W.mg_of X G a_iscount) b_iscount rfl
  have D_islist : Df P w K mg base "is_list" 1 1 spL := df_of (fun_s F_islist) (ok_islist (fun_s F_islist) T) (PySem.W.mg_of X G a_islist) b_islist rfl
  have D_islistK : Df P w K mg base "is_list" 1 1 (spLK K) := df_of (fun_s F_islist) (ok_islistK (fun_s F_islist) T) (PySem.W.mg_of X G a_islist) b_islist rfl
  have D_counts : Df P w K mg base "is_counts" 3 2 spCounts := df_of (fun_s F_counts) (ok_counts (fun_s F_counts) T D_islist D_iscount) (PySem.W.mg_of X G a_counts) b_counts rfl
  have D_small : Df P w K mg base "is_small_letter" 1 1 spSmall := df_of (fun_s F_small) (ok_small (fun_s F_small) T) (PySem.W.mg_of X G a_small) b_small rfl
  have D_rising : Df P w K mg base "is_rising" 1 1 spRising := df_of (fun_s F_rising) (ok_rising (fun_s F_rising) T) (PySem.W.mg_of X G a_rising) b_rising rfl
  have D_let : Df P w K mg base "is_letters" 2 1 spLet := df_of (fun_s F_let) (ok_let (fun_s F_let) T (PySem.W.mg_of X G z_ml) D_rising D_small) (PySem.W.mg_of X G a_let) b_let rfl
  have D_isnum : Df P w K mg base "is_number" 2 1 (spB C isN) := df_of (fun_s F_isnum) (ok_isnumber (fun_s F_isnum) T D_isint) (PySem.W.mg_of X G a_isnum) b_isnum rfl
  have GI := ok_init (P := P) (w := w) (base := base) (fund_s F_init) T D_isint
  have mk2 : Kl P w K mg base "Ratio" C 2 [] spInit := ⟨f_init, d_init, _, [], ds2, GI, M, T.mC, b2, v2, fun _ => .nil⟩
  have mk1 : Kl P w K mg base "Ratio" C 2 [.int 1] spInit := ⟨f_init, d_init, _, [.int 1], ds1, GI, M, T.mC, b1, v1, fun _ => .cons (.int 1) .nil⟩
  have D_ptop : Pr P w K mg base C "top" 1 (sp1 C fun p => .int p.1) := ⟨p_ptop, f_ptop, d_ptop, _, ok_top (fun_s F_ptop) T, ⟨a_ptop, g_ptop, t_ptop, _, c_ptop⟩, b_ptop⟩
  have D_pbot : Pr P w K mg base C "bottom" 1 (sp1 C fun p => .int p.2) := ⟨p_pbot, f_pbot, d_pbot, _, ok_bot (fun_s F_pbot) T, ⟨a_pbot, g_pbot, t_pbot, _, c_pbot⟩, b_pbot⟩
  have D_psign : Pr P w K mg base C "sign" 1 (sp1 C fun p => .int (sgF p)) := ⟨p_psign, f_psign, d_psign, _, ok_sign (fun_s F_psign) T, ⟨a_psign, g_psign, t_psign, _, c_psign⟩, b_psign⟩
  have V : Rt P w K mg base C := ⟨T, mk2, mk1, D_ptop, D_pbot⟩
  have D_ratof : Df P w K mg base "ratio_of" 4 1 (spRat C) := df_of (fun_s F_ratof) (ok_ratof (fun_s F_ratof) V) (PySem.W.mg_of X G a_ratof) b_ratof rfl
  have D_mul : Sm P w K mg base C "__mul__" 5 (spOp C fun p q => Ra C (mulF p q)) := ⟨f_mul, d_mul, _, ok_mul (fun_s F_mul) V D_ratof, a_mul, i_mul, b_mul⟩
  have D_rmul : Sm P w K mg base C "__rmul__" 6 (spOp C fun p q => Ra C (mulF q p)) := ⟨f_rmul, d_rmul, _, ok_rmul (fun_s F_rmul) V D_ratof D_mul, a_rmul, i_rmul, b_rmul⟩
  have D_eq : Sm P w K mg base C "__eq__" 1 (spEq C) := ⟨f_eq, d_eq, _, ok_eq (fun_s F_eq) T, a_eq, i_eq, b_eq⟩
  have D_add : Sm P w K mg base C "__add__" 5 (spOp C fun p q => Ra C (addF p q)) := ⟨f_add, d_add, _, ok_add (fun_s F_add) V D_ratof, a_add, i_add, b_add⟩
  have D_radd : Sm P w K mg base C "__radd__" 6 (spOp C fun p q => Ra C (addF q p)) := ⟨f_radd, d_radd, _, ok_radd (fun_s F_radd) V D_ratof D_add, a_radd, i_radd, b_radd⟩
  have D_repr : Sm P w K mg base C "__repr__" 1 (sp1b C 1900 fun p => .str (reprF p)) := ⟨f_repr, d_repr, _, ok_repr (fun_s F_repr) T, a_repr, i_repr, b_repr⟩
  have LL : Lv P w K mg base C := { V := V, ratof := D_ratof, mul := D_mul, rmul := D_rmul, eq := D_eq, add := D_add, radd := D_radd, sign := D_psign, lm := ⟨_, lm⟩, la := ⟨_, la⟩ }
  have D_above : Df P w K mg base "is_above" 5 1 (spAbove C) := df_of (fun_s F_above) (ok_above (fun_s F_above) T D_isnum D_ratof D_psign) (PySem.W.mg_of X G a_above) b_above rfl
  have D_entry : Df P w K mg base "_is_entry" 6 3 (spEntry C) := df_of (fun_s F_entry) (ok_entry (fun_s F_entry) T (PySem.W.mg_none_of X G z_sum) (PySem.W.mg_of X G z_md) D_counts D_above) (PySem.W.mg_of X G a_entry) b_entry rfl
  have GB := ok_binit (P := P) (w := w) (base := base) (fund_s F_binit) T2' D_ratof D_let D_islistK D_entry
  have mkA : Kl P w K mg base "Blend" CB 7 [] (spBl K C) := ⟨f_binit, d_binit, _, [], bds2, GB, MB, T2'.mB, bb2, bv2, fun _ => .nil⟩
  have mk0 : Kl P w K mg base "Blend" CB 7 [.cls T2] (spBl K C) := ⟨f_binit, d_binit, _, [.ref T2], bds1, GB, MB, T2'.mB, bb1, bv1, fun _ => .cons (.cls T2) .nil⟩
  have D_blet : Pr P w K mg base CB "letters" 1 (spB1 C CB fun z _ _ => .str (SX.S z)) := ⟨p_blet, f_blet, d_blet, _, ok_letters (fun_s F_blet) T2', ⟨a_blet, g_blet, t_blet, _, c_blet⟩, b_blet⟩
  have D_bdeg : Pr P w K mg base CB "degree" 1 (spB1 C CB fun _ n es => dgD n es) := ⟨p_bdeg, f_bdeg, d_bdeg, _, ok_degree (fun_s F_bdeg) T2', ⟨a_bdeg, g_bdeg, t_bdeg, _, c_bdeg⟩, b_bdeg⟩
  have D_bno : Pr P w K mg base CB "is_nought" 1 (spB1 C CB fun _ _ es => .bl es.isEmpty) := ⟨p_bno, f_bno, d_bno, _, ok_nought (fun_s F_bno) T2', ⟨a_bno, g_bno, t_bno, _, c_bno⟩, b_bno⟩
  have D_bents : Mt P w K mg base CB "entries" 1 (spEnts C CB) := ⟨f_bents, d_bents, _, ok_entries (fun_s F_bents) T2', ⟨a_bents, i_bents, F_bents.kp⟩, b_bents⟩
  have D_beq : Sm P w K mg base CB "__eq__" 4 (spBEq C CB) := ⟨f_beq, d_beq, _, ok_beq (fun_s F_beq) T2' LL, a_beq, i_beq, b_beq⟩
  have D_ck : Df P w K mg base "check_blend" 1 1 (spCk C CB) := df_of (fun_s F_ck) (ok_ck (fun_s F_ck) T2') (PySem.W.mg_of X G a_ck) b_ck rfl
  have VB : Bt P w K mg base C CB := { T := T2', L := LL, mkA := mkA, mk0 := ⟨T2, em, mk0⟩, letters := D_blet, degree := D_bdeg, nought := D_bno, entries := D_bents, beq := D_beq, ck := D_ck }
  have D_bam : Mt P w K mg base CB "amount" 4 (spAmount C CB) := ⟨f_bam, d_bam, _, ok_amount (fun_s F_bam) VB D_counts, ⟨a_bam, i_bam, F_bam.kp⟩, b_bam⟩
  have D_brepr : Sm P w K mg base CB "__repr__" 5 (spBRepr C CB) := ⟨f_brepr, d_brepr, _, ok_brepr (fun_s F_brepr) VB D_repr, a_brepr, i_brepr, b_brepr⟩
  have D_oth : Df P w K mg base "_others" 2 2 (spOth C CB) := df_of (fun_s F_oth) (ok_oth (fun_s F_oth) VB) (PySem.W.mg_of X G a_oth) b_oth rfl
  have D_pro : Df P w K mg base "is_product_of" 5 2 (spPro C CB) := df_of (fun_s F_pro) (ok_pro (fun_s F_pro) VB D_counts D_bam) (PySem.W.mg_of X G a_pro) b_pro rfl
  have D_mvd : Df P w K mg base "_moved" 9 3 (spMvd C CB) := df_of (fun_s F_mvd) (ok_mvd (fun_s F_mvd) VB D_oth) (PySem.W.mg_of X G a_mvd) b_mvd rfl
  have D_ckm : Df P w K mg base "_check_moved" 4 2 (spCkm C CB) := df_of (fun_s F_ckm) (ok_ckm (fun_s F_ckm) VB D_counts) (PySem.W.mg_of X G a_ckm) b_ckm rfl
  have D_cka : Df P w K mg base "_check_above" 6 1 (spCka C) := df_of (fun_s F_cka) (ok_cka (fun_s F_cka) D_above) (PySem.W.mg_of X G a_cka) b_cka rfl
  have D_wam : Df P w K mg base "with_amount" 10 3 (spMvd C CB) := df_of (fun_s F_wam) (ok_wam (fun_s F_wam) D_ckm D_cka D_mvd) (PySem.W.mg_of X G a_wam) b_wam rfl
  have D_wo : Df P w K mg base "without" 9 2 (spWo C CB) := df_of (fun_s F_wo) (ok_wo (fun_s F_wo) VB D_pro D_oth) (PySem.W.mg_of X G a_wo) b_wo rfl
  have DK_wam : DfKn P w K mg base "with_amount" 10 2 ["number"] (fun as bs => as ++ bs) (spMvd C CB) := ⟨f_wam, d_wam, _, _, fun vs zs => vs ++ zs, ok_wam (fun_s F_wam) D_ckm D_cka D_mvd, PySem.W.mg_of X G a_wam, F_wam.kp, bK_wam, fun _ _ _ _ _ h1 h2 => Args.append h1 h2⟩
  have D_draw : Df P w K mg base "_law_draw" 1 2 spDraw := df_of (fun_s F_draw) (ok_draw (fun_s F_draw) T) (PySem.W.mg_of X G a_draw) b_draw rfl
  have D_pick : Df P w K mg base "_law_pick" 2 2 spPick := df_of (fun_s F_pick) (ok_pick (fun_s F_pick) T D_draw) (PySem.W.mg_of X G a_pick) b_pick rfl
  have D_low : Df P w K mg base "_law_low" 1 2 spLow := df_of (fun_s F_low) (ok_low (fun_s F_low) T) (PySem.W.mg_of X G a_low) b_low rfl
  have D_sum : Df P w K mg base "_law_sum" 2 2 (spFF addF) := df_of (fun_s F_sum) (ok_sum (fun_s F_sum) D_low) (PySem.W.mg_of X G a_sum) b_sum rfl
  have D_by : Df P w K mg base "_law_product" 2 2 (spFF mulF) := df_of (fun_s F_by) (ok_by (fun_s F_by) D_low) (PySem.W.mg_of X G a_by) b_by rfl
  have D_am : Df P w K mg base "_law_amount" 3 1 spAm := df_of (fun_s F_am) (ok_am (fun_s F_am) D_draw D_pick D_low) (PySem.W.mg_of X G a_am) b_am rfl
  have D_any : Df P w K mg base "_law_any" 4 4 spAny := df_of (fun_s F_any) (ok_any (fun_s F_any) T D_draw D_am) (PySem.W.mg_of X G a_any) b_any rfl
  have D_made : Df P w K mg base "_law_made" 9 2 (spMade C CB) := df_of (fun_s F_made) (ok_made (fun_s F_made) VB) (PySem.W.mg_of X G a_made) b_made rfl
  have D_cnt : Df P w K mg base "_law_counts" 2 3 spCnt := df_of (fun_s F_cnt) (ok_cnt (fun_s F_cnt) T D_draw) (PySem.W.mg_of X G a_cnt) b_cnt rfl
  have D_shown : Df P w K mg base "_law_shown" 5 1 spShown := df_of (fun_s F_shown) (ok_shown (fun_s F_shown) VB D_repr) (PySem.W.mg_of X G a_shown) b_shown rfl
  have W : Lw P w K mg base C CB := { V := VB, R := D_repr, BR := D_brepr, am := D_bam, draw := D_draw, pick := D_pick, lam := D_am, wam := D_wam, wamK := DK_wam, wo := D_wo, shown := D_shown }
  have D_mr : Df P w K mg base "_law_moved_right" 11 5 (spMR C CB) := df_of (fun_s F_mr) (ok_mr (fun_s F_mr) W) (PySem.W.mg_of X G a_mr) b_mr rfl
  have D_wr : Df P w K mg base "_law_without_right" 10 4 (spWR C CB) := df_of (fun_s F_wr) (ok_wr (fun_s F_wr) W) (PySem.W.mg_of X G a_wr) b_wr rfl
  have D_or : Df P w K mg base "_law_one_right" 12 3 spOR := df_of (fun_s F_or) (ok_or (fun_s F_or) W D_made D_cnt D_mr D_wr) (PySem.W.mg_of X G a_or) b_or rfl
  have D_ti : NfT P w K mg base "_law_times" 3 spTimes := ⟨f_ti, d_ti, _, ok_ti (fun_s F_ti) T2' D_sum D_by, PySem.W.mg_of X G a_ti, F_ti.kp, b_ti⟩
  have D_fo : NfT P w K mg base "_law_forms" 4 spForms := ⟨f_fo, d_fo, _, ok_fo (fun_s F_fo) T2' D_draw D_ti, PySem.W.mg_of X G a_fo, F_fo.kp, b_fo⟩
  have D_ba : Df P w K mg base "_law_bare" 2 3 spBare := df_of (fun_s F_ba) (ok_ba (fun_s F_ba) T2' D_draw) (PySem.W.mg_of X G a_ba) b_ba rfl
  have D_mo : Df P w K mg base "_law_model" 5 3 spModel := df_of (fun_s F_mo) (ok_mo (fun_s F_mo) T2' D_draw D_pick D_by D_fo D_ba D_any) (PySem.W.mg_of X G a_mo) b_mo rfl
  have D_right : Df P w K mg base "_law_right" 13 1 spRight := df_of (fun_s F_right) (ok_right (fun_s F_right) D_draw D_any D_mo D_or) (PySem.W.mg_of X G a_right) b_right rfl
  have D_pot : Nf P w K mg base "_law_pot" 1 spPot := ⟨f_pot, d_pot, _, ok_pot (fun_s F_pot) T, PySem.W.mg_of X G a_pot, F_pot.kp, b_pot⟩
  exact ok_law (fun_s F_law) T2' D_pot D_right
end K46

set_option Elab.async false
open PySem PySem.W PyProof.Rows
set_option maxRecDepth 100000 in
set_option maxHeartbeats 0 in
theorem PySem.Challenge.cw_onecrest_k46_whole_amounts_moved_holds : PySem.Challenge.rw_onecrest_k46_whole_amounts_moved.Holds := by
  w_on; o_law; k_head; (case hw => w_witness2)
  k_fill
  refine DL.walk_gn (l := PySem.Challenge.rw_onecrest_k46_whole_amounts_moved) (n := 63) (k := 14) (x := "_law_script") (sp := fun w => DL.lift _ K46.spLaw) rfl (by decide) rfl ⟨rfl, by decide, by decide⟩ (fun w h Y => PySem.W.kIn_of Y) ?F (fun _ H a ns _ hS => K46.law_gives H a ns hS)
  case F =>
    intro w mg fa h KX G hmg
    refine' K46.lw_mk KX G hmg ?aC ?aCB ?a_isint ?F_isint ?a_iscount ?F_iscount ?a_islist ?F_islist ?a_counts ?F_counts ?a_small ?F_small ?a_rising ?F_rising ?a_isnum ?F_isnum ?a_above ?F_above ?a_ratof ?F_ratof ?a_let ?F_let ?a_entry ?F_entry ?a_ck ?F_ck ?a_pro ?F_pro ?a_wam ?F_wam ?a_wo ?F_wo ?a_ckm ?F_ckm ?a_cka ?F_cka ?a_oth ?F_oth ?a_mvd ?F_mvd ?a_pot ?F_pot ?a_draw ?F_draw ?a_pick ?F_pick ?a_low ?F_low ?a_sum ?F_sum ?a_by ?F_by ?a_am ?F_am ?a_any ?F_any ?a_ti ?F_ti ?a_fo ?F_fo ?a_mo ?F_mo ?a_ba ?F_ba ?a_made ?F_made ?a_cnt ?F_cnt ?a_shown ?F_shown ?a_mr ?F_mr ?a_wr ?F_wr ?a_or ?F_or ?a_right ?F_right ?a_law ?F_law ?a_init ?i_init ?F_init ?a_binit ?i_binit ?F_binit ?t2 ?a_add ?i_add ?F_add ?a_radd ?i_radd ?F_radd ?a_mul ?i_mul ?F_mul ?a_rmul ?i_rmul ?F_rmul ?a_eq ?i_eq ?F_eq ?a_repr ?i_repr ?F_repr ?a_ptop ?g_ptop ?t_ptop ?c_ptop ?F_ptop ?a_pbot ?g_pbot ?t_pbot ?c_pbot ?F_pbot ?a_psign ?g_psign ?t_psign ?c_psign ?F_psign ?a_bents ?i_bents ?F_bents ?a_bam ?i_bam ?F_bam ?a_beq ?i_beq ?F_beq ?a_brepr ?i_brepr ?F_brepr ?a_blet ?g_blet ?t_blet ?c_blet ?F_blet ?a_bdeg ?g_bdeg ?t_bdeg ?c_bdeg ?F_bdeg ?a_bno ?g_bno ?t_bno ?c_bno ?F_bno ?pg ?hd ?po ?sa ?mk ?kc ?nT ?nB ?ne ?sf ?nf ?ni ?sub_is ?sub_ob ?sub_li ?sub_tu ?ca ?cm ?pgB ?hdB ?poB ?saB ?mkB ?kcB ?nL ?nD ?nA ?neB ?sfB ?nfB ?niB ?sub_isB ?sub_obB ?caB ?cmB ?cn ?ct ?tyC ?s_NoneType ?s_bool ?s_str ?s_tuple ?s_list ?s_int ?s_dict ?s_intB ?lm ?la ?z_gcd ?z_ml ?z_md ?z_me ?z_isinstance ?z_int ?z_bool ?z_list ?z_tuple ?z_abs ?z_len ?z_max ?z_divmod ?z_str ?z_repr ?z_range ?z_all ?z_zip ?z_enumerate ?z_sorted ?z_sum ?z_min ?z_dict
    (case aC => k_is)
    (case aCB => k_is)
    (case a_isint => k_is)
    (case F_isint => (refine' ⟨_, L2.fun_mk ?l ?c ?k⟩; (case l => k_is); (case c => k_is); (case k => k_is)))
    (case a_iscount => k_is)
    (case F_iscount => (refine' ⟨_, L2.fun_mk ?l ?c ?k⟩; (case l => k_is); (case c => k_is); (case k => k_is)))
    (case a_islist => k_is)
    (case F_islist => (refine' ⟨_, L2.fun_mk ?l ?c ?k⟩; (case l => k_is); (case c => k_is); (case k => k_is)))
    (case a_counts => k_is)
    (case F_counts => (refine' ⟨_, L2.fun_mk ?l ?c ?k⟩; (case l => k_is); (case c => k_is); (case k => k_is)))
    (case a_small => k_is)
    (case F_small => (refine' ⟨_, L2.fun_mk ?l ?c ?k⟩; (case l => k_is); (case c => k_is); (case k => k_is)))
    (case a_rising => k_is)
    (case F_rising => (refine' ⟨_, L2.fun_mk ?l ?c ?k⟩; (case l => k_is); (case c => k_is); (case k => k_is)))
    (case a_isnum => k_is)
    (case F_isnum => (refine' ⟨_, L2.fun_mk ?l ?c ?k⟩; (case l => k_is); (case c => k_is); (case k => k_is)))
    (case a_above => k_is)
    (case F_above => (refine' ⟨_, L2.fun_mk ?l ?c ?k⟩; (case l => k_is); (case c => k_is); (case k => k_is)))
    (case a_ratof => k_is)
    (case F_ratof => (refine' ⟨_, L2.fun_mk ?l ?c ?k⟩; (case l => k_is); (case c => k_is); (case k => k_is)))
    (case a_let => k_is)
    (case F_let => (refine' ⟨_, L2.fun_mk ?l ?c ?k⟩; (case l => k_is); (case c => k_is); (case k => k_is)))
    (case a_entry => k_is)
    (case F_entry => (refine' ⟨_, L2.fun_mk ?l ?c ?k⟩; (case l => k_is); (case c => k_is); (case k => k_is)))
    (case a_ck => k_is)
    (case F_ck => (refine' ⟨_, L2.fun_mk ?l ?c ?k⟩; (case l => k_is); (case c => k_is); (case k => k_is)))
    (case a_pro => k_is)
    (case F_pro => (refine' ⟨_, L2.fun_mk ?l ?c ?k⟩; (case l => k_is); (case c => k_is); (case k => k_is)))
    (case a_wam => k_is)
    (case F_wam => (refine' ⟨_, L2.fun_mk ?l ?c ?k⟩; (case l => k_is); (case c => k_is); (case k => k_is)))
    (case a_wo => k_is)
    (case F_wo => (refine' ⟨_, L2.fun_mk ?l ?c ?k⟩; (case l => k_is); (case c => k_is); (case k => k_is)))
    (case a_ckm => k_is)
    (case F_ckm => (refine' ⟨_, L2.fun_mk ?l ?c ?k⟩; (case l => k_is); (case c => k_is); (case k => k_is)))
    (case a_cka => k_is)
    (case F_cka => (refine' ⟨_, L2.fun_mk ?l ?c ?k⟩; (case l => k_is); (case c => k_is); (case k => k_is)))
    (case a_oth => k_is)
    (case F_oth => (refine' ⟨_, L2.fun_mk ?l ?c ?k⟩; (case l => k_is); (case c => k_is); (case k => k_is)))
    (case a_mvd => k_is)
    (case F_mvd => (refine' ⟨_, L2.fun_mk ?l ?c ?k⟩; (case l => k_is); (case c => k_is); (case k => k_is)))
    (case a_pot => k_is)
    (case F_pot => (refine' ⟨_, L2.fun_mk ?l ?c ?k⟩; (case l => k_is); (case c => k_is); (case k => k_is)))
    (case a_draw => k_is)
    (case F_draw => (refine' ⟨_, L2.fun_mk ?l ?c ?k⟩; (case l => k_is); (case c => k_is); (case k => k_is)))
    (case a_pick => k_is)
    (case F_pick => (refine' ⟨_, L2.fun_mk ?l ?c ?k⟩; (case l => k_is); (case c => k_is); (case k => k_is)))
    (case a_low => k_is)
    (case F_low => (refine' ⟨_, L2.fun_mk ?l ?c ?k⟩; (case l => k_is); (case c => k_is); (case k => k_is)))
    (case a_sum => k_is)
    (case F_sum => (refine' ⟨_, L2.fun_mk ?l ?c ?k⟩; (case l => k_is); (case c => k_is); (case k => k_is)))
    (case a_by => k_is)
    (case F_by => (refine' ⟨_, L2.fun_mk ?l ?c ?k⟩; (case l => k_is); (case c => k_is); (case k => k_is)))
    (case a_am => k_is)
    (case F_am => (refine' ⟨_, L2.fun_mk ?l ?c ?k⟩; (case l => k_is); (case c => k_is); (case k => k_is)))
    (case a_any => k_is)
    (case F_any => (refine' ⟨_, L2.fun_mk ?l ?c ?k⟩; (case l => k_is); (case c => k_is); (case k => k_is)))
    (case a_ti => k_is)
    (case F_ti => (refine' ⟨_, L2.fun_mk ?l ?c ?k⟩; (case l => k_is); (case c => k_is); (case k => k_is)))
    (case a_fo => k_is)
    (case F_fo => (refine' ⟨_, L2.fun_mk ?l ?c ?k⟩; (case l => k_is); (case c => k_is); (case k => k_is)))
    (case a_mo => k_is)
    (case F_mo => (refine' ⟨_, L2.fun_mk ?l ?c ?k⟩; (case l => k_is); (case c => k_is); (case k => k_is)))
    (case a_ba => k_is)
    (case F_ba => (refine' ⟨_, L2.fun_mk ?l ?c ?k⟩; (case l => k_is); (case c => k_is); (case k => k_is)))
    (case a_made => k_is)
    (case F_made => (refine' ⟨_, L2.fun_mk ?l ?c ?k⟩; (case l => k_is); (case c => k_is); (case k => k_is)))
    (case a_cnt => k_is)
    (case F_cnt => (refine' ⟨_, L2.fun_mk ?l ?c ?k⟩; (case l => k_is); (case c => k_is); (case k => k_is)))
    (case a_shown => k_is)
    (case F_shown => (refine' ⟨_, L2.fun_mk ?l ?c ?k⟩; (case l => k_is); (case c => k_is); (case k => k_is)))
    (case a_mr => k_is)
    (case F_mr => (refine' ⟨_, L2.fun_mk ?l ?c ?k⟩; (case l => k_is); (case c => k_is); (case k => k_is)))
    (case a_wr => k_is)
    (case F_wr => (refine' ⟨_, L2.fun_mk ?l ?c ?k⟩; (case l => k_is); (case c => k_is); (case k => k_is)))
    (case a_or => k_is)
    (case F_or => (refine' ⟨_, L2.fun_mk ?l ?c ?k⟩; (case l => k_is); (case c => k_is); (case k => k_is)))
    (case a_right => k_is)
    (case F_right => (refine' ⟨_, L2.fun_mk ?l ?c ?k⟩; (case l => k_is); (case c => k_is); (case k => k_is)))
    (case a_law => k_is)
    (case F_law => (refine' ⟨_, L2.fun_mk ?l ?c ?k⟩; (case l => k_is); (case c => k_is); (case k => k_is)))
    (case a_init => k_is)
    (case i_init => k_is)
    (case F_init => (refine' ⟨_, K46.fund1 ?l ?c ?k ?t⟩; (case l => k_is); (case c => k_is); (case k => k_is); (case t => k_is)))
    (case a_binit => k_is)
    (case i_binit => k_is)
    (case F_binit => (refine' ⟨_, K46.fundT ?l ?c ?k ?t⟩; (case l => k_is); (case c => k_is); (case k => k_is); (case t => k_is)))
    (case t2 => k_is)
    (case a_add => k_is)
    (case i_add => k_is)
    (case F_add => (refine' ⟨_, L2.fun_mk ?l ?c ?k⟩; (case l => k_is); (case c => k_is); (case k => k_is)))
    (case a_radd => k_is)
    (case i_radd => k_is)
    (case F_radd => (refine' ⟨_, L2.fun_mk ?l ?c ?k⟩; (case l => k_is); (case c => k_is); (case k => k_is)))
    (case a_mul => k_is)
    (case i_mul => k_is)
    (case F_mul => (refine' ⟨_, L2.fun_mk ?l ?c ?k⟩; (case l => k_is); (case c => k_is); (case k => k_is)))
    (case a_rmul => k_is)
    (case i_rmul => k_is)
    (case F_rmul => (refine' ⟨_, L2.fun_mk ?l ?c ?k⟩; (case l => k_is); (case c => k_is); (case k => k_is)))
    (case a_eq => k_is)
    (case i_eq => k_is)
    (case F_eq => (refine' ⟨_, L2.fun_mk ?l ?c ?k⟩; (case l => k_is); (case c => k_is); (case k => k_is)))
    (case a_repr => k_is)
    (case i_repr => k_is)
    (case F_repr => (refine' ⟨_, L2.fun_mk ?l ?c ?k⟩; (case l => k_is); (case c => k_is); (case k => k_is)))
    (case a_ptop => k_is)
    (case g_ptop => k_is)
    (case t_ptop => k_is)
    (case c_ptop => k_is)
    (case F_ptop => (refine' ⟨_, L2.fun_mk ?l ?c ?k⟩; (case l => k_is); (case c => k_is); (case k => k_is)))
    (case a_pbot => k_is)
    (case g_pbot => k_is)
    (case t_pbot => k_is)
    (case c_pbot => k_is)
    (case F_pbot => (refine' ⟨_, L2.fun_mk ?l ?c ?k⟩; (case l => k_is); (case c => k_is); (case k => k_is)))
    (case a_psign => k_is)
    (case g_psign => k_is)
    (case t_psign => k_is)
    (case c_psign => k_is)
    (case F_psign => (refine' ⟨_, L2.fun_mk ?l ?c ?k⟩; (case l => k_is); (case c => k_is); (case k => k_is)))
    (case a_bents => k_is)
    (case i_bents => k_is)
    (case F_bents => (refine' ⟨_, L2.fun_mk ?l ?c ?k⟩; (case l => k_is); (case c => k_is); (case k => k_is)))
    (case a_bam => k_is)
    (case i_bam => k_is)
    (case F_bam => (refine' ⟨_, L2.fun_mk ?l ?c ?k⟩; (case l => k_is); (case c => k_is); (case k => k_is)))
    (case a_beq => k_is)
    (case i_beq => k_is)
    (case F_beq => (refine' ⟨_, L2.fun_mk ?l ?c ?k⟩; (case l => k_is); (case c => k_is); (case k => k_is)))
    (case a_brepr => k_is)
    (case i_brepr => k_is)
    (case F_brepr => (refine' ⟨_, L2.fun_mk ?l ?c ?k⟩; (case l => k_is); (case c => k_is); (case k => k_is)))
    (case a_blet => k_is)
    (case g_blet => k_is)
    (case t_blet => k_is)
    (case c_blet => k_is)
    (case F_blet => (refine' ⟨_, L2.fun_mk ?l ?c ?k⟩; (case l => k_is); (case c => k_is); (case k => k_is)))
    (case a_bdeg => k_is)
    (case g_bdeg => k_is)
    (case t_bdeg => k_is)
    (case c_bdeg => k_is)
    (case F_bdeg => (refine' ⟨_, L2.fun_mk ?l ?c ?k⟩; (case l => k_is); (case c => k_is); (case k => k_is)))
    (case a_bno => k_is)
    (case g_bno => k_is)
    (case t_bno => k_is)
    (case c_bno => k_is)
    (case F_bno => (refine' ⟨_, L2.fun_mk ?l ?c ?k⟩; (case l => k_is); (case c => k_is); (case k => k_is)))
    (case pg => k_is)
    (case hd => k_is)
    (case po => k_is)
    (case sa => k_is)
    (case mk => k_is)
    (case kc => k_is)
    (case nT => k_is)
    (case nB => k_is)
    (case ne => k_is)
    (case sf => k_is)
    (case nf => k_is)
    (case ni => k_is)
    (case sub_is => k_is)
    (case sub_ob => k_is)
    (case sub_li => k_is)
    (case sub_tu => k_is)
    (case ca => k_is)
    (case cm => k_is)
    (case pgB => k_is)
    (case hdB => k_is)
    (case poB => k_is)
    (case saB => k_is)
    (case mkB => k_is)
    (case kcB => k_is)
    (case nL => k_is)
    (case nD => k_is)
    (case nA => k_is)
    (case neB => k_is)
    (case sfB => k_is)
    (case nfB => k_is)
    (case niB => k_is)
    (case sub_isB => k_is)
    (case sub_obB => k_is)
    (case caB => k_is)
    (case cmB => k_is)
    (case cn => k_is)
    (case ct => k_is)
    (case tyC => k_is)
    (case s_NoneType => k_is)
    (case s_bool => k_is)
    (case s_str => k_is)
    (case s_tuple => k_is)
    (case s_list => k_is)
    (case s_int => k_is)
    (case s_dict => k_is)
    (case s_intB => k_is)
    (case lm => k_is)
    (case la => k_is)
    (case z_gcd => k_is)
    (case z_ml => k_is)
    (case z_md => k_is)
    (case z_me => k_is)
    (case z_isinstance => k_is)
    (case z_int => k_is)
    (case z_bool => k_is)
    (case z_list => k_is)
    (case z_tuple => k_is)
    (case z_abs => k_is)
    (case z_len => k_is)
    (case z_max => k_is)
    (case z_divmod => k_is)
    (case z_str => k_is)
    (case z_repr => k_is)
    (case z_range => k_is)
    (case z_all => k_is)
    (case z_zip => k_is)
    (case z_enumerate => k_is)
    (case z_sorted => k_is)
    (case z_sum => k_is)
    (case z_min => k_is)
    (case z_dict => k_is)

