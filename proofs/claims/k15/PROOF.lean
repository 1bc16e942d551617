import PyProof.Rows.All
import Wide.All
import OpenK.AllK
import Wide.FinOn
import HandS.ForMost
import HandS.Property
import HandS.Defaults
import HandS.IsInst
import HandS.Wide
import HandS.WideBits
import HandS.ClsMeth
import HandS.MakeKw
import HandS.MakeKwOnly
import HandS.FStr
import HandS.RaiseMore
import HandS.Gcd
import KE.KFmtOwn
import PyProof.ReprNest
import PyProof.ReprRoads
import HandS.Zip
import HandS.List
import PyProof.StrOps2
import HandS.Dict
import HandS.Walk
import HandS.Conv
import HandS.TupLen
import HandS.TupSets
import HandS.DictComp
import KE.KDictPairs
import HandS.DictTup
import HandS.OwnEq
import HandS.DictEq
import KE.GoesZip
import HandS.Text
import HandS.Codes
import HandS.StrMore
import KE.KMathGC
import KE.GoesEnum
import PyProof.CollectStr
import PyProof.ListStr
import HandS.More
import HandS.TupAny
import HandS.Ends
import KE.IntBitsLaws
import PySem.Challenge.RW_onecrest_k15_whole_worths_along_lines
import KE.SortKeyHeap
import HandS.SortKw
import PyProof.TupleOfSeq
import HandS.Deep
import KE.KDictDisplayH
import KE.GoesMore
import PyProof.ReprLen
import KE.KDictCopyH
import KE.KDictOf
import HandS.Style
import KE.KRevSl
set_option Elab.async false
set_option linter.all false
set_option maxRecDepth 100000
set_option maxHeartbeats 2000000
/-! DL: a layer of data over the heap: what an expression, a statement, a def does, told of data alone (immutable data, lists owned by one name, pots) -/
namespace DL
open PySem L2

/-! ### data -/
inductive D where
  | non | bl (b : Bool) | int (i : Int) | str (s : Str) | ty (n : String) | cls (a : Addr)
  | tup (l : List D) | lst (l : List D) | frl (l : List Int)
  | obj (C : Addr) (fs : List (Str × D))
  | dct
  | dcT (kvs : List (List Key × D)) | dcK (kvs : List (Key × D))

mutual
/-- v is the datum d, in the heap I of what never changes -/
inductive Dn (K : PySem.W.Frag) (I : Hp) : D → V → Prop
  | non : Dn K I .non .non
  | bl (b) : Dn K I (.bl b) (.bl b)
  | int (i) : Dn K I (.int i) (.int i)
  | str (s) : Dn K I (.str s) (.str s)
  | ty (n) : Dn K I (.ty n) (.ty n)
  | cls (a) : Dn K I (.cls a) (.ref a)
  | tup {l a xs} : I a = some (.tup xs) → Dns K I l xs → Dn K I (.tup l) (.ref a)
  | lst {l a xs} : I a = some (.lst xs) → Dns K I l xs → Dn K I (.lst l) (.ref a)
  | frl {l : List Int} {a} : SqL K I a (l.map V.int) → Dn K I (.frl l) (.ref a)
  | obj {C fs a dx vs} : I a = some (.ins C dx vs) → Dnf K I fs vs → Dn K I (.obj C fs) (.ref a)
  | dct {a kvs} : I a = some (.dK kvs) → Dn K I .dct (.ref a)
  | dcT {kvs a o ws} : I a = some (.frz o (.dT ws)) → Dnt K I kvs ws → Dn K I (.dcT kvs) (.ref a)
  | dcK {kvs a ws} : I a = some (.dK ws) → Dnk K I kvs ws → Dn K I (.dcK kvs) (.ref a)
inductive Dns (K : PySem.W.Frag) (I : Hp) : List D → List V → Prop
  | nil : Dns K I [] []
  | cons {d v l xs} : Dn K I d v → Dns K I l xs → Dns K I (d :: l) (v :: xs)
inductive Dnf (K : PySem.W.Frag) (I : Hp) : List (Str × D) → List (Str × V) → Prop
  | nil : Dnf K I [] []
  | cons {f d v l xs} : Dn K I d v → Dnf K I l xs → Dnf K I ((f, d) :: l) ((f, v) :: xs)
inductive Dnt (K : PySem.W.Frag) (I : Hp) : List (List Key × D) → List (List Key × V) → Prop
  | nil : Dnt K I [] []
  | cons {f d v l xs} : Dn K I d v → Dnt K I l xs → Dnt K I ((f, d) :: l) ((f, v) :: xs)
inductive Dnk (K : PySem.W.Frag) (I : Hp) : List (Key × D) → List (Key × V) → Prop
  | nil : Dnk K I [] []
  | cons {f d v l xs} : Dn K I d v → Dnk K I l xs → Dnk K I ((f, d) :: l) ((f, v) :: xs)
end
def Ex (H H' : Hp) : Prop := ∀ a o, H a = some o → H' a = some o
theorem Ex.refl (H : Hp) : Ex H H := fun _ _ h => h
theorem Ex.trans {H H1 H2 : Hp} (a : Ex H H1) (b : Ex H1 H2) : Ex H H2 := fun x o h => b x o (a x o h)
theorem Ex.new {H : Hp} {p : Addr} {o : HO} (h : H p = none) : Ex H (upd H p o) := fun a u e => by
  rw [upd_ne (ne_of_none e h)]
  exact e
theorem Ex.free {H H' : Hp} (e : Ex H H') {p : Addr} (h : H' p = none) : H p = none := by
  cases h1 : H p with
  | none => rfl
  | some o =>
    rw [e p o h1] at h
    cases h
theorem Ex.l {K : PySem.W.Frag} {H H' : Hp} {a : Addr} {xs : List V} (e : Ex H H') (h : SqL K H a xs) : SqL K H' a xs := by
  rcases h with (h | ⟨o, h⟩) | h
  · exact .inl (.inl (e _ _ h))
  · exact .inl (.inr ⟨o, e _ _ h⟩)
  · exact .inr h
section
variable {K : PySem.W.Frag} {I I' : Hp}
mutual
theorem Dn.mono (e : Ex I I') : ∀ {d : D} {v : V}, Dn K I d v → Dn K I' d v
  | _, _, .non => .non
  | _, _, .bl b => .bl b
  | _, _, .int i => .int i
  | _, _, .str s => .str s
  | _, _, .ty n => .ty n
  | _, _, .cls a => .cls a
  | _, _, .tup h r => .tup (e _ _ h) (Dns.mono e r)
  | _, _, .lst h r => .lst (e _ _ h) (Dns.mono e r)
  | _, _, .frl h => .frl (e.l h)
  | _, _, .obj h r => .obj (e _ _ h) (Dnf.mono e r)
  | _, _, .dct h => .dct (e _ _ h)
  | _, _, .dcT h r => .dcT (e _ _ h) (Dnt.mono e r)
  | _, _, .dcK h r => .dcK (e _ _ h) (Dnk.mono e r)
theorem Dns.mono (e : Ex I I') : ∀ {l : List D} {xs : List V}, Dns K I l xs → Dns K I' l xs
  | _, _, .nil => .nil
  | _, _, .cons h r => .cons (Dn.mono e h) (Dns.mono e r)
theorem Dnf.mono (e : Ex I I') : ∀ {l : List (Str × D)} {xs : List (Str × V)}, Dnf K I l xs → Dnf K I' l xs
  | _, _, .nil => .nil
  | _, _, .cons h r => .cons (Dn.mono e h) (Dnf.mono e r)
theorem Dnt.mono (e : Ex I I') : ∀ {l : List (List Key × D)} {xs : List (List Key × V)}, Dnt K I l xs → Dnt K I' l xs
  | _, _, .nil => .nil
  | _, _, .cons h r => .cons (Dn.mono e h) (Dnt.mono e r)
theorem Dnk.mono (e : Ex I I') : ∀ {l : List (Key × D)} {xs : List (Key × V)}, Dnk K I l xs → Dnk K I' l xs
  | _, _, .nil => .nil
  | _, _, .cons h r => .cons (Dn.mono e h) (Dnk.mono e r)
end
theorem Dns.length : ∀ {l : List D} {xs : List V}, Dns K I l xs → l.length = xs.length
  | _, _, .nil => rfl
  | _, _, .cons _ r => congrArg (· + 1) (Dns.length r)
theorem Dns.append : ∀ {l m : List D} {xs ys : List V}, Dns K I l xs → Dns K I m ys → Dns K I (l ++ m) (xs ++ ys)
  | _, _, _, _, .nil, s => s
  | _, _, _, _, .cons h r, s => .cons h (Dns.append r s)
theorem Dns.get : ∀ {l : List D} {xs : List V} {i : Nat} {v : V}, Dns K I l xs → xs[i]? = some v → ∃ d, l[i]? = some d ∧ Dn K I d v
  | _, _, _, _, .nil, e => by simp at e
  | _, _, 0, _, .cons h _, e => by
    simp at e
    subst e
    exact ⟨_, rfl, h⟩
  | _, _, i + 1, _, .cons _ r, e => by
    obtain ⟨d, h1, h2⟩ := Dns.get (i := i) r (by simpa using e)
    exact ⟨d, by simpa using h1, h2⟩
theorem Dns.get' : ∀ {l : List D} {xs : List V} {i : Nat} {d : D}, Dns K I l xs → l[i]? = some d → ∃ v, xs[i]? = some v ∧ Dn K I d v
  | _, _, _, _, .nil, e => by simp at e
  | _, _, 0, _, .cons h _, e => by
    simp at e
    subst e
    exact ⟨_, rfl, h⟩
  | _, _, i + 1, _, .cons _ r, e => by
    obtain ⟨d, h1, h2⟩ := Dns.get' (i := i) r (by simpa using e)
    exact ⟨d, by simpa using h1, h2⟩
theorem Dns.set {d : D} {v : V} (h : Dn K I d v) : ∀ {l : List D} {xs : List V} (i : Nat), Dns K I l xs → Dns K I (l.set i d) (xs.set i v)
  | _, _, _, .nil => .nil
  | _, _, 0, .cons _ r => .cons h r
  | _, _, i + 1, .cons q r => .cons q (Dns.set h i r)
theorem Dns.rep {l : List D} {xs : List V} (h : Dns K I l xs) : ∀ n : Nat, Dns K I (List.replicate n l).flatten (List.replicate n xs).flatten
  | 0 => .nil
  | n + 1 => by
    rw [List.replicate_succ, List.replicate_succ, List.flatten_cons, List.flatten_cons]
    exact h.append (Dns.rep h n)
theorem Dnf.look : ∀ {fs : List (Str × D)} {vs : List (Str × V)} {f : Str} {d : D}, Dnf K I fs vs → fs.lookup f = some d → ∃ v, vs.lookup f = some v ∧ Dn K I d v
  | _, _, _, _, .nil, e => by simp at e
  | _, _, f, d, .cons (f := g) h r, e => by
    by_cases q : f = g
    · subst q
      simp only [List.lookup_cons, beq_self_eq_true] at e ⊢
      cases e
      exact ⟨_, rfl, h⟩
    · have z : (f == g) = false := beq_eq_false_iff_ne.mpr q
      simp only [List.lookup_cons, z] at e ⊢
      exact Dnf.look r e
theorem Dnf.nolook : ∀ {fs : List (Str × D)} {vs : List (Str × V)} {f : Str}, Dnf K I fs vs → fs.lookup f = none → vs.lookup f = none
  | _, _, _, .nil, _ => rfl
  | _, _, f, .cons (f := g) h r, e => by
    by_cases q : f = g
    · subst q
      simp only [List.lookup_cons, beq_self_eq_true] at e
      cases e
    · have z : (f == g) = false := beq_eq_false_iff_ne.mpr q
      simp only [List.lookup_cons, z] at e ⊢
      exact Dnf.nolook r e
end

/-! ### worlds -/
/-- what never changes; which addresses are pots -/
structure Wd where
  I : Hp
  P : Addr → Prop
def PotAt (H : Hp) (a : Addr) : Prop := ∃ x y : Int, H a = some (.lst [.int x, .int y]) ∧ 0 ≤ y ∧ y < 2 ^ 31
def InG (g : List Code) (b : Addr) : Prop := ∃ id rest kw, Code.builtin id ⟨.ref b :: rest, kw⟩ ∈ g
theorem clear_of {g : List Code} {b : Addr} (h : ¬ InG g b) : Clear g b := fun id v rest kw hm e => h ⟨id, rest, kw, e ▸ hm⟩
/-- the guards that stand around: what is being written as a text -/
def gOf (X : Cx) : List Code := X.A.guards.getD []
structure Ok (g : List Code) (W : Wd) (H : Hp) : Prop where
  gd : ∀ b, InG g b → W.I b = none ∧ H b ≠ none ∧ ∀ ks : List Key, H b ≠ some (.tup (ks.map kV))
  ex : Ex W.I H
  pot : ∀ a, W.P a → W.I a = none ∧ PotAt H a
structure Stp (W : Wd) (H : Hp) (W' : Wd) (H' : Hp) : Prop where
  I : Ex W.I W'.I
  P : ∀ a, W.P a → W'.P a
  keep : ∀ b o, H b = some o → ¬ W.P b → H' b = some o
  old : ∀ b o, H b = some o → (∀ xs, o ≠ .tup xs) → W.I b = none → W'.I b = none
  oldP : ∀ b o, H b = some o → W'.P b → W.P b
section
variable {g : List Code} {W W1 W2 : Wd} {H H1 H2 : Hp}
theorem Stp.refl : Stp W H W H := ⟨Ex.refl _, fun _ h => h, fun _ _ h _ => h, fun _ _ _ _ h => h, fun _ _ _ h => h⟩
theorem Stp.some (a : Stp W H W1 H1) (ok : Ok g W1 H1) {b : Addr} {o : HO} (h : H b = .some o) : ∃ o', H1 b = .some o' := by
  by_cases q : W.P b
  · obtain ⟨x, y, e, _⟩ := (ok.pot b (a.P b q)).2
    exact ⟨_, e⟩
  · exact ⟨o, a.keep b o h q⟩
theorem Stp.trans (a : Stp W H W1 H1) (ok : Ok g W1 H1) (b : Stp W1 H1 W2 H2) : Stp W H W2 H2 where
  I := a.I.trans b.I
  P := fun x h => b.P x (a.P x h)
  keep := fun x o h n => b.keep x o (a.keep x o h n) fun z => n (a.oldP x o h z)
  old := fun x o h t n => by
    by_cases q : W.P x
    · obtain ⟨y1, y2, e, _⟩ := (ok.pot x (a.P x q)).2
      exact b.old x _ e (fun _ z => by cases z) (a.old x o h t n)
    · exact b.old x o (a.keep x o h q) t (a.old x o h t n)
  oldP := fun x o h p => by
    obtain ⟨o', h'⟩ := a.some ok h
    exact a.oldP x o h (b.oldP x o' h' p)
theorem Stp.free (a : Stp W H W1 H1) (ok : Ok g W1 H1) {p : Addr} (h : H1 p = none) : H p = none := by
  cases e : H p with
  | none => rfl
  | some o =>
    obtain ⟨o', e'⟩ := a.some ok e
    rw [h] at e'
    cases e'
theorem Ok.free (ok : Ok g W H) {p : Addr} (h : H p = none) : W.I p = none := ok.ex.free h
theorem Ok.notP (ok : Ok g W H) {p : Addr} (h : H p = none) : ¬ W.P p := fun z => by
  obtain ⟨x, y, e, _⟩ := (ok.pot p z).2
  rw [h] at e
  cases e
/-- something new that never changes -/
abbrev Wd.new (W : Wd) (p : Addr) (o : HO) : Wd := ⟨upd W.I p o, W.P⟩
theorem Ok.new {p : Addr} {o : HO} (ok : Ok g W H) (h : H p = none) : Ok g (W.new p o) (upd H p o) where
  gd := fun b hb => by
    obtain ⟨n, m, m2⟩ := ok.gd b hb
    have ne : b ≠ p := fun z => m (z ▸ h)
    refine ⟨?_, by rw [upd_ne ne]; exact m, by rw [upd_ne ne]; exact m2⟩
    show upd W.I p o b = none
    rw [upd_ne ne]
    exact n
  ex := fun a u e => by
    have e' : upd W.I p o a = some u := e
    by_cases q : a = p
    · subst q
      rw [upd_same] at e' ⊢
      exact e'
    · rw [upd_ne q] at e' ⊢
      exact ok.ex a u e'
  pot := fun a pa => by
    have q : a ≠ p := fun z => ok.notP h (z ▸ pa)
    obtain ⟨n, x, y, e⟩ := ok.pot a pa
    refine ⟨?_, x, y, ?_⟩
    · show upd W.I p o a = none
      rw [upd_ne q]
      exact n
    · rw [upd_ne q]
      exact e
theorem Stp.new {p : Addr} {o : HO} (ok : Ok g W H) (h : H p = none) : Stp W H (W.new p o) (upd H p o) where
  I := Ex.new (ok.free h)
  P := fun _ z => z
  keep := fun b u e _ => Ex.new h b u e
  old := fun b u e _ n => by
    show upd W.I p o b = none
    rw [upd_ne (ne_of_none e h)]
    exact n
  oldP := fun _ _ _ z => z
/-- a new object that is not (yet) part of what never changes -/
theorem Ok.own {p : Addr} {o : HO} (ok : Ok g W H) (h : H p = none) : Ok g W (upd H p o) where
  gd := fun b hb => by
    obtain ⟨n, m, m2⟩ := ok.gd b hb
    have ne : b ≠ p := fun z => m (z ▸ h)
    exact ⟨n, by rw [upd_ne ne]; exact m, by rw [upd_ne ne]; exact m2⟩
  ex := ok.ex.trans (Ex.new h)
  pot := fun a pa => by
    obtain ⟨n, x, y, e⟩ := ok.pot a pa
    exact ⟨n, x, y, Ex.new h _ _ e.1, e.2⟩
theorem Stp.own {p : Addr} {o : HO} (h : H p = none) : Stp W H W (upd H p o) :=
  ⟨Ex.refl _, fun _ z => z, fun b u e _ => Ex.new h b u e, fun _ _ _ _ n => n, fun _ _ _ z => z⟩
end

/-! ### slots -/
inductive Sl where
  | val (d : D) | own (l : List D) | pot | inst (C p dx : Addr) (fs : List (Str × D))
  | ownT (kvs : List (List Key × D))
abbrev En := List (Option Sl)
/-- dicts owned by unlike names are unlike -/
def DistT (S : En) (σ : L2.St) : Prop := ∀ (i j : Nat) (l m : List (List Key × D)) (p : Addr), i ≠ j → S[i]? = some (some (Sl.ownT l)) → S[j]? = some (some (Sl.ownT m)) → σ[i]? = some (some (.ref p)) → σ[j]? ≠ some (some (.ref p))
theorem DistT.set {S : En} {σ : L2.St} (h : DistT S σ) (i : Nat) {x : Option Sl} {y : Option V} (hx : ∀ l, x ≠ some (Sl.ownT l)) : DistT (S.set i x) (σ.set i y) := fun a b l m p ne e1 e2 e3 => by
  have key : ∀ c l, (S.set i x)[c]? = some (some (Sl.ownT l)) → i ≠ c := fun c l e z => by
    subst z
    by_cases q : i < S.length
    · rw [List.getElem?_set_self q] at e
      exact hx l (Option.some.inj e)
    · rw [List.getElem?_eq_none (by simpa using q)] at e
      cases e
  have qa := key a l e1
  have qb := key b m e2
  rw [List.getElem?_set_ne qa] at e1 e3
  rw [List.getElem?_set_ne qb] at e2 ⊢
  exact h a b l m p ne e1 e2 e3
theorem DistT.setS {S : En} {σ : L2.St} (h : DistT S σ) (i : Nat) {x : Option Sl} (hx : ∀ l, x = some (Sl.ownT l) → ∃ m, S[i]? = some (some (Sl.ownT m))) : DistT (S.set i x) σ := fun a b l m p ne e1 e2 e3 => by
  have key : ∀ c l, (S.set i x)[c]? = some (some (Sl.ownT l)) → ∃ m, S[c]? = some (some (Sl.ownT m)) := fun c l e => by
    by_cases z : i = c
    · subst z
      by_cases q : i < S.length
      · rw [List.getElem?_set_self q] at e
        exact hx l (Option.some.inj e)
      · rw [List.getElem?_eq_none (by simpa using q)] at e
        cases e
    · rw [List.getElem?_set_ne z] at e
      exact ⟨l, e⟩
  obtain ⟨l', f1⟩ := key a l e1
  obtain ⟨m', f2⟩ := key b m e2
  exact h a b l' m' p ne f1 f2 e3
section
variable (K : PySem.W.Frag)
def SlOk (B : Hp) (W : Wd) (H : Hp) : Sl → V → Prop
  | .val d, v => Dn K W.I d v
  | .own l, v => ∃ p xs, v = .ref p ∧ B p = none ∧ ¬ W.P p ∧ W.I p = none ∧ H p = some (.lst xs) ∧ Dns K W.I l xs
  | .pot, v => ∃ p, v = .ref p ∧ W.P p
  | .ownT kvs, v => ∃ p ws, v = .ref p ∧ B p = none ∧ ¬ W.P p ∧ W.I p = none ∧ H p = some (.dT ws) ∧ Dnt K W.I kvs ws
  | .inst C p dx fs, v => ∃ vs, v = .ref p ∧ B p = none ∧ B dx = none ∧ dx ≠ p ∧ ¬ W.P p ∧ ¬ W.P dx ∧ W.I p = none ∧ W.I dx = none ∧ H p = some (.ins C dx vs) ∧ H dx = some (.own p) ∧ Dnf K W.I fs vs
structure Rep (g : List Code) (B : Hp) (S : En) (σ : L2.St) (W : Wd) (H : Hp) : Prop where
  ok : Ok g W H
  gb : ∀ b, InG g b → B b ≠ none
  len : S.length = σ.length
  sl : ∀ (i : Nat) (s : Sl), S[i]? = some (some s) → ∃ v, σ[i]? = some (some v) ∧ SlOk K B W H s v
  dist : ∀ (i j : Nat) (l m : List D) (p : Addr), i ≠ j → S[i]? = some (some (.own l)) → S[j]? = some (some (.own m)) → σ[i]? = some (some (.ref p)) → σ[j]? ≠ some (some (.ref p))
  distT : DistT S σ
end
section
variable {K : PySem.W.Frag} {g : List Code} {B : Hp} {S : En} {σ : L2.St} {W W1 : Wd} {H H1 : Hp}
theorem SlOk.step {s : Sl} {v : V} (h : SlOk K B W H s v) (a : Stp W H W1 H1) : SlOk K B W1 H1 s v := by
  cases s with
  | val d => exact Dn.mono a.I h
  | own l =>
    obtain ⟨p, xs, e, b, n, i, hp, r⟩ := h
    exact ⟨p, xs, e, b, fun z => n (a.oldP p _ hp z), a.old p _ hp (fun _ z => by cases z) i, a.keep p _ hp n, r.mono a.I⟩
  | ownT l =>
    obtain ⟨p, xs, e, b, n, i, hp, r⟩ := h
    exact ⟨p, xs, e, b, fun z => n (a.oldP p _ hp z), a.old p _ hp (fun _ z => by cases z) i, a.keep p _ hp n, r.mono a.I⟩
  | pot =>
    obtain ⟨p, e, z⟩ := h
    exact ⟨p, e, a.P p z⟩
  | inst C p dx fs =>
    obtain ⟨vs, e, b, b2, ne, n, n2, i, i2, hp, hd, r⟩ := h
    exact ⟨vs, e, b, b2, ne, fun z => n (a.oldP p _ hp z), fun z => n2 (a.oldP dx _ hd z), a.old p _ hp (fun _ z => by cases z) i, a.old dx _ hd (fun _ z => by cases z) i2, a.keep p _ hp n, a.keep dx _ hd n2, r.mono a.I⟩
theorem Rep.step (r : Rep K g B S σ W H) (a : Stp W H W1 H1) (ok : Ok g W1 H1) : Rep K g B S σ W1 H1 :=
  ⟨ok, r.gb, r.len, fun i s e => let ⟨v, h1, h2⟩ := r.sl i s e; ⟨v, h1, h2.step a⟩, r.dist, r.distT⟩
theorem Rep.set {i : Nat} {d : D} {v : V} (r : Rep K g B S σ W H) (h : Dn K W.I d v) : Rep K g B (S.set i (some (.val d))) (σ.set i (some v)) W H where
  ok := r.ok
  gb := r.gb
  len := by simpa using r.len
  sl := fun j s e => by
    by_cases q : i = j
    · subst q
      by_cases z : i < S.length
      · rw [List.getElem?_set_self z] at e
        cases e
        exact ⟨v, List.getElem?_set_self (r.len ▸ z), h⟩
      · rw [List.getElem?_eq_none (by simpa using z)] at e
        cases e
    · rw [List.getElem?_set_ne q] at e ⊢
      exact r.sl j s e
  dist := fun a b l m p n e1 e2 e3 => by
    have qa : i ≠ a := fun z => by
      subst z
      by_cases y : i < S.length
      · rw [List.getElem?_set_self y] at e1; cases e1
      · rw [List.getElem?_eq_none (by simpa using y)] at e1; cases e1
    have qb : i ≠ b := fun z => by
      subst z
      by_cases y : i < S.length
      · rw [List.getElem?_set_self y] at e2; cases e2
      · rw [List.getElem?_eq_none (by simpa using y)] at e2; cases e2
    rw [List.getElem?_set_ne qa] at e1 e3
    rw [List.getElem?_set_ne qb] at e2 ⊢
    exact r.dist a b l m p n e1 e2 e3
  distT := r.distT.set i fun l z => by cases z
end

/-! ### the weakest readings -/
section
variable (X : Cx)
def WE (e : Expr) : TE := fun σ H Q => ∀ pins s, Inv X pins σ H s → wpAny (model X.prog X.w) X.A (eval e X.env) (EP X pins σ Q) X.xe s
def WT (e : Expr) : TT := fun σ H Q => ∀ pins s, Inv X pins σ H s → wpAny (model X.prog X.w) X.A (isTrue e X.env (eval e X.env)) (TP X pins σ Q) X.xe s
def WW (e : Expr) : TT := fun σ H Q => ∀ whole pins s, Inv X pins σ H s → wpAny (model X.prog X.w) X.A (isTrue e X.env whole) (TP X pins σ Q) X.xe s
def WA (es : List Expr) : TA := fun σ H Q => ∀ pos pins s, Inv X pins σ H s → wpAny (model X.prog X.w) X.A (spliced (backTo pos (starEach es X.env))) (AP X pins σ Q) X.xe s
def WS (st : Stmt) : TS := fun Dd σ H => ∀ pins s, Inv X pins σ H s → wpAny (model X.prog X.w) X.A (exec st X.env) (SP X pins Dd) X.xe s
def WSs (sts : List Stmt) : TS := fun Dd σ H => ∀ pins s, Inv X pins σ H s → wpAny (model X.prog X.w) X.A (execs sts X.env) (SP X pins Dd) X.xe s
def WO (f : Value → Value → Sem Value) : R2 := fun x y H Q => ∀ pins s σ v u, Inv X pins σ H s → RelV x v → RelV y u → wpAny (model X.prog X.w) X.A (f v u) (EP X pins σ Q) X.xe s
end
section
variable {X : Cx} {e : Expr} {es : List Expr} {st : Stmt} {sts : List Stmt}
theorem we_pe : PE X e (WE X e) := ⟨fun pins s _ _ _ I h => h pins s I⟩
theorem wt_pt : PT X e (WT X e) := ⟨fun pins s _ _ _ I h => h pins s I⟩
theorem ww_pw : PW X e (WW X e) := ⟨fun wh pins s _ _ _ I h => h wh pins s I⟩
theorem wa_pa : PA X es (WA X es) := ⟨fun pos pins s _ _ _ I h => h pos pins s I⟩
theorem ws_ps : PS X st (WS X st) := ⟨fun pins s _ _ _ I h => h pins s I⟩
theorem wss_pss : PSs X sts (WSs X sts) := ⟨fun pins s _ _ _ I h => h pins s I⟩
theorem wo_op {f : Value → Value → Sem Value} : OpR X f (WO X f) := fun pins s σ _ _ _ v u _ I r1 r2 h => h pins s σ v u I r1 r2
theorem PE.w {t : TE} (h : PE X e t) {σ : L2.St} {H : Hp} {Q : VK} (q : t σ H Q) : WE X e σ H Q := fun pins s I => h.run pins s σ H Q I q
theorem PT.w {t : TT} (h : PT X e t) {σ : L2.St} {H : Hp} {Q : Bool → Hp → Prop} (q : t σ H Q) : WT X e σ H Q := fun pins s I => h.run pins s σ H Q I q
theorem PW.w {t : TT} (h : PW X e t) {σ : L2.St} {H : Hp} {Q : Bool → Hp → Prop} (q : t σ H Q) : WW X e σ H Q := fun wh pins s I => h.run wh pins s σ H Q I q
theorem PA.w {t : TA} (h : PA X es t) {σ : L2.St} {H : Hp} {Q : List V → Hp → Prop} (q : t σ H Q) : WA X es σ H Q := fun pos pins s I => h.run pos pins s σ H Q I q
theorem PS.w {t : TS} (h : PS X st t) {σ : L2.St} {H : Hp} {Dd : Ends} (q : t Dd σ H) : WS X st Dd σ H := fun pins s I => h.run pins s σ H Dd I q
theorem PSs.w {t : TS} (h : PSs X sts t) {σ : L2.St} {H : Hp} {Dd : Ends} (q : t Dd σ H) : WSs X sts Dd σ H := fun pins s I => h.run pins s σ H Dd I q
theorem OpR.w {f : Value → Value → Sem Value} {r : R2} (h : OpR X f r) {x y : V} {H : Hp} {Q : VK} (q : r x y H Q) : WO X f x y H Q := fun pins s σ v u I r1 r2 => h pins s σ H x y v u Q I r1 r2 q
end

/-! ### judgements on data -/
/-- what follows: from any later world, a value that is a datum wanted -/
def Cont (K : PySem.W.Frag) (g : List Code) (W : Wd) (H : Hp) (Q : D → Prop) (R : VK) : Prop := ∀ d v W' H', Stp W H W' H' → Ok g W' H' → Dn K W'.I d v → Q d → R v H'
def ContB (g : List Code) (W : Wd) (H : Hp) (Q : Bool → Prop) (R : Bool → Hp → Prop) : Prop := ∀ b W' H', Stp W H W' H' → Ok g W' H' → Q b → R b H'
/-- arguments: data, or pots -/
def Arg (K : PySem.W.Frag) (W : Wd) : Sl → V → Prop
  | .val d, v => Dn K W.I d v
  | .pot, v => ∃ p, v = .ref p ∧ W.P p
  | .own _, _ => False
  | .ownT _, _ => False
  | .inst _ _ _ _, _ => False
abbrev Args (K : PySem.W.Frag) (W : Wd) (as : List Sl) (vs : List V) : Prop := Paired (Arg K W) as vs
def ContA (K : PySem.W.Frag) (g : List Code) (W : Wd) (H : Hp) (Q : List Sl → Prop) (R : List V → Hp → Prop) : Prop := ∀ as vs W' H', Stp W H W' H' → Ok g W' H' → Args K W' as vs → Q as → R vs H'
section
variable (X : Cx) (B : Hp) (S : En)
def ED (e : Expr) (Q : D → Prop) : Prop := ∀ σ W H, Rep X.K (gOf X) B S σ W H → ∀ R, Cont X.K (gOf X) W H Q R → WE X e σ H R
def TD (e : Expr) (Q : Bool → Prop) : Prop := ∀ σ W H, Rep X.K (gOf X) B S σ W H → ∀ R, ContB (gOf X) W H Q R → WT X e σ H R
def TW (e : Expr) (Q : Bool → Prop) : Prop := ∀ σ W H, Rep X.K (gOf X) B S σ W H → ∀ R, ContB (gOf X) W H Q R → WW X e σ H R
def AD (es : List Expr) (Q : List Sl → Prop) : Prop := ∀ σ W H, Rep X.K (gOf X) B S σ W H → ∀ R, ContA X.K (gOf X) W H Q R → WA X es σ H R
def OD (f : Value → Value → Sem Value) (x y : D) (Q : D → Prop) : Prop := ∀ v u W H, Ok (gOf X) W H → Dn X.K W.I x v → Dn X.K W.I y u → ∀ R, Cont X.K (gOf X) W H Q R → WO X f v u H R
end
section
variable {K : PySem.W.Frag} {g : List Code} {W W1 : Wd} {H H1 : Hp}
theorem Cont.step {Q : D → Prop} {R : VK} (c : Cont K g W H Q R) (a : Stp W H W1 H1) (ok : Ok g W1 H1) : Cont K g W1 H1 Q R := fun d v W' H' b ok' h q => c d v W' H' (a.trans ok b) ok' h q
theorem Cont.now {Q : D → Prop} {R : VK} (c : Cont K g W H Q R) (ok : Ok g W H) {d : D} {v : V} (h : Dn K W.I d v) (q : Q d) : R v H := c d v W H Stp.refl ok h q
theorem ContB.step {Q : Bool → Prop} {R : Bool → Hp → Prop} (c : ContB g W H Q R) (a : Stp W H W1 H1) (ok : Ok g W1 H1) : ContB g W1 H1 Q R := fun b W' H' s ok' q => c b W' H' (a.trans ok s) ok' q
theorem ContB.now {Q : Bool → Prop} {R : Bool → Hp → Prop} (c : ContB g W H Q R) (ok : Ok g W H) {b : Bool} (q : Q b) : R b H := c b W H Stp.refl ok q
theorem Args.step {as : List Sl} {vs : List V} (h : Args K W as vs) (a : Stp W H W1 H1) : Args K W1 as vs := by
  refine Paired.mapP h fun x v h1 => ?_
  · cases x with
    | val d => exact Dn.mono a.I h1
    | own l => exact h1
    | pot => obtain ⟨p, e, q⟩ := h1; exact ⟨p, e, a.P p q⟩
    | inst _ _ _ _ => exact h1
    | ownT _ => exact h1
end

/-! ### expressions -/
section
variable {X : Cx} {B : Hp} {S : En} {pos : Pos} {Q : D → Prop} {a b : Expr}
theorem ed_name {x : Str} {d : D} (i : Nat) (hN : X.N[i]? = some x) (h : S[i]? = some (some (.val d))) (q : Q d) (hv : Vis X.env.scope x := by first | exact Or.inl rfl | exact Or.inr (Or.inl rfl) | exact Or.inr (Or.inr rfl))
    (hd : (x == ("__debug__" : Str)) = false := by decide) (hcd : (x == ("__classdict__" : Str)) = false := by decide) : ED X B S (.Name x pos) Q := fun σ W H r R c => by
  obtain ⟨v, e, z⟩ := r.sl i _ h
  exact PE.w (pe_var hN hv hd hcd) ⟨v, e, c.now r.ok z q⟩
theorem ed_int {i j} (q : Q (.int i)) : ED X B S (.Constant (.int i) j pos) Q := fun σ W H r R c => PE.w pe_int (c.now r.ok (.int i) q)
theorem ed_bl {b j} (q : Q (.bl b)) : ED X B S (.Constant (.bool b) j pos) Q := fun σ W H r R c => PE.w pe_bl (c.now r.ok (.bl b) q)
theorem ed_non {j} (q : Q .non) : ED X B S (.Constant .none j pos) Q := fun σ W H r R c => PE.w pe_non (c.now r.ok .non q)
theorem ed_str {x j} (q : Q (.str x)) : ED X B S (.Constant (.str x) j pos) Q := fun σ W H r R c => PE.w pe_str (c.now r.ok (.str x) q)
theorem ed_two {f : Value → Value → Sem Value} (h : ED X B S a fun x => ED X B S b fun y => OD X f x y Q) {σ : L2.St} {W : Wd} {H : Hp} (r : Rep X.K (gOf X) B S σ W H) {R : VK} (c : Cont X.K (gOf X) W H Q R) :
    WE X a σ H fun x H1 => WE X b σ H1 fun y H2 => WO X f x y H2 R := by
  refine h σ W H r _ fun d v W1 H1 s1 ok1 n1 q1 => ?_
  refine q1 σ W1 H1 (r.step s1 ok1) _ fun d2 u W2 H2 s2 ok2 n2 q2 => ?_
  exact q2 v u W2 H2 ok2 (n1.mono s2.I) n2 R ((c.step s1 ok1).step s2 ok2)
theorem ed_bin {op : Operator} (h : ED X B S a fun x => ED X B S b fun y => OD X (binaryOp op) x y Q) : ED X B S (.BinOp a op b pos) Q := fun σ W H r R c =>
  PE.w (pe_op wo_op we_pe we_pe) (ed_two h r c)
theorem ed_cmp {op : CmpOp} (h : ED X B S a fun x => ED X B S b fun y => OD X (compareOp op) x y Q) (hm : behindInMarks op b = false := by first | exact nomark _ | rfl) : ED X B S (.Compare a [op] [b] pos) Q := fun σ W H r R c =>
  PE.w (pe_cmpR wo_op we_pe we_pe hm) (ed_two h r c)
theorem od_of {f : Value → Value → Sem Value} {r : R2} (ho : OpR X f r) {x y : D} (h : ∀ v u W H, Ok (gOf X) W H → Dn X.K W.I x v → Dn X.K W.I y u → ∀ R, Cont X.K (gOf X) W H Q R → r v u H R) : OD X f x y Q :=
  fun v u W H ok h1 h2 R c => OpR.w ho (h v u W H ok h1 h2 R c)
/-- operators on ints -/
theorem od_I0 {f : Value → Value → Sem Value} {g : Int → Int → V} {i j : Int} {d : D} (ho : OpR X f (rI0 g)) (hg : ∀ K I, Dn K I d (g i j)) (q : Q d) : OD X f (.int i) (.int j) Q := by
  refine od_of ho fun v u W H ok h1 h2 R c => ?_
  cases h1; cases h2
  exact ⟨i, j, rfl, rfl, c.now ok (hg _ _) q⟩
theorem od_I {f : Value → Value → Sem Value} {C : Int → Int → Prop} {g : Int → Int → V} {i j : Int} {d : D} (ho : OpR X f (rI C g)) (hc : C i j) (hg : ∀ K I, Dn K I d (g i j)) (q : Q d) : OD X f (.int i) (.int j) Q := by
  refine od_of ho fun v u W H ok h1 h2 R c => ?_
  cases h1; cases h2
  exact ⟨i, j, rfl, rfl, hc, c.now ok (hg _ _) q⟩
theorem od_add {i j : Int} (q : Q (.int (i + j))) : OD X (binaryOp .Add) (.int i) (.int j) Q := od_I0 op_add (fun _ _ => .int _) q
theorem od_sub {i j : Int} (q : Q (.int (i - j))) : OD X (binaryOp .Sub) (.int i) (.int j) Q := od_I0 op_sub (fun _ _ => .int _) q
theorem od_lt {i j : Int} (q : Q (.bl (decide (i < j)))) : OD X (compareOp .Lt) (.int i) (.int j) Q := od_I0 op_lt (fun _ _ => .bl _) q
theorem od_le {i j : Int} (q : Q (.bl (decide (i ≤ j)))) : OD X (compareOp .LtE) (.int i) (.int j) Q := od_I0 op_le (fun _ _ => .bl _) q
theorem od_gt {i j : Int} (q : Q (.bl (decide (j < i)))) : OD X (compareOp .Gt) (.int i) (.int j) Q := od_I0 op_gt (fun _ _ => .bl _) q
theorem od_ge {i j : Int} (q : Q (.bl (decide (j ≤ i)))) : OD X (compareOp .GtE) (.int i) (.int j) Q := od_I0 op_ge (fun _ _ => .bl _) q
end
end DL

set_option Elab.async false
set_option linter.all false
set_option maxRecDepth 100000
set_option maxHeartbeats 2000000
/-! what a def promises where it is known what is being written as a text around it (the guards) -/
namespace DL
open PySem PySem.Spec PyProof.Rows L2
abbrev SpG := List Code → List V → Hp → VK → Prop
structure GnOk (P : Program) (w : World) (K : PySem.W.Frag) (mg : Str → Option Value) (base : Heap) (k : Nat) (f : Addr) (fd : FuncData) (ps : List Str) (sp : SpG) : Prop where
  len : ∀ g vs H Q, sp g vs H Q → vs.length = ps.length
  run : ∀ (A : Around) (g : List Code) (outer : List Env) (s : Shared) (H : Hp) (args : PySem.Args) (us : List Value) (vs : List V) (Q : VK), Room k A → A.guards = some g → Env0 P w K mg base A outer s H → BindsTo s fd args (ps.zip us) → Vals vs us → sp g vs H Q →
    codeAny (model P w) A (.call (.ref f) args) (CR CX0 outer P w H s Q E0) s
/-- a def of the text, its defaults whatever they are -/
structure FunS (K : PySem.W.Frag) (x qual : Str) (st : Stmt) (f : Addr) (fd : FuncData) : Prop where
  ex : ∃ (oc : Value) (od : Option Addr) (dV kV doc pm : Value) (an : Option Addr) (cdv ct : Value) (osl : Array (Option Value)),
    fd = PySem.W.fnOf x qual (defArgs st) (defBody st) (defScope st) dV kV doc pm an cdv ct ∧ K.lookup f = some ⟨oc, od, .func fd, osl⟩ ∧ PySem.W.codeIn K cdv qual = true
  kp : PySem.W.keepIn K (.ref f) = true
theorem fun_s {K : PySem.W.Frag} {x qual : Str} {st : Stmt} {f : Addr} {fd : FuncData} (F : Fun K x qual st f fd) : FunS K x qual st f fd :=
  ⟨let ⟨oc, od, kV, doc, pm, an, cdv, ct, osl, a, b, c⟩ := F.ex; ⟨oc, od, .none, kV, doc, pm, an, cdv, ct, osl, a, b, c⟩, F.kp⟩
theorem fund_s {K : PySem.W.Frag} {x qual : Str} {st : Stmt} {dvs : List V} {kws : List (Str × V)} {f : Addr} {fd : FuncData} (F : FunD K x qual (defArgs st) (defBody st) (defScope st) dvs kws f fd) : FunS K x qual st f fd :=
  ⟨let ⟨oc, od, dV, kV, doc, pm, an, cdv, ct, osl, a, b, c, _⟩ := F.ex; ⟨oc, od, dV, kV, doc, pm, an, cdv, ct, osl, a, b, c⟩, F.kp⟩
section
variable {P : Program} {w : World} {K : PySem.W.Frag} {mg : Str → Option Value} {base : Heap} {j k : Nat} {f : Addr} {fd : FuncData} {ps : List Str} {sp sp' : SpG}
abbrev Bx (P : Program) (w : World) (K : PySem.W.Frag) (mg : Str → Option Value) (base : Heap) (N : List Str) (qual : Str) (st : Stmt) (f : Addr) (cdv : Value) (A : Around) (outer : List Env) (s : Shared) (H : Hp) : Cx := (cxOf CX0 P w K mg base N qual (defScope st) f cdv A outer s H E0).nox
/-- a def by its body, the guards known -/
theorem gn_of {x qual : Str} {st : Stmt} {N : List Str} (F : FunS K x qual st f fd) (S : FnScope N ps (defScope st)) (len : ∀ g vs H Q, sp g vs H Q → vs.length = ps.length)
    (body : ∀ cdv A outer s H g vs Q, Room k (A.deeper (PyProof.Rows.envOfC qual (defScope st) s.heap.objs.size f cdv)) → A.guards = some g → sp g vs H Q →
      ∃ t, PSs (Bx P w K mg base N qual st f cdv A outer s H) (defBody st) t ∧ t { nx := fun _ H' => Q .non H', rt := Q } (L2.start N vs) H) : GnOk P w K mg base (k + 1) f fd ps sp := by
  obtain ⟨oc, od, dV, kV, doc, pm, an, cdv, ct, osl, rfl, lk, hcd⟩ := F.ex
  refine ⟨len, fun A g outer s H args us vs Q hr hg e0 hb r hsp => ?_⟩
  have old := fun b o (e : base.get? b = some o) => (e0.bs b o e).1
  have KX : K.In s.heap := e0.mod.kin.keeps old
  have par : ∀ y ∈ ps.zip us, (defScope st).names.lookup y.1 = some .local ∨ ((defScope st).names.lookup y.1 = some .cell ∧ ((cellsFrom (s.heap.objs.size + 1) (defScope st).names []).lookup y.1).isSome = true) := fun y hy =>
    (S.par y.1 (List.of_mem_zip (show (y.1, y.2) ∈ _ from hy)).1).imp id fun q => ⟨q, PySem.W.cellsFrom_some _ _ _ (.inl q)⟩
  refine codeAny_call_function hr.depth (KX _ _ lk) rfl S.co S.gen rfl (PySem.W.codeRec_of KX hcd) (hb _ _ _ _ ?_)
  refine wpAny_newFunctionEnv_cells S.kind par fun env he s1 x => ?_
  subst he
  refine ⟨(e0.mod.nolimit.keeps old).keeps x.toInCall.keep, codeAny_func ?_⟩
  obtain ⟨t, ht, hq⟩ := body cdv A outer s H g vs Q (hr.deeper _) hg hsp
  have I := inv_start (CX := CX0) (E := E0) S hr.hd e0 (len _ _ _ _ hsp) r x
  refine wpAny_mono (ht.nox.run [] s1 (L2.start N vs) H _ I hq) (fun fl s' hs => ?_) fun e s' hs => hs
  match fl, hs with
  | .ret u, ⟨v, σ', H', J, rv, q⟩ => exact ⟨v, H', J.os, J.bare, J.base, J.hok, rv, q⟩
  | .next, ⟨σ', H', J, q⟩ => exact ⟨V.non, H', J.os, J.bare, J.base, J.hok, rfl, q⟩
  | .brk, ⟨_, _, _, q⟩ => exact q.elim
  | .cont, ⟨_, _, _, q⟩ => exact q.elim
theorem deeper_guards {A : Around} {qual : Str} {sc : Scope} {n : Nat} {f : Addr} {cdv : Value} {g : List Code} (h : A.guards = some g) : (A.deeper (PyProof.Rows.envOfC qual sc n f cdv)).guards = some g := by
  first | exact h | (simpa [Around.deeper] using h)
end
section
variable {X : Cx} {k : Nat} {f C g0 : Addr} {fd : FuncData} {ps : List Str} {sp : SpG} {dvs : List V} {ds : List Value} {x m : Str} {p pos apos : Pos} {e o : Expr} {es : List Expr} {g : List Code}
theorem run_cr {pins : List (Addr × Obj)} {σ : L2.St} {H : Hp} {s : Shared} {Q : VK} {c : Code} {A : Around} (I : Inv X pins σ H s) (h : codeAny (model X.prog X.w) A c (CR CX0 X.stack X.prog X.w H s Q E0) s) :
    codeAny (model X.prog X.w) A c (fun r s' => match r with | .ok (.ret v) => EP X pins σ Q v s' | .ok _ => False | .error e => False) s := by
  refine codeAny_mono h fun r s' hq => ?_
  match r, hq with
  | .error e, hq => exact hq
  | .ok (.ret u), hq => exact I.after hq
/-- the callee runs -/
theorem run_gn {A : Around} {pins : List (Addr × Obj)} {σ : L2.St} {H : Hp} {s : Shared} {Q : VK} {us : List Value} {vs : List V} {R : PySem.Result → Shared → Prop} (F : GnOk X.prog X.w X.K X.mg X.base k f fd ps sp) (hr : Room k A) (hG : A.guards = some g) (e0 : Env0 X.prog X.w X.K X.mg X.base A X.stack s H)
    (hb : Binds X.K fd ps ds) (hd : Vals dvs ds) (I : Inv X pins σ H s) (r : Vals vs us) (h : sp g (vs ++ dvs) H Q) (k : ∀ v s', EP X pins σ Q v s' → R (.ok (.ret v)) s') : codeAny (model X.prog X.w) A (.call (.ref f) ⟨us, []⟩) R s := by
  have r2 : Vals (vs ++ dvs) (us ++ ds) := r.append hd
  have hl : (us ++ ds).length = ps.length := r2.length.symm.trans (F.len _ _ _ _ h)
  refine codeAny_mono (run_cr I (F.run A g X.stack s H ⟨us, []⟩ (us ++ ds) (vs ++ dvs) Q hr hG e0 (hb s us I.kIn hl) r2 h)) fun r s' hq => ?_
  match r, hq with
  | .error e, hq => exact hq.elim
  | .ok (.ret u), hq => exact k u s' hq
/-- .. its arguments bound in any way -/
theorem run_gb {A : Around} {pins : List (Addr × Obj)} {σ : L2.St} {H : Hp} {s : Shared} {Q : VK} {args : PySem.Args} {us : List Value} {vs : List V} {R : PySem.Result → Shared → Prop} (F : GnOk X.prog X.w X.K X.mg X.base k f fd ps sp) (hr : Room k A) (hG : A.guards = some g) (e0 : Env0 X.prog X.w X.K X.mg X.base A X.stack s H)
    (hb : BindsTo s fd args (ps.zip us)) (I : Inv X pins σ H s) (r : Vals vs us) (h : sp g vs H Q) (k : ∀ v s', EP X pins σ Q v s' → R (.ok (.ret v)) s') : codeAny (model X.prog X.w) A (.call (.ref f) args) R s := by
  refine codeAny_mono (run_cr I (F.run A g X.stack s H args us vs Q hr hG e0 hb r h)) fun r s' hq => ?_
  match r, hq with
  | .error e, hq => exact hq.elim
  | .ok (.ret u), hq => exact k u s' hq
theorem call_gn {pins : List (Addr × Obj)} {σ : L2.St} {H : Hp} {s : Shared} {Q : VK} {us : List Value} {vs : List V} {E : Value → Shared → Prop} (F : GnOk X.prog X.w X.K X.mg X.base k f fd ps sp) (hr : Room k X.A) (hG : X.A.guards = some g)
    (hb : Binds X.K fd ps ds) (hd : Vals dvs ds) (I : Inv X pins σ H s) (r : Vals vs us) (h : sp g (vs ++ dvs) H Q) : wpAny (model X.prog X.w) X.A (call (.ref f) us) (EP X pins σ Q) E s :=
  wpAny_call (run_gn F hr hG I.env0 hb hd I r h fun _ _ q => q)
/-- f(e, ..) -/
theorem we_call {σ : L2.St} {H : Hp} {Q : VK} (F : GnOk X.prog X.w X.K X.mg X.base k f fd ps sp) (hr : Room k X.A) (hG : X.A.guards = some g) (hg : Gl X x) (hm : X.mg x = some (.ref f)) (hk : PySem.W.keepIn X.K (.ref f) = true) (hb : Binds X.K fd ps ds) (hd : Vals dvs ds)
    (h : WA X (e :: es) σ H fun vs H1 => sp g (vs ++ dvs) H1 Q) (hdb : (x == ("__debug__" : Str)) = false) (he : starEach (e :: es) X.env = (false, eval e X.env) :: starEach es X.env) (hpl : (backTo pos (starEach es X.env)).any (·.1) = false) : WE X (.Call (.Name x p) (e :: es) [] pos) σ H Q := fun pins s I =>
  wpAny_Call_Name_kw (ld_glob I hg hm (PySem.W.callWith_K (h₀ := X.base) I.ok.mod.kin hk (thn (h pos pins s I) fun us s1 ⟨vs, H1, I1, r, q⟩ => ⟨I1.kIn, call_gn F hr hG hb hd I1 r q⟩) he hpl) hdb)
/-- o.m(e, ..) -/
theorem we_meth {σ : L2.St} {H : Hp} {Q : VK} {pl : Sem Bool} (c : Cls X.K C) (hm : Meth X.K C m f) (F : GnOk X.prog X.w X.K X.mg X.base k f fd ps sp) (hr : Room k X.A) (hG : X.A.guards = some g) (hb : Binds X.K fd ps ds) (hd : Vals dvs ds)
    (h : WE X o σ H fun x H1 => ∃ a dx fs, x = .ref a ∧ H1 a = some (.ins C dx fs) ∧ fs.lookup m = none ∧ WA X (e :: es) σ H1 fun vs H2 => sp g (x :: (vs ++ dvs)) H2 Q)
    (hst : starEach (e :: es) X.env = (false, eval e X.env) :: starEach es X.env) (hpl : (backTo pos (starEach es X.env)).any (·.1) = false)
    (ht : eval (.Call (.Attribute o m apos) (e :: es) [] pos) X.env = (do
      let ov ← eval o X.env
      standAt apos.atName
      let (f, first) ← holding [ov] (getMethod ov m pl)
      callWith pos f first (backTo pos (starEach (e :: es) X.env)) (backToKw pos (keywordEach [] X.env)))) : WE X (.Call (.Attribute o m apos) (e :: es) [] pos) σ H Q := fun pins s I => by
  refine PySem.W.methodCall_KW (pl := pl) (thn (h pins s I) fun u s1 ⟨x, H1, I1, rx, a, dx, fs, ex, ea, l, q⟩ => ?_) ht
  subst ex
  cases (show u = Value.ref a from rx)
  exact getmeth_ok I1 ea c hm l (PySem.W.callWith_K (first := [.ref a]) (h₀ := X.base) I.ok.mod.kin hm.kp (thn (q pos pins s1 I1) fun us s2 ⟨vs, H2, I2, r, q2⟩ => ⟨I2.kIn, call_gn (us := .ref a :: us) (vs := .ref a :: vs) F hr hG hb hd I2 (.cons rfl r) q2⟩) hst hpl)
theorem we_meth0 {σ : L2.St} {H : Hp} {Q : VK} {pl : Sem Bool} (c : Cls X.K C) (hm : Meth X.K C m f) (F : GnOk X.prog X.w X.K X.mg X.base k f fd ps sp) (hr : Room k X.A) (hG : X.A.guards = some g) (hb : Binds X.K fd ps ds) (hd : Vals dvs ds)
    (h : WE X o σ H fun x H1 => ∃ a dx fs, x = .ref a ∧ H1 a = some (.ins C dx fs) ∧ fs.lookup m = none ∧ sp g (x :: dvs) H1 Q)
    (ht : eval (.Call (.Attribute o m apos) [] [] pos) X.env = (do
      let ov ← eval o X.env
      standAt apos.atName
      let (f, first) ← holding [ov] (getMethod ov m pl)
      callWith pos f first (backTo pos (starEach [] X.env)) (backToKw pos (keywordEach [] X.env)))) : WE X (.Call (.Attribute o m apos) [] [] pos) σ H Q := fun pins s I => by
  refine PySem.W.methodCall_KW (pl := pl) (thn (h pins s I) fun u s1 ⟨x, H1, I1, rx, a, dx, fs, ex, ea, l, q⟩ => ?_) ht
  subst ex
  cases (show u = Value.ref a from rx)
  exact getmeth_ok I1 ea c hm l (PySem.W.callWith_K0 (first := [.ref a]) I1.kIn hm.kp (call_gn (us := [.ref a]) (vs := [.ref a]) F hr hG hb hd I1 (.cons rfl .nil) q))
/-- e.f, a property -/
theorem we_prop {σ : L2.St} {H : Hp} {Q : VK} {f : Str} {pp : Addr} (c : Cls X.K C) (hp : PropOf X.K C f pp g0) (F : GnOk X.prog X.w X.K X.mg X.base k g0 fd ps sp) (hr : Room (k + 1) X.A) (hG : X.A.guards = some g) (hb : Binds X.K fd ps ds) (hd : Vals dvs ds)
    (h : WE X o σ H fun x H1 => ∃ a dx fs, x = .ref a ∧ H1 a = some (.ins C dx fs) ∧ sp g (x :: dvs) H1 Q) (hab : attributeBase o f X.env (eval o X.env) = eval o X.env) : WE X (.Attribute o f pos) σ H Q := fun pins s I => by
  refine attr_of hab (thn (h pins s I) fun u s1 ⟨x, H1, I1, rx, a, dx, fs, ex, ea, q⟩ => ?_)
  subst ex
  cases (show u = Value.ref a from rx)
  obtain ⟨mA, O, _⟩ := ins_get I1.hok ea
  obtain ⟨od, J, _⟩ := O.look
  obtain ⟨rest, hrec⟩ := hp.rec_
  have I2 := I1.tok (s1.toks + 1)
  have hc : (PySem.W.clsIn X.K C).isSome = true := by
    obtain ⟨cd, hc, _⟩ := PySem.W.any_some c.hd
    rw [hc]
    rfl
  refine PySem.W.get_bind I1.kIn J (PySem.W.plainGet_of (c.get f)).1 (PySem.W.findObj_data hc hp.at_ hp.get hp.tak) (PySem.W.plainGet_of (c.get f)).2 (wpAny_call (PySem.W.prop_get (s := { s1 with toks := s1.toks + 1 }) I1.kIn hrec ?_))
  refine codeAny_mono (run_gn (A := X.A.in1) (us := [.ref a]) (vs := [.ref a]) (R := fun r s' => match r with | .ok (.ret v) => EP X pins σ Q v s' | _ => False) F hr.in1 hG I2.env0.in1 hb hd I2 (.cons rfl .nil) q fun _ _ q => q) fun r s' hq => ?_
  match r, hq with
  | .ok (.ret u), hq =>
    obtain ⟨v, H', I3, rv, q3⟩ := id hq
    exact wpAny_of_eq (PySem.W.handedOut_of (handed_of rv)) hq
/-- C(e, ..) -/
theorem make_guards {A : Around} {us : List Value} (h : A.guards = some g) : (A.under (.builtin "type.__call__" ⟨.ref C :: us, []⟩)).guards = some g := by
  have e : (Code.builtin "type.__call__" ⟨.ref C :: us, []⟩).guards = [] := by
    unfold Code.guards Code.isGuard
    have h0 : guardIds.contains "type.__call__" = false := by decide +kernel
    rw [if_neg (by show ¬ (guardIds.contains "type.__call__" = true); rw [h0]; exact Bool.false_ne_true)]
  show pushGuards (Code.builtin "type.__call__" ⟨.ref C :: us, []⟩).guards A.guards = some g
  rw [e]
  exact h
theorem run_gmake {pins : List (Addr × Obj)} {σ : L2.St} {H : Hp} {s : Shared} {Q : VK} {us : List Value} {vs : List V} {E : Value → Shared → Prop} (M : Mk X.K C f) (F : GnOk X.prog X.w X.K X.mg X.base k f fd ps sp) (hr : Room (k + 1) X.A) (hG : X.A.guards = some g) (hb : Binds X.K fd ps ds) (hd : Vals dvs ds)
    (I : Inv X pins σ H s) (r : Vals vs us) (h : ∀ x dx, H x = none → H dx = none → dx ≠ x → sp g (.ref x :: (vs ++ dvs)) (upd (upd H dx (.own x)) x (.ins C dx [])) (fun v H2 => v = .non ∧ Q (.ref x) H2)) : wpAny (model X.prog X.w) X.A (call (.ref C) us) (EP X pins σ Q) E s := by
  have hq := h (s.heap.objs.size + 1) s.heap.objs.size (I.hok.fresh (Nat.le_succ _)) (I.hok.fresh (Nat.le_refl _)) (Nat.ne_of_lt (Nat.lt_succ_self _))
  have I2 := Inv.made (C := C) I
  refine wpAny_call (make_map (f := f) I.kIn M.makes M.init (beq_iff_eq.mp M.fn) ?_)
  refine run_gn (us := Value.ref (s.heap.objs.size + 1) :: us) (vs := V.ref (s.heap.objs.size + 1) :: vs) F (hr.make C us []) (make_guards hG) (I2.env0.make C us []) hb hd I2 (.cons rfl r) hq fun v s' hv => ?_
  obtain ⟨z, H', I3, rv, ez, q3⟩ := hv
  subst ez
  exact ⟨rv, ⟨V.ref (s.heap.objs.size + 1), H', I3, rfl, q3⟩⟩
theorem we_make {σ : L2.St} {H : Hp} {Q : VK} (M : Mk X.K C f) (F : GnOk X.prog X.w X.K X.mg X.base k f fd ps sp) (hr : Room (k + 1) X.A) (hG : X.A.guards = some g) (hg : Gl X x) (hm : X.mg x = some (.ref C)) (hb : Binds X.K fd ps ds) (hd : Vals dvs ds)
    (h : WA X (e :: es) σ H fun vs H1 => ∀ y dy, H1 y = none → H1 dy = none → dy ≠ y → sp g (.ref y :: (vs ++ dvs)) (upd (upd H1 dy (.own y)) y (.ins C dy [])) (fun v H2 => v = .non ∧ Q (.ref y) H2))
    (hdb : (x == ("__debug__" : Str)) = false) (he : starEach (e :: es) X.env = (false, eval e X.env) :: starEach es X.env) (hpl : (backTo pos (starEach es X.env)).any (·.1) = false) : WE X (.Call (.Name x p) (e :: es) [] pos) σ H Q := fun pins s I =>
  wpAny_Call_Name_kw (ld_glob I hg hm (PySem.W.callWith_K (h₀ := X.base) I.ok.mod.kin M.kp (thn (h pos pins s I) fun us s1 ⟨vs, H1, I1, r, q⟩ => ⟨I1.kIn, run_gmake M F hr hG hb hd I1 r q⟩) he hpl) hdb)
end
end DL

set_option Elab.async false
set_option linter.all false
set_option maxRecDepth 100000
set_option maxHeartbeats 2000000
namespace DL
open PySem L2

/-! ### more expressions -/
section
variable {X : Cx} {B : Hp} {S : En} {pos : Pos} {Q : D → Prop} {QB : Bool → Prop} {a b c e : Expr} {es : List Expr}

theorem ed_chain {op op' : CmpOp} (h : ED X B S a fun x => ED X B S b fun y => OD X (compareOp op) x y fun z => ∃ k, z = .bl k ∧ if k = true then ED X B S c fun w => OD X (compareOp op') y w Q else Q (.bl false))
    (hm : lastMarks [op, op'] [b, c] = false := by rfl) : ED X B S (.Compare a [op, op'] [b, c] pos) Q := fun σ W H r R k => by
  refine PE.w (pe_chain wo_op wo_op we_pe we_pe we_pe hm) ?_
  refine h σ W H r _ fun d v W1 H1 s1 ok1 n1 q1 => ?_
  refine q1 σ W1 H1 (r.step s1 ok1) _ fun d2 u W2 H2 s2 ok2 n2 q2 => ?_
  refine q2 v u W2 H2 ok2 (n1.mono s2.I) n2 _ fun d3 z W3 H3 s3 ok3 n3 q3 => ?_
  obtain ⟨t, e, q3⟩ := q3
  subst e
  cases n3
  have k3 := ((k.step s1 ok1).step s2 ok2).step s3 ok3
  refine ⟨t, rfl, ?_⟩
  cases t with
  | false => exact iteF (k3.now ok3 (.bl false) (by simpa using q3))
  | true =>
    have q3 : ED X B S c fun w => OD X (compareOp op') d2 w Q := by simpa using q3
    refine iteT (q3 σ W3 H3 (((r.step s1 ok1).step s2 ok2).step s3 ok3) _ fun d4 w' W4 H4 s4 ok4 n4 q4 => ?_)
    exact q4 u w' W4 H4 ok4 ((n2.mono s3.I).mono s4.I) n4 R (k3.step s4 ok4)
theorem ed_one {op} (h : ED X B S a Q) : ED X B S (.BoolOp op [a] pos) Q := fun σ W H r R k => PE.w (pe_one we_pe) (h σ W H r R k)
theorem ed_and {rest : List Expr} (h : ED X B S a fun x => ∃ k, x = .bl k ∧ if k = true then ED X B S (.BoolOp .And (b :: rest) pos) Q else Q (.bl false)) : ED X B S (.BoolOp .And (a :: b :: rest) pos) Q := fun σ W H r R k => by
  refine PE.w (pe_and we_pe we_pe) ?_
  refine h σ W H r _ fun d v W1 H1 s1 ok1 n1 q1 => ?_
  obtain ⟨t, e, q1⟩ := q1
  subst e
  cases n1
  refine ⟨t, rfl, ?_⟩
  cases t with
  | false => exact iteF ((k.step s1 ok1).now ok1 (.bl false) (by simpa using q1))
  | true => exact iteT ((show ED X B S (.BoolOp .And (b :: rest) pos) Q by simpa using q1) σ W1 H1 (r.step s1 ok1) R (k.step s1 ok1))
theorem ed_or {rest : List Expr} (h : ED X B S a fun x => ∃ k, x = .bl k ∧ if k = true then Q (.bl true) else ED X B S (.BoolOp .Or (b :: rest) pos) Q) : ED X B S (.BoolOp .Or (a :: b :: rest) pos) Q := fun σ W H r R k => by
  refine PE.w (pe_or we_pe we_pe) ?_
  refine h σ W H r _ fun d v W1 H1 s1 ok1 n1 q1 => ?_
  obtain ⟨t, e, q1⟩ := q1
  subst e
  cases n1
  refine ⟨t, rfl, ?_⟩
  cases t with
  | true => exact iteT ((k.step s1 ok1).now ok1 (.bl true) (by simpa using q1))
  | false => exact iteF ((show ED X B S (.BoolOp .Or (b :: rest) pos) Q by simpa using q1) σ W1 H1 (r.step s1 ok1) R (k.step s1 ok1))
theorem ed_not (h : ED X B S a fun x => ∃ k, x = .bl k ∧ Q (.bl (!k))) : ED X B S (.UnaryOp .Not a pos) Q := fun σ W H r R k => by
  refine PE.w (pe_not we_pe) ?_
  refine h σ W H r _ fun d v W1 H1 s1 ok1 n1 q1 => ?_
  obtain ⟨t, e, q1⟩ := q1
  subst e
  cases n1
  exact ⟨t, rfl, (k.step s1 ok1).now ok1 (.bl _) q1⟩
theorem ed_ifx (h : TD X B S c fun k => if k = true then ED X B S a Q else ED X B S b Q) : ED X B S (.IfExp c a b pos) Q := fun σ W H r R k => by
  refine PE.w (pe_ifExp wt_pt we_pe we_pe) ?_
  refine h σ W H r _ fun t W1 H1 s1 ok1 q1 => ?_
  cases t with
  | true => exact iteT ((show ED X B S a Q by simpa using q1) σ W1 H1 (r.step s1 ok1) R (k.step s1 ok1))
  | false => exact iteF ((show ED X B S b Q by simpa using q1) σ W1 H1 (r.step s1 ok1) R (k.step s1 ok1))
theorem ed_neg (h : ED X B S a fun x => ∃ i, x = .int i ∧ Q (.int (-i))) : ED X B S (.UnaryOp .USub a pos) Q := fun σ W H r R k => by
  refine PE.w (pe_un un_neg we_pe) ?_
  refine h σ W H r _ fun d v W1 H1 s1 ok1 n1 q1 => ?_
  obtain ⟨i, e, q1⟩ := q1
  subst e
  cases n1
  exact ⟨i, rfl, (k.step s1 ok1).now ok1 (.int _) q1⟩

/-! ### tests -/
theorem td_val (h : ED X B S e fun x => ∃ k, x = .bl k ∧ QB k) (he : ∀ whole, isTrue e X.env whole = (do let v ← whole; standAt e.pos; holding [v] (truthy v)) := by intro _; rfl) : TD X B S e QB := fun σ W H r R k => by
  refine PT.w (pt_val we_pe he) ?_
  refine h σ W H r _ fun d v W1 H1 s1 ok1 n1 q1 => ?_
  obtain ⟨t, e, q1⟩ := q1
  subst e
  cases n1
  exact ⟨t, rfl, (k.step s1 ok1).now ok1 q1⟩
theorem td_cmp {op : CmpOp} (h : ED X B S a fun x => ED X B S b fun y => OD X (compareOp op) x y fun z => ∃ k, z = .bl k ∧ QB k) (hm : behindInMarks op b = false := by first | exact nomark _ | rfl) : TD X B S (.Compare a [op] [b] pos) QB := fun σ W H r R k => by
  refine PT.w (pt_cmpR wo_op we_pe we_pe hm) ?_
  refine h σ W H r _ fun d v W1 H1 s1 ok1 n1 q1 => ?_
  refine q1 σ W1 H1 (r.step s1 ok1) _ fun d2 u W2 H2 s2 ok2 n2 q2 => ?_
  refine q2 v u W2 H2 ok2 (n1.mono s2.I) n2 _ fun d3 z W3 H3 s3 ok3 n3 q3 => ?_
  obtain ⟨t, e, q3⟩ := q3
  subst e
  cases n3
  exact ⟨t, rfl, (((k.step s1 ok1).step s2 ok2).step s3 ok3).now ok3 q3⟩
theorem td_of (h : TW X B S e QB) : TD X B S e QB := fun σ W H r R k => PT.w (PW.pt ww_pw) (h σ W H r R k)
theorem tw_and1 (h : TD X B S a QB) : TW X B S (.BoolOp .And [a] pos) QB := fun σ W H r R k => PW.w (pw_and1 wt_pt) (h σ W H r R k)
theorem tw_or1 (h : TD X B S a QB) : TW X B S (.BoolOp .Or [a] pos) QB := fun σ W H r R k => PW.w (pw_or1 wt_pt) (h σ W H r R k)
theorem tw_and {rest : List Expr} (h : TD X B S a fun k => if k = true then TW X B S (.BoolOp .And (b :: rest) pos) QB else QB false) : TW X B S (.BoolOp .And (a :: b :: rest) pos) QB := fun σ W H r R k => by
  refine PW.w (pw_and wt_pt ww_pw) ?_
  refine h σ W H r _ fun t W1 H1 s1 ok1 q1 => ?_
  cases t with
  | false => exact iteF ((k.step s1 ok1).now ok1 (by simpa using q1))
  | true => exact iteT ((show TW X B S (.BoolOp .And (b :: rest) pos) QB by simpa using q1) σ W1 H1 (r.step s1 ok1) R (k.step s1 ok1))
theorem tw_or {rest : List Expr} (h : TD X B S a fun k => if k = true then QB true else TW X B S (.BoolOp .Or (b :: rest) pos) QB) : TW X B S (.BoolOp .Or (a :: b :: rest) pos) QB := fun σ W H r R k => by
  refine PW.w (pw_or wt_pt ww_pw) ?_
  refine h σ W H r _ fun t W1 H1 s1 ok1 q1 => ?_
  cases t with
  | true => exact iteT ((k.step s1 ok1).now ok1 (by simpa using q1))
  | false => exact iteF ((show TW X B S (.BoolOp .Or (b :: rest) pos) QB by simpa using q1) σ W1 H1 (r.step s1 ok1) R (k.step s1 ok1))
theorem td_not (h : TD X B S a fun k => QB (!k)) : TD X B S (.UnaryOp .Not a pos) QB := fun σ W H r R k => by
  refine PT.w (pt_not wt_pt) ?_
  exact h σ W H r _ fun t W1 H1 s1 ok1 q1 => (k.step s1 ok1).now ok1 q1
/-- the truth of a datum -/
def Tru : D → Bool → Prop
  | .non, k => k = false
  | .bl b, k => k = b
  | .int i, k => k = (i != 0)
  | .str y, k => y.length ≤ sizeLine ∧ k = ((y.length : Int) != 0)
  | .lst l, k => k = !l.isEmpty
  | .tup l, k => k = !l.isEmpty
  | _, _ => False
/-! ### arguments -/
theorem ad_nil {Q : List Sl → Prop} (q : Q []) : AD X B S [] Q := fun σ W H r R k => PA.w pa_nil (k [] [] W H Stp.refl r.ok .nil q)
theorem ad_cons {Q : List Sl → Prop} (h : ED X B S e fun d => AD X B S es fun as => Q (.val d :: as)) (hs : starEach (e :: es) X.env = (false, eval e X.env) :: starEach es X.env := by rfl) : AD X B S (e :: es) Q := fun σ W H r R k => by
  refine PA.w (pa_cons we_pe wa_pa hs) ?_
  refine h σ W H r _ fun d v W1 H1 s1 ok1 n1 q1 => ?_
  refine q1 σ W1 H1 (r.step s1 ok1) _ fun as vs W2 H2 s2 ok2 n2 q2 => ?_
  exact k _ _ W2 H2 (s1.trans ok1 s2) ok2 (.cons (show Arg X.K W2 (.val d) v from n1.mono s2.I) n2) q2
theorem ad_pot {Q : List Sl → Prop} {x : Str} (i : Nat) (hN : X.N[i]? = some x) (h : S[i]? = some (some .pot)) (q : AD X B S es fun as => Q (.pot :: as)) (hv : Vis X.env.scope x := by first | exact Or.inl rfl | exact Or.inr (Or.inl rfl) | exact Or.inr (Or.inr rfl))
    (hd : (x == ("__debug__" : Str)) = false := by decide) (hcd : (x == ("__classdict__" : Str)) = false := by decide) (hs : starEach (.Name x pos :: es) X.env = (false, eval (.Name x pos) X.env) :: starEach es X.env := by rfl) : AD X B S (.Name x pos :: es) Q := fun σ W H r R k => by
  refine PA.w (pa_cons (pe_var hN hv hd hcd) wa_pa hs) ?_
  obtain ⟨v, e, p, ev, hp⟩ := r.sl i _ h
  refine ⟨v, e, ?_⟩
  refine q σ W H r _ fun as vs W2 H2 s2 ok2 n2 q2 => ?_
  exact k _ _ W2 H2 s2 ok2 (.cons (show Arg X.K W2 .pot v from ⟨p, ev, s2.P p hp⟩) n2) q2

/-! ### displays, items -/
theorem Args.vals {K : PySem.W.Frag} {W : Wd} : ∀ {ds : List D} {vs : List V}, Args K W (ds.map Sl.val) vs → Dns K W.I ds vs
  | [], _, .nil => .nil
  | _ :: _, _, .cons h r => .cons h (Args.vals r)
theorem ed_tup {k0} (h : AD X B S es fun as => ∃ ds, as = ds.map Sl.val ∧ ds.length ≤ 100000 ∧ Q (.tup ds)) : ED X B S (.Tuple es k0 pos) Q := fun σ W H r R k => by
  refine PE.w (pe_tup wa_pa) ?_
  refine h σ W H r _ fun as vs W1 H1 s1 ok1 n1 q1 => ?_
  obtain ⟨ds, rfl, hl, q1⟩ := q1
  have n := n1.vals
  refine ⟨Nat.le_trans (n.length ▸ hl) (by decide), fun p hp => ?_⟩
  have st := Stp.new (o := .tup vs) ok1 hp
  exact k (.tup ds) (.ref p) _ _ (s1.trans ok1 st) (ok1.new hp) (.tup (show upd W1.I p _ p = _ from upd_same) (n.mono st.I)) q1
theorem ed_lst (h : AD X B S es fun as => ∃ ds, as = ds.map Sl.val ∧ ds.length ≤ 100000 ∧ Q (.lst ds)) : ED X B S (.List es pos) Q := fun σ W H r R k => by
  refine PE.w (pe_lst wa_pa) ?_
  refine h σ W H r _ fun as vs W1 H1 s1 ok1 n1 q1 => ?_
  obtain ⟨ds, rfl, hl, q1⟩ := q1
  have n := n1.vals
  refine ⟨Nat.le_trans (n.length ▸ hl) (by decide), fun p hp => ?_⟩
  have st := Stp.new (o := .lst vs) ok1 hp
  exact k (.lst ds) (.ref p) _ _ (s1.trans ok1 st) (ok1.new hp) (.lst (show upd W1.I p _ p = _ from upd_same) (n.mono st.I)) q1
theorem Dns.at {K : PySem.W.Frag} {I : Hp} {l : List D} {xs : List V} {i : Int} {d : D} (h : Dns K I l xs) (e : atI l i = some d) : ∃ v, atI xs i = some v ∧ Dn K I d v := by
  unfold atI at e ⊢
  rw [← h.length]
  cases q : ixN l.length i with
  | none => rw [q] at e; cases e
  | some j =>
    rw [q, Option.bind_some] at e
    obtain ⟨v, h1, h2⟩ := h.get' e
    exact ⟨v, h1, h2⟩
theorem od_ixL {l : List D} {i : Int} {d : D} {σ : L2.St} {W : Wd} {H : Hp} {R : VK} {v u : V} (ok : Ok (gOf X) W H) (h1 : Dn X.K W.I (.lst l) v) (h2 : Dn X.K W.I (.int i) u) (e : atI l i = some d) (q : Q d) (k : Cont X.K (gOf X) W H Q R) : rIxL X.K v u H R := by
  cases h1 with
  | lst h z =>
    cases h2
    obtain ⟨v, e1, n⟩ := z.at e
    exact ⟨_, _, i, v, rfl, rfl, SqL.of (ok.ex _ _ h), e1, k.now ok n q⟩
/-- x[i] of a list, of a tuple -/
theorem ed_ix (h : ED X B S a fun x => ED X B S b fun y => ∃ l i d, (x = .lst l ∨ x = .tup l) ∧ y = .int i ∧ atI l i = some d ∧ Q d) (hs : PlainIx b := by exact fun _ _ => rfl) : ED X B S (.Subscript a b pos) Q := fun σ W H r R k => by
  refine PE.w (pe_ix ix_seq we_pe we_pe hs) ?_
  refine h σ W H r _ fun d v W1 H1 s1 ok1 n1 q1 => ?_
  refine q1 σ W1 H1 (r.step s1 ok1) _ fun d2 u W2 H2 s2 ok2 n2 q2 => ?_
  obtain ⟨l, i, d3, hx, rfl, e, q⟩ := q2
  have k2 := (k.step s1 ok1).step s2 ok2
  have n1' := n1.mono s2.I
  rcases hx with rfl | rfl
  · exact .inl (od_ixL (σ := σ) ok2 n1' n2 e q k2)
  · cases n1' with
    | tup h z =>
      cases n2
      obtain ⟨v, e1, n⟩ := z.at e
      exact .inr (.inl ⟨_, _, i, v, rfl, rfl, SqT.of (ok2.ex _ _ h), e1, k2.now ok2 n q⟩)
/-- p[0], p[1] of a pot: some int -/
theorem ed_potix {x : Str} {px : Pos} {j : Nat} {j2 pos2} (i : Nat) (hN : X.N[i]? = some x) (h : S[i]? = some (some .pot)) (hj : j < 2) (q : ∀ z : Int, (j = 1 → 0 ≤ z ∧ z < 2 ^ 31) → Q (.int z)) (hv : Vis X.env.scope x := by first | exact Or.inl rfl | exact Or.inr (Or.inl rfl) | exact Or.inr (Or.inr rfl))
    (hd : (x == ("__debug__" : Str)) = false := by decide) (hcd : (x == ("__classdict__" : Str)) = false := by decide) : ED X B S (.Subscript (.Name x px) (.Constant (.int (j : Int)) j2 pos2) pos) Q := fun σ W H r R k => by
  refine PE.w (pe_ix ix_list (pe_var hN hv hd hcd) pe_int (fun _ _ => rfl)) ?_
  obtain ⟨v, e, p, ev, hp⟩ := r.sl i _ h
  subst ev
  obtain ⟨n, y, z, hH, hb⟩ := r.ok.pot p hp
  refine ⟨_, e, p, _, (j : Int), if j = 0 then .int y else .int z, rfl, rfl, SqL.of hH, ?_, ?_⟩
  · match j, hj with
    | 0, _ => exact atI_nat (j := 0) rfl
    | 1, _ => exact atI_nat (j := 1) rfl
  · match j, hj with
    | 0, _ => exact k.now r.ok (.int y) (q y fun z => absurd z (by decide))
    | 1, _ => exact k.now r.ok (.int z) (q z fun _ => hb)
end

/-! ### what a def promises, on data -/
abbrev SpD := List Sl → (D → Prop) → Prop
def lift (K : PySem.W.Frag) (sp : SpD) : SpG := fun g vs H R => ∃ as W Q, Ok g W H ∧ Args K W as vs ∧ sp as Q ∧ Cont K g W H Q R
/-- the def that the module calls x: its level, its parameters, its promise -/
structure Df (P : Program) (w : World) (K : PySem.W.Frag) (mg : Str → Option Value) (base : Heap) (x : Str) (k : Nat) (n : Nat) (sp : SpD) : Prop where
  ex : ∃ f fd ps, GnOk P w K mg base k f fd ps (lift K sp) ∧ mg x = some (.ref f) ∧ PySem.W.keepIn K (.ref f) = true ∧ Binds K fd ps [] ∧ ps.length = n
section
variable {X : Cx} {B : Hp} {S : En} {pos p : Pos} {Q : D → Prop} {e : Expr} {es : List Expr} {x : Str} {k n : Nat} {sp : SpD}
theorem ed_call (F : Df X.prog X.w X.K X.mg X.base x k n sp) (hr : Room k X.A) (hG : X.A.guards = some (gOf X)) (h : AD X B S (e :: es) fun as => sp as Q) (hg : Gl X x := by rfl) (hdb : (x == ("__debug__" : Str)) = false := by decide)
    (he : starEach (e :: es) X.env = (false, eval e X.env) :: starEach es X.env := by rfl) (hpl : (backTo pos (starEach es X.env)).any (·.1) = false := by rfl) : ED X B S (.Call (.Name x p) (e :: es) [] pos) Q := fun σ W H r R c => by
  obtain ⟨f, fd, ps, F, hm, hk, hb, _⟩ := F.ex
  refine we_call F hr hG hg hm hk hb .nil ?_ hdb he hpl
  refine h σ W H r _ fun as vs W1 H1 s1 ok1 n1 q1 => ?_
  rw [List.append_nil]
  exact ⟨as, W1, Q, ok1, n1, q1, c.step s1 ok1⟩
/-- a call of a value on data -/
def CD (X : Cx) (f : Value) (as : List Sl) (Q : D → Prop) : Prop := ∀ vs W H, Ok (gOf X) W H → Args X.K W as vs → ∀ R, Cont X.K (gOf X) W H Q R → ∀ pins s σ us, Inv X pins σ H s → Vals vs us → wpAny (model X.prog X.w) X.A (call f us) (EP X pins σ R) X.xe s
def WC (X : Cx) (f : Value) : List V → Hp → VK → Prop := fun vs H R => ∀ pins s σ us, Inv X pins σ H s → Vals vs us → wpAny (model X.prog X.w) X.A (call f us) (EP X pins σ R) X.xe s
theorem wc_call {f : Value} : CallR X f (WC X f) := fun pins s σ _ _ us _ I r h => h pins s σ us I r
theorem cd_of {f : Value} {r : List V → Hp → VK → Prop} {as : List Sl} (hc : CallR X f r) (h : ∀ vs W H, Ok (gOf X) W H → Args X.K W as vs → ∀ R, Cont X.K (gOf X) W H Q R → r vs H R) : CD X f as Q := fun vs W H ok ha R c pins s σ us I rv =>
  hc pins s σ H vs us R I rv (h vs W H ok ha R c)
theorem ed_callB {id : String} (hm : X.mg x = none) (h : AD X B S (e :: es) fun as => CD X (.builtin id) as Q) (hv : bootBuiltins x = some (.builtin id) := by first | rfl | decide +kernel) (hg : Gl X x := by rfl) (hn : x ≠ "__name__" := by decide) (hdb : (x == ("__debug__" : Str)) = false := by decide)
    (he : starEach (e :: es) X.env = (false, eval e X.env) :: starEach es X.env := by rfl) (hpl : (backTo pos (starEach es X.env)).any (·.1) = false := by rfl) : ED X B S (.Call (.Name x p) (e :: es) [] pos) Q := fun σ W H r R c => by
  refine PE.w (pe_callB wc_call hg hm hv wa_pa hn hdb he hpl) ?_
  refine h σ W H r _ fun as vs W1 H1 s1 ok1 n1 q1 => ?_
  exact q1 vs W1 H1 ok1 n1 R (c.step s1 ok1)
theorem ed_callTy {T : String} (hm : X.mg x = none) (h : AD X B S (e :: es) fun as => CD X (.type T) as Q) (hv : bootBuiltins x = some (.type T) := by first | rfl | decide +kernel) (hg : Gl X x := by rfl) (hn : x ≠ "__name__" := by decide) (hdb : (x == ("__debug__" : Str)) = false := by decide)
    (he : starEach (e :: es) X.env = (false, eval e X.env) :: starEach es X.env := by rfl) (hpl : (backTo pos (starEach es X.env)).any (·.1) = false := by rfl) : ED X B S (.Call (.Name x p) (e :: es) [] pos) Q := fun σ W H r R c => by
  refine PE.w (pe_callTy wc_call hg hm hv wa_pa hn hdb he hpl) ?_
  refine h σ W H r _ fun as vs W1 H1 s1 ok1 n1 q1 => ?_
  exact q1 vs W1 H1 ok1 n1 R (c.step s1 ok1)
/-- a built-in function that the module imported -/
theorem one_arg {K : PySem.W.Frag} {W : Wd} {d : D} {vs : List V} (h : Args K W [.val d] vs) : ∃ v, vs = [v] ∧ Dn K W.I d v := by
  cases h with
  | cons h r => cases r; exact ⟨_, rfl, h⟩
theorem two_args {K : PySem.W.Frag} {W : Wd} {d d' : D} {vs : List V} (h : Args K W [.val d, .val d'] vs) : ∃ v u, vs = [v, u] ∧ Dn K W.I d v ∧ Dn K W.I d' u := by
  cases h with
  | cons h r => cases r with
    | cons h' r' => cases r'; exact ⟨_, _, rfl, h, h'⟩
theorem cd_abs {i : Int} (q : Q (.int (if i < 0 then -i else i))) : CD X (.builtin "abs") [.val (.int i)] Q := cd_of call_abs fun vs W H ok ha R c => by
  obtain ⟨v, rfl, h⟩ := one_arg ha
  cases h
  exact ⟨i, rfl, c.now ok (.int _) q⟩
theorem cd_int {i : Int} (q : Q (.int i)) : CD X (.type "int") [.val (.int i)] Q := cd_of call_int1 fun vs W H ok ha R c => by
  obtain ⟨v, rfl, h⟩ := one_arg ha
  cases h
  exact .inl ⟨i, rfl, c.now ok (.int _) q⟩
theorem cd_max {i j : Int} (hc : X.calm = true) (q : Q (.int (if j > i then j else i))) : CD X (.builtin "max") [.val (.int i), .val (.int j)] Q := cd_of (call_max2 hc) fun vs W H ok ha R c => by
  obtain ⟨v, u, rfl, h, h'⟩ := two_args ha
  cases h; cases h'
  exact ⟨i, j, rfl, c.now ok (.int _) q⟩
theorem cd_divmod {i j : Int} (hj : CDiv i j) (q : Q (.tup [.int (i / j), .int (i % j)])) : CD X (.builtin "divmod") [.val (.int i), .val (.int j)] Q := cd_of call_divmod fun vs W H ok ha R c => by
  obtain ⟨v, u, rfl, h, h'⟩ := two_args ha
  cases h; cases h'
  refine ⟨i, j, rfl, hj, fun p hp => ?_⟩
  have st := Stp.new (o := .tup [.int (i / j), .int (i % j)]) ok hp
  exact c _ _ _ _ st (ok.new hp) (.tup (show upd W.I p _ p = _ from upd_same) (.cons (.int _) (.cons (.int _) .nil))) q
theorem cd_len {x : D} {l : List D} (hx : x = .lst l ∨ x = .tup l) (q : Q (.int (l.length : Int))) : CD X (.builtin "len") [.val x] Q := cd_of call_len_seq fun vs W H ok ha R c => by
  obtain ⟨v, rfl, h⟩ := one_arg ha
  rcases hx with rfl | rfl
  · cases h with
    | lst h z => exact ⟨_, _, rfl, .inl (SqL.of (ok.ex _ _ h)), by rw [← z.length]; exact c.now ok (.int _) q⟩
  · cases h with
    | tup h z => exact ⟨_, _, rfl, .inr (SqT.of (ok.ex _ _ h)), by rw [← z.length]; exact c.now ok (.int _) q⟩
theorem cd_lenF {l : List Int} (q : Q (.int (l.length : Int))) : CD X (.builtin "len") [.val (.frl l)] Q := cd_of call_len_seq fun vs W H ok ha R c => by
  obtain ⟨v, rfl, h⟩ := one_arg ha
  cases h with
  | frl h => exact ⟨_, _, rfl, .inl (ok.ex.l h), by rw [List.length_map]; exact c.now ok (.int _) q⟩
end
end DL

set_option Elab.async false
set_option linter.all false
set_option maxRecDepth 100000
set_option maxHeartbeats 2000000
namespace DL
open PySem L2

/-! ### statements -/
structure Ends' where
  nx : En → Prop
  rt : D → Prop
  bk : En → Prop := fun _ => False
  ct : En → Prop := fun _ => False
structure Sub (K : PySem.W.Frag) (g : List Code) (B : Hp) (W0 : Wd) (I : Hp) (E : Ends') (D' : Ends) : Prop where
  nx : ∀ S σ W H, Rep K g B S σ W H → Stp W0 B W H → Ex I W.I → E.nx S → D'.nx σ H
  rt : ∀ d v W H, Ok g W H → Stp W0 B W H → Ex I W.I → Dn K W.I d v → E.rt d → D'.rt v H
  bk : ∀ S σ W H, Rep K g B S σ W H → Stp W0 B W H → Ex I W.I → E.bk S → D'.bk σ H
  ct : ∀ S σ W H, Rep K g B S σ W H → Stp W0 B W H → Ex I W.I → E.ct S → D'.ct σ H
theorem Sub.mono {K : PySem.W.Frag} {g : List Code} {B : Hp} {W0 : Wd} {I I' : Hp} {E : Ends'} {D' : Ends} (k : Sub K g B W0 I E D') (e : Ex I I') : Sub K g B W0 I' E D' :=
  ⟨fun S σ W H r z x => k.nx S σ W H r z (e.trans x), fun d v W H r z x => k.rt d v W H r z (e.trans x), fun S σ W H r z x => k.bk S σ W H r z (e.trans x), fun S σ W H r z x => k.ct S σ W H r z (e.trans x)⟩
def WG (X : Cx) (tg : Expr) : TG := fun v σ H Q => ∀ pins s u, Inv X pins σ H s → RelV v u → wpAny (model X.prog X.w) X.A (assign tg X.env u) (fun _ s' => ∃ σ' H', Inv X pins σ' H' s' ∧ Q σ' H') X.xe s
def WGs (X : Cx) (ts : List Expr) : TGs := fun vs σ H Q => ∀ pins s us, Inv X pins σ H s → Vals vs us → wpAny (model X.prog X.w) X.A (assignInOrder ((assignEach ts X.env).map (·.2)) us) (fun _ s' => ∃ σ' H', Inv X pins σ' H' s' ∧ Q σ' H') X.xe s
theorem wg_pg {X : Cx} {tg : Expr} : PG X tg (WG X tg) := ⟨fun pins s _ _ _ u _ I r h => h pins s u I r⟩
theorem wgs_pgs {X : Cx} {ts : List Expr} : PGs X ts (WGs X ts) := ⟨fun pins s _ _ _ us _ I r h => h pins s us I r⟩
theorem PG.w {X : Cx} {tg : Expr} {t : TG} (h : PG X tg t) {v : V} {σ : L2.St} {H : Hp} {Q : L2.St → Hp → Prop} (q : t v σ H Q) : WG X tg v σ H Q := fun pins s u I r => h.run pins s σ H v u Q I r q
theorem PGs.w {X : Cx} {ts : List Expr} {t : TGs} (h : PGs X ts t) {vs : List V} {σ : L2.St} {H : Hp} {Q : L2.St → Hp → Prop} (q : t vs σ H Q) : WGs X ts vs σ H Q := fun pins s us I r => h.run pins s σ H vs us Q I r q
section
variable (X : Cx) (B : Hp) (W0 : Wd) (S : En)
def SD (st : Stmt) (E : Ends') : Prop := ∀ σ W H, Rep X.K (gOf X) B S σ W H → Stp W0 B W H → ∀ D', Sub X.K (gOf X) B W0 W.I E D' → WS X st D' σ H
def SDs (sts : List Stmt) (E : Ends') : Prop := ∀ σ W H, Rep X.K (gOf X) B S σ W H → Stp W0 B W H → ∀ D', Sub X.K (gOf X) B W0 W.I E D' → WSs X sts D' σ H
def ContG (K : PySem.W.Frag) (g : List Code) (I : Hp) (Q : En → Prop) (R : L2.St → Hp → Prop) : Prop := ∀ S σ W H, Rep K g B S σ W H → Stp W0 B W H → Ex I W.I → Q S → R σ H
def GD (tg : Expr) (d : D) (Q : En → Prop) : Prop := ∀ σ W H v, Rep X.K (gOf X) B S σ W H → Stp W0 B W H → Dn X.K W.I d v → ∀ R, ContG B W0 X.K (gOf X) W.I Q R → WG X tg v σ H R
def GDs (ts : List Expr) (ds : List D) (Q : En → Prop) : Prop := ∀ σ W H vs, Rep X.K (gOf X) B S σ W H → Stp W0 B W H → Dns X.K W.I ds vs → ∀ R, ContG B W0 X.K (gOf X) W.I Q R → WGs X ts vs σ H R
end
section
variable {X : Cx} {B : Hp} {W0 : Wd} {S : En} {st : Stmt} {sts : List Stmt} {E : Ends'} {pos : Pos} {e a b : Expr} {Q : En → Prop}

/-! targets -/
theorem gd_name {x : Str} {d : D} (i : Nat) (hN : X.N.Nodup) (hi : X.N[i]? = some x) (q : Q (S.set i (some (.val d)))) (hx : Loc X.env.scope x := by first | exact Or.inl rfl | exact Or.inr rfl)
    (hf : X.fn x = true ∨ X.env.scope.names.lookup x = some .local := by first | exact .inl rfl | exact .inr rfl) : GD X B W0 S (.Name x pos) d Q := fun σ W H v r z n R k =>
  PG.w (pg_name hN hi hx hf) (k _ _ W H (r.set n) z (Ex.refl _) q)
theorem gds_nil (q : Q S) : GDs X B W0 S [] [] Q := fun σ W H vs r z n R k => by
  cases n
  exact PGs.w pgs_nil ⟨rfl, k _ _ W H r z (Ex.refl _) q⟩
theorem gds_cons {tg : Expr} {ts : List Expr} {d : D} {ds : List D} (h : GD X B W0 S tg d fun S' => GDs X B W0 S' ts ds Q) (hs : (assignEach (tg :: ts) X.env).map (·.2) = assign tg X.env :: (assignEach ts X.env).map (·.2) := by rfl) : GDs X B W0 S (tg :: ts) (d :: ds) Q := fun σ W H vs r z n R k => by
  cases n with
  | @cons _ v _ xs n1 n2 =>
    refine PGs.w (pgs_cons wg_pg wgs_pgs hs) ⟨_, _, rfl, ?_⟩
    exact h σ W H v r z n1 _ fun S' σ' W' H' r' z' e' q' => q' σ' W' H' xs r' z' (n2.mono e') R fun S2 σ2 W2 H2 r2 z2 e2 q2 => k S2 σ2 W2 H2 r2 z2 (e'.trans e2) q2
theorem gd_tup {es : List Expr} {k0 : Nat} {ds : List D} {n : Nat} (hc : X.calm = true) (h : GDs X B W0 S es ds Q) (hl : ds.length = n) (hn : (assignEach es X.env).length = n := by rfl) (hst : (assignEach es X.env).findIdx? (·.1) = none := by rfl) : GD X B W0 S (.Tuple es k0 pos) (.tup ds) Q := fun σ W H v r z m R k => by
  cases m with
  | tup hp m => exact PG.w (pg_tup hc wgs_pgs hn hst) ⟨_, _, rfl, SqT.of (r.ok.ex _ _ hp), by rw [← m.length]; exact hl, h σ W H _ r z m R k⟩
/-- p[j] = an int, p a pot -/
theorem gd_pot {x : Str} {px : Pos} {j : Nat} {j2 pos2} {m : Int} (i : Nat) (hN : X.N[i]? = some x) (h : S[i]? = some (some .pot)) (hj : j < 2) (hm : j = 1 → 0 ≤ m ∧ m < 2 ^ 31) (q : Q S) (hv : Vis X.env.scope x := by first | exact Or.inl rfl | exact Or.inr (Or.inl rfl) | exact Or.inr (Or.inr rfl))
    (hd : (x == ("__debug__" : Str)) = false := by decide) (hcd : (x == ("__classdict__" : Str)) = false := by decide)
    (ha : ∀ v, assign (.Subscript (.Name x px) (.Constant (.int (j : Int)) j2 pos2) pos) X.env v = (do
      let ov ← holding [v] (eval (.Name x px) X.env)
      let iv ← holding [v, ov] (eval (.Constant (.int (j : Int)) j2 pos2) X.env)
      standAt pos
      holding [v, ov, iv] (setItem ov iv v)
      release [v, ov, iv] []) := by intro _; rfl) : GD X B W0 S (.Subscript (.Name x px) (.Constant (.int (j : Int)) j2 pos2) pos) (.int m) Q := fun σ W H v r z n R k => by
  cases n
  obtain ⟨v, e, p, ev, hp⟩ := r.sl i _ h
  subst ev
  obtain ⟨ni, y, w, hH, hbb⟩ := r.ok.pot p hp
  refine PG.w (pg_sub (pe_var hN hv hd hcd) pe_int set_list ha) ⟨_, e, p, _, (j : Int), j, rfl, rfl, hH, ?_, ?_⟩
  · match j, hj with
    | 0, _ => rfl
    | 1, _ => rfl
  · have ht : ∃ y' w', ([V.int y, V.int w].set j (.int m)) = [V.int y', V.int w'] ∧ 0 ≤ w' ∧ w' < 2 ^ 31 := by
      match j, hj with
      | 0, _ => exact ⟨m, w, rfl, hbb⟩
      | 1, _ => exact ⟨y, m, rfl, hm rfl⟩
    obtain ⟨y', w', et, hw'⟩ := ht
    rw [et]
    have pn : ∀ b o, H b = some o → ¬ W.P b → b ≠ p := fun b o _ n z => n (z ▸ hp)
    have ok : Ok (gOf X) W (upd H p (.lst [.int y', .int w'])) := {
      gd := fun b hb => by
        obtain ⟨n1, n2⟩ := r.ok.gd b hb
        refine ⟨n1, ?_⟩
        by_cases q : b = p
        · subst q
          rw [upd_same]
          exact ⟨(fun z => by cases z), (fun _ z => by cases z)⟩
        · rw [upd_ne q]
          exact n2
      ex := fun b o hb => by
        rw [upd_ne (fun z => by rw [z, ni] at hb; cases hb)]
        exact r.ok.ex b o hb
      pot := fun b hb => by
        obtain ⟨nb, y2, w2, h2⟩ := r.ok.pot b hb
        refine ⟨nb, ?_⟩
        by_cases q : b = p
        · subst q
          exact ⟨y', w', upd_same, hw'⟩
        · exact ⟨y2, w2, by rw [upd_ne q]; exact h2⟩ }
    have st : Stp W H W (upd H p (.lst [.int y', .int w'])) := ⟨Ex.refl _, fun _ h => h, fun b o hb n => by rw [upd_ne (pn b o hb n)]; exact hb, fun _ _ _ _ h => h, fun _ _ _ h => h⟩
    exact k S σ W _ (r.step st ok) (z.trans r.ok st) (Ex.refl _) q

/-! blocks -/
theorem sds_nil (q : E.nx S) : SDs X B W0 S [] E := fun σ W H r z D' k => PSs.w pss_nil (k.nx S σ W H r z (Ex.refl _) q)
theorem sds_cons (h : SD X B W0 S st { E with nx := fun S' => SDs X B W0 S' sts E }) : SDs X B W0 S (st :: sts) E := fun σ W H r z D' k => by
  refine PSs.w (pss_cons ws_ps wss_pss) ?_
  exact h σ W H r z _ ⟨fun S' σ' W' H' r' z' x' q => q σ' W' H' r' z' D' (k.mono x'), k.rt, k.bk, k.ct⟩
theorem sd_ret (h : ED X B S e E.rt) : SD X B W0 S (.Return (some e) pos) E := fun σ W H r z D' k => PS.w (ps_ret we_pe) (h σ W H r _ fun d v W1 H1 s1 ok1 n1 q1 => k.rt d v W1 H1 ok1 (z.trans r.ok s1) s1.I n1 q1)
theorem sd_expr (h : ED X B S e fun _ => E.nx S) (hs : swapsWith e none pos.line X.env = pure false := by rfl) : SD X B W0 S (.Expr e pos) E := fun σ W H r z D' k =>
  PS.w (ps_expr we_pe hs) (h σ W H r _ fun d v W1 H1 s1 ok1 n1 q1 => k.nx S σ W1 H1 (r.step s1 ok1) (z.trans r.ok s1) s1.I q1)
theorem sd_if {c : Expr} {x y : List Stmt} (h : TD X B S c fun t => if t = true then SDs X B W0 S x E else SDs X B W0 S y E) : SD X B W0 S (.If c x y pos) E := fun σ W H r z D' k => by
  refine PS.w (ps_if wt_pt wss_pss wss_pss) ?_
  refine h σ W H r _ fun t W1 H1 s1 ok1 q1 => ?_
  cases t with
  | true => exact iteT ((show SDs X B W0 S x E by simpa using q1) σ W1 H1 (r.step s1 ok1) (z.trans r.ok s1) D' (k.mono s1.I))
  | false => exact iteF ((show SDs X B W0 S y E by simpa using q1) σ W1 H1 (r.step s1 ok1) (z.trans r.ok s1) D' (k.mono s1.I))
theorem sd_set {x : Str} {pos' : Pos} (i : Nat) (hN : X.N.Nodup) (hi : X.N[i]? = some x) (h : ED X B S e fun d => E.nx (S.set i (some (.val d)))) (hx : Loc X.env.scope x := by first | exact Or.inl rfl | exact Or.inr rfl)
    (hs : swapsWith e (some (.Name x pos')) pos.line X.env = pure false := by rfl) (hf : X.fn x = true ∨ X.env.scope.names.lookup x = some .local := by first | exact .inl rfl | exact .inr rfl) : SD X B W0 S (.Assign [.Name x pos'] e pos) E := fun σ W H r z D' k =>
  PS.w (ps_set hN hi hx we_pe hs hf) (h σ W H r _ fun d v W1 H1 s1 ok1 n1 q1 => k.nx _ _ W1 H1 ((r.step s1 ok1).set n1) (z.trans r.ok s1) s1.I q1)
theorem sd_asg {tg : Expr} (h : ED X B S e fun d => GD X B W0 S tg d E.nx) (hs : swapsWithSole [tg] e pos.line X.env = pure false := by rfl) (hw : swappedStores [tg] e X.env = pure none := by rfl)
    (h1 : (assignEach [tg] X.env).map (·.2) = [assign tg X.env] := by rfl) : SD X B W0 S (.Assign [tg] e pos) E := fun σ W H r z D' k =>
  PS.w (ps_asg we_pe wg_pg hs hw h1) (h σ W H r _ fun d v W1 H1 s1 ok1 n1 q1 => q1 σ W1 H1 v (r.step s1 ok1) (z.trans r.ok s1) n1 _ fun S2 σ2 W2 H2 r2 z2 e2 q2 => k.nx S2 σ2 W2 H2 r2 z2 (s1.I.trans e2) q2)
theorem sd_par {x y : Str} {px py pt : Pos} {kt k2 pt2} (i j : Nat) (hc : X.calm = true) (hN : X.N.Nodup) (hi : X.N[i]? = some x) (hj : X.N[j]? = some y) (hij : i ≠ j)
    (hx : X.env.scope.names.lookup x = some .local) (hy : X.env.scope.names.lookup y = some .local) (h : AD X B S [a, b] fun as => ∃ d d', as = [.val d, .val d'] ∧ E.nx ((S.set i (some (.val d))).set j (some (.val d'))))
    (hps : PS X (.Assign [.Tuple [.Name x px, .Name y py] kt pt] (.Tuple [a, b] k2 pt2) pos) (tPar i j (WA X [a, b])) := by exact ps_par rfl (by assumption) rfl rfl (by decide) rfl rfl DL.wa_pa (by rfl)) :
    SD X B W0 S (.Assign [.Tuple [.Name x px, .Name y py] kt pt] (.Tuple [a, b] k2 pt2) pos) E := fun σ W H r z D' k => by
  refine PS.w hps ?_
  refine h σ W H r _ fun as vs W1 H1 s1 ok1 n1 q1 => ?_
  obtain ⟨d, d', rfl, q1⟩ := q1
  obtain ⟨v, u, rfl, m, m'⟩ := two_args n1
  exact ⟨v, u, rfl, k.nx _ _ W1 H1 (((r.step s1 ok1).set m).set m') (z.trans r.ok s1) s1.I q1⟩
/-! loops -/
theorem sd_forL {tg iter : Expr} {body : List Stmt} {l : List D} (hp : PassesOwn (model X.prog X.w) X.A X.env X.xe) (hc : X.calm = true) (Inv : Nat → En → Prop) (h : ED X B S iter fun d => (d = .lst l) ∧ Inv 0 S)
    (hs : ∀ (i : Nat) d S', l[i]? = some d → Inv i S' → GD X B W0 S' tg d fun S2 => SDs X B W0 S2 body { nx := Inv (i + 1), rt := E.rt, bk := E.nx, ct := Inv (i + 1) })
    (hd : ∀ S', Inv l.length S' → E.nx S') (hf : ∀ x, foldedSetIterable iter X.env x = pure x := by intro _; rfl) : SD X B W0 S (.For tg iter body [] pos) E := fun σ W H r z D' k => by
  refine PS.w (ps_for hp hc (pi_list we_pe) wg_pg wss_pss hf) ?_
  refine h σ W H r _ fun d v W1 H1 s1 ok1 n1 q1 => ?_
  obtain ⟨rfl, i0⟩ := q1
  cases n1 with
  | @lst _ a xs ha m =>
    refine ⟨a, rfl, ⟨xs, SqL.of (ok1.ex _ _ ha)⟩, for_list (K := X.K) (a := a) (xs := xs) (fun i σ' H' => ∃ S' W', Rep X.K (gOf X) B S' σ' W' H' ∧ Stp W0 B W' H' ∧ Ex W1.I W'.I ∧ Inv i S') ⟨S, W1, r.step s1 ok1, z.trans r.ok s1, Ex.refl _, i0⟩
      (fun i σ' H' _ ⟨S', W', r', _, e', _⟩ => SqL.of (r'.ok.ex _ _ (e' _ _ ha))) ?_ ?_⟩
    · rintro i x σ' H' hx ⟨S', W', r', z', e', i'⟩
      obtain ⟨d, hd', nd⟩ := m.get hx
      refine hs i d S' hd' i' σ' W' H' x r' z' (nd.mono e') _ fun S2 σ2 W2 H2 r2 z2 e2 q2 => ?_
      exact q2 σ2 W2 H2 r2 z2 _ ⟨fun S3 σ3 W3 H3 r3 z3 e3 q3 => ⟨S3, W3, r3, z3, (e'.trans e2).trans e3, q3⟩, fun d3 v3 W3 H3 r3 z3 e3 n3 q3 => k.rt d3 v3 W3 H3 r3 z3 (((s1.I.trans e').trans e2).trans e3) n3 q3,
        fun S3 σ3 W3 H3 r3 z3 e3 q3 => k.nx S3 σ3 W3 H3 r3 z3 (((s1.I.trans e').trans e2).trans e3) q3, fun S3 σ3 W3 H3 r3 z3 e3 q3 => ⟨S3, W3, r3, z3, (e'.trans e2).trans e3, q3⟩⟩
    · rintro σ' H' ⟨S', W', r', z', e', i'⟩
      rw [← m.length] at i'
      exact k.nx S' σ' W' H' r' z' (s1.I.trans e') (hd S' i')
theorem sd_forT {tg iter : Expr} {body : List Stmt} {l : List D} (hp : PassesOwn (model X.prog X.w) X.A X.env X.xe) (hc : X.calm = true) (Inv : Nat → En → Prop) (h : ED X B S iter fun d => (d = .tup l) ∧ Inv 0 S)
    (hs : ∀ (i : Nat) d S', l[i]? = some d → Inv i S' → GD X B W0 S' tg d fun S2 => SDs X B W0 S2 body { nx := Inv (i + 1), rt := E.rt, bk := E.nx, ct := Inv (i + 1) })
    (hd : ∀ S', Inv l.length S' → E.nx S') (hf : ∀ x, foldedSetIterable iter X.env x = pure x := by intro _; rfl) : SD X B W0 S (.For tg iter body [] pos) E := fun σ W H r z D' k => by
  refine PS.w (ps_for hp hc (pi_tup we_pe) wg_pg wss_pss hf) ?_
  refine h σ W H r _ fun d v W1 H1 s1 ok1 n1 q1 => ?_
  obtain ⟨rfl, i0⟩ := q1
  cases n1 with
  | @tup _ a xs ha m =>
    refine ⟨a, rfl, ⟨xs, SqT.of (ok1.ex _ _ ha)⟩, for_tup (K := X.K) (a := a) (xs := xs) (fun i σ' H' => ∃ S' W', Rep X.K (gOf X) B S' σ' W' H' ∧ Stp W0 B W' H' ∧ Ex W1.I W'.I ∧ Inv i S') ⟨S, W1, r.step s1 ok1, z.trans r.ok s1, Ex.refl _, i0⟩
      (fun i σ' H' _ ⟨S', W', r', _, e', _⟩ => SqT.of (r'.ok.ex _ _ (e' _ _ ha))) ?_ ?_⟩
    · rintro i x σ' H' hx ⟨S', W', r', z', e', i'⟩
      obtain ⟨d, hd', nd⟩ := m.get hx
      refine hs i d S' hd' i' σ' W' H' x r' z' (nd.mono e') _ fun S2 σ2 W2 H2 r2 z2 e2 q2 => ?_
      exact q2 σ2 W2 H2 r2 z2 _ ⟨fun S3 σ3 W3 H3 r3 z3 e3 q3 => ⟨S3, W3, r3, z3, (e'.trans e2).trans e3, q3⟩, fun d3 v3 W3 H3 r3 z3 e3 n3 q3 => k.rt d3 v3 W3 H3 r3 z3 (((s1.I.trans e').trans e2).trans e3) n3 q3,
        fun S3 σ3 W3 H3 r3 z3 e3 q3 => k.nx S3 σ3 W3 H3 r3 z3 (((s1.I.trans e').trans e2).trans e3) q3, fun S3 σ3 W3 H3 r3 z3 e3 q3 => ⟨S3, W3, r3, z3, (e'.trans e2).trans e3, q3⟩⟩
    · rintro σ' H' ⟨S', W', r', z', e', i'⟩
      rw [← m.length] at i'
      exact k.nx S' σ' W' H' r' z' (s1.I.trans e') (hd S' i')
theorem sd_forR {tg : Expr} {p pos1 : Pos} {n : Int} {body : List Stmt} (hp : PassesOwn (model X.prog X.w) X.A X.env X.xe) (hc : X.calm = true) (hm : X.mg "range" = none) (Inv : Nat → En → Prop) (h : AD X B S [e] fun as => as = [.val (.int n)] ∧ n < 2 ^ 62 ∧ -(2 ^ 62) ≤ n ∧ Inv 0 S)
    (hs : ∀ (i : Nat) S', i < n.toNat → Inv i S' → GD X B W0 S' tg (.int i) fun S2 => SDs X B W0 S2 body { nx := Inv (i + 1), rt := E.rt, bk := E.nx, ct := Inv (i + 1) })
    (hd : ∀ S', Inv n.toNat S' → E.nx S') (hg : Gl X "range" := by rfl) (hst : starEach [e] X.env = [(false, eval e X.env)] := by rfl) (hf : ∀ x, foldedSetIterable (.Call (.Name "range" p) [e] [] pos1) X.env x = pure x := by intro _; rfl) : SD X B W0 S (.For tg (.Call (.Name "range" p) [e] [] pos1) body [] pos) E := fun σ W H r z D' k => by
  refine PS.w (ps_for hp hc (pi_range1 hg hm wa_pa hst) wg_pg wss_pss hf) ?_
  refine h σ W H r _ fun as vs W1 H1 s1 ok1 n1 q1 => ?_
  obtain ⟨rfl, hn, hn2, i0⟩ := q1
  obtain ⟨v, rfl, m⟩ := one_arg n1
  cases m
  refine ⟨n, rfl, hn2, hn, for_range (lo := 0) (n := n.toNat) (fun i σ' H' => ∃ S' W', Rep X.K (gOf X) B S' σ' W' H' ∧ Stp W0 B W' H' ∧ Ex W1.I W'.I ∧ Inv i S') ⟨S, W1, r.step s1 ok1, z.trans r.ok s1, Ex.refl _, i0⟩ ?_ ?_⟩
  · rintro i σ' H' hi ⟨S', W', r', z', e', i'⟩
    rw [Int.zero_add]
    refine hs i S' hi i' σ' W' H' _ r' z' (.int _) _ fun S2 σ2 W2 H2 r2 z2 e2 q2 => ?_
    exact q2 σ2 W2 H2 r2 z2 _ ⟨fun S3 σ3 W3 H3 r3 z3 e3 q3 => ⟨S3, W3, r3, z3, (e'.trans e2).trans e3, q3⟩, fun d3 v3 W3 H3 r3 z3 e3 n3 q3 => k.rt d3 v3 W3 H3 r3 z3 (((s1.I.trans e').trans e2).trans e3) n3 q3,
      fun S3 σ3 W3 H3 r3 z3 e3 q3 => k.nx S3 σ3 W3 H3 r3 z3 (((s1.I.trans e').trans e2).trans e3) q3, fun S3 σ3 W3 H3 r3 z3 e3 q3 => ⟨S3, W3, r3, z3, (e'.trans e2).trans e3, q3⟩⟩
  · rintro σ' H' ⟨S', W', r', z', e', i'⟩
    exact k.nx S' σ' W' H' r' z' (s1.I.trans e') (hd S' i')
theorem sd_while {c : Expr} {body : List Stmt} (hp : PassesOwn (model X.prog X.w) X.A X.env X.xe) (Inv : Nat → En → Prop) (m0 : Nat) (h0 : Inv m0 S)
    (hs : ∀ m S', Inv m S' → TD X B S' c fun t => if t = true then SDs X B W0 S' body { nx := fun S2 => ∃ m', m' < m ∧ Inv m' S2, rt := E.rt, bk := E.nx, ct := fun S2 => ∃ m', m' < m ∧ Inv m' S2 } else E.nx S') :
    SD X B W0 S (.While c body [] pos) E := fun σ W H r z D' k => by
  refine PS.w (ps_while hp wt_pt wss_pss) ⟨fun m σ' H' => ∃ S' W', Rep X.K (gOf X) B S' σ' W' H' ∧ Stp W0 B W' H' ∧ Ex W.I W'.I ∧ Inv m S', ⟨m0, S, W, r, z, Ex.refl _, h0⟩, ?_⟩
  rintro m σ1 H1 ⟨S1, W1, r1, z1, e1, i1⟩
  refine hs m S1 i1 σ1 W1 H1 r1 _ fun t W2 H2 s2 ok2 q2 => ?_
  cases t with
  | false => exact iteF (k.nx S1 σ1 W2 H2 (r1.step s2 ok2) (z1.trans r1.ok s2) (e1.trans s2.I) (by simpa using q2))
  | true =>
    have q2 : SDs X B W0 S1 body { nx := fun S2 => ∃ m', m' < m ∧ Inv m' S2, rt := E.rt, bk := E.nx, ct := fun S2 => ∃ m', m' < m ∧ Inv m' S2 } := by simpa using q2
    refine iteT ⟨fun σ' H' => ∃ m', m' < m ∧ ∃ S' W', Rep X.K (gOf X) B S' σ' W' H' ∧ Stp W0 B W' H' ∧ Ex W.I W'.I ∧ Inv m' S', fun σ' H' h => h, ?_⟩
    exact q2 σ1 W2 H2 (r1.step s2 ok2) (z1.trans r1.ok s2) _ ⟨fun S3 σ3 W3 H3 r3 z3 e3 ⟨m', hm, q3⟩ => ⟨m', hm, S3, W3, r3, z3, (e1.trans s2.I).trans e3, q3⟩, fun d3 v3 W3 H3 r3 z3 e3 n3 q3 => k.rt d3 v3 W3 H3 r3 z3 ((e1.trans s2.I).trans e3) n3 q3,
      fun S3 σ3 W3 H3 r3 z3 e3 q3 => k.nx S3 σ3 W3 H3 r3 z3 ((e1.trans s2.I).trans e3) q3, fun S3 σ3 W3 H3 r3 z3 e3 ⟨m', hm, q3⟩ => ⟨m', hm, S3, W3, r3, z3, (e1.trans s2.I).trans e3, q3⟩⟩
end

/-! ### a def by its body -/
def startE (N : List Str) (as : List Sl) : En := as.map some ++ List.replicate (N.length - as.length) none
theorem start_noT {K : PySem.W.Frag} {W : Wd} {N : List Str} {as : List Sl} {vs : List V} (h : Args K W as vs) (i : Nat) (l : List (List Key × D)) : (startE N as)[i]? ≠ some (some (.ownT l)) := by
  have key : ∀ {as : List Sl} {vs : List V} {n : Nat} {i : Nat}, Args K W as vs → (as.map some ++ List.replicate n none)[i]? = some (some (Sl.ownT l)) → False := by
    intro as vs n i h
    induction h generalizing i with
    | nil =>
      intro e
      simp only [List.map_nil, List.nil_append, List.getElem?_replicate] at e
      split at e <;> cases e
    | @cons a v as vs h1 _ ih =>
      intro e
      cases i with
      | zero =>
        simp only [List.map_cons, List.cons_append, List.getElem?_cons_zero, Option.some.injEq] at e
        subst e
        exact h1
      | succ i =>
        simp only [List.map_cons, List.cons_append, List.getElem?_cons_succ] at e
        exact ih e
  exact fun e => key h e
theorem rep_start {K : PySem.W.Frag} {g : List Code} {W : Wd} {H : Hp} {N : List Str} {as : List Sl} {vs : List V} (ok : Ok g W H) (h : Args K W as vs) : Rep K g H (startE N as) (L2.start N vs) W H := by
  have hl := Paired.length h
  refine ⟨ok, fun b hb => (ok.gd b hb).2.1, by unfold startE L2.start; simp [hl], fun i s e => ?_, fun i j l m p _ e => ?_, fun i j l m p _ e => absurd e (start_noT h i l)⟩
  · have key : ∀ {as : List Sl} {vs : List V} {n : Nat} {i : Nat} {s : Sl}, Args K W as vs → (as.map some ++ List.replicate n none)[i]? = some (some s) → ∃ v, (vs.map some ++ List.replicate n none)[i]? = some (some v) ∧ Arg K W s v := by
      intro as vs n i s h
      induction h generalizing i with
      | nil =>
        intro e
        simp only [List.map_nil, List.nil_append, List.getElem?_replicate] at e
        split at e <;> cases e
      | @cons a v as vs h1 _ ih =>
        intro e
        cases i with
        | zero =>
          simp only [List.map_cons, List.cons_append, List.getElem?_cons_zero, Option.some.injEq] at e
          subst e
          exact ⟨v, rfl, h1⟩
        | succ i =>
          simp only [List.map_cons, List.cons_append, List.getElem?_cons_succ] at e ⊢
          exact ih e
    unfold startE at e
    rw [show N.length - as.length = N.length - vs.length by rw [hl]] at e
    obtain ⟨v, e1, a1⟩ := key h e
    refine ⟨v, e1, ?_⟩
    cases s with
    | val d => exact a1
    | pot => exact a1
    | own l => exact a1.elim
    | inst _ _ _ _ => exact a1.elim
    | ownT _ => exact a1.elim
  · exfalso
    have key : ∀ {as : List Sl} {vs : List V} {n : Nat} {i : Nat}, Args K W as vs → (as.map some ++ List.replicate n none)[i]? = some (some (.own l)) → False := by
      intro as vs n i h
      induction h generalizing i with
      | nil =>
        intro e
        simp only [List.map_nil, List.nil_append, List.getElem?_replicate] at e
        split at e <;> cases e
      | @cons a v as vs h1 _ ih =>
        intro e
        cases i with
        | zero =>
          simp only [List.map_cons, List.cons_append, List.getElem?_cons_zero, Option.some.injEq] at e
          subst e
          exact h1
        | succ i =>
          simp only [List.map_cons, List.cons_append, List.getElem?_cons_succ] at e
          exact ih e
    exact key h e
section
variable {P : Program} {w : World} {K : PySem.W.Frag} {mg : Str → Option Value} {base : Heap}
theorem gOf_bx {N : List Str} {qual : Str} {st : Stmt} {f : Addr} {cdv : Value} {A : Around} {outer : List Env} {s : Shared} {H : Hp} {g : List Code} (h : A.guards = some g) : (Bx P w K mg base N qual st f cdv A outer s H).A.guards = some g ∧ gOf (Bx P w K mg base N qual st f cdv A outer s H) = g :=
  have e : (Bx P w K mg base N qual st f cdv A outer s H).A.guards = some g := deeper_guards h
  ⟨e, by unfold gOf; rw [e]; rfl⟩
theorem gn_dl {x qual : Str} {st : Stmt} {f : Addr} {fd : FuncData} {N ps : List Str} {k : Nat} {sp : SpD} (F : FunS K x qual st f fd) (hS : FnScope N ps (defScope st)) (len : ∀ as Q, sp as Q → as.length = ps.length)
    (body : ∀ cdv A outer s H, Room k (A.deeper (PyProof.Rows.envOfC qual (defScope st) s.heap.objs.size f cdv)) → (Bx P w K mg base N qual st f cdv A outer s H).A.guards = some (gOf (Bx P w K mg base N qual st f cdv A outer s H)) → ∀ W as Q, sp as Q → SDs (Bx P w K mg base N qual st f cdv A outer s H) H W (startE N as) (defBody st) { nx := fun _ => Q .non, rt := Q }) :
    GnOk P w K mg base (k + 1) f fd ps (lift K sp) := by
  refine gn_of F hS (fun g vs H Q h => ?_) (fun cdv A outer s H g vs R hr hG h => ?_)
  · obtain ⟨as, W, Qd, _, ha, hsp, _⟩ := h
    rw [← len _ _ hsp]
    exact (Paired.length ha).symm
  · obtain ⟨as, W, Qd, ok, ha, hsp, c⟩ := h
    obtain ⟨e1, e2⟩ := gOf_bx (P := P) (w := w) (K := K) (mg := mg) (base := base) (N := N) (qual := qual) (st := st) (f := f) (cdv := cdv) (outer := outer) (s := s) (H := H) hG
    refine ⟨WSs _ (defBody st), wss_pss, ?_⟩
    have bd := body cdv A outer s H hr (by rw [e2]; exact e1) W as Qd hsp
    refine bd (L2.start N vs) W H (by rw [e2]; exact rep_start ok ha) Stp.refl _ ?_
    rw [e2]
    exact ⟨fun S σ W' H' r z _ q => c .non .non W' H' z r.ok .non q, fun d v W' H' ok' z _ n q => c d v W' H' z ok' n q, fun _ _ _ _ _ _ _ q => q.elim, fun _ _ _ _ _ _ _ q => q.elim⟩
theorem df_of {x qual : Str} {st : Stmt} {f : Addr} {fd : FuncData} {ps : List Str} {k n : Nat} {sp : SpD} (F : FunS K x qual st f fd) (h : GnOk P w K mg base k f fd ps (lift K sp)) (hm : mg x = some (.ref f)) (hb : Binds K fd ps []) (hn : ps.length = n) : Df P w K mg base x k n sp :=
  ⟨f, fd, ps, h, hm, F.kp, hb, hn⟩
end
end DL

set_option Elab.async false
set_option linter.all false
set_option maxRecDepth 100000
set_option maxHeartbeats 2000000
namespace DL
open PySem L2

/-! ### lists that one name owns -/
theorem Ok.frz {g : List Code} {W : Wd} {H : Hp} {p : Addr} {o : HO} (ok : Ok g W H) (hp : H p = some o) (n : ¬ W.P p) (ng : ¬ InG g p) : Ok g (W.new p o) H where
  gd := fun b hb => by
    obtain ⟨n1, n2⟩ := ok.gd b hb
    refine ⟨?_, n2⟩
    show upd W.I p o b = none
    have ne : b ≠ p := fun z => ng (z ▸ hb)
    rw [upd_ne ne]
    exact n1
  ex := fun a u e => by
    have e' : upd W.I p o a = some u := e
    by_cases q : a = p
    · subst q
      rw [upd_same] at e'
      cases e'
      exact hp
    · rw [upd_ne q] at e'
      exact ok.ex a u e'
  pot := fun a pa => by
    obtain ⟨h, x⟩ := ok.pot a pa
    refine ⟨?_, x⟩
    show upd W.I p o a = none
    have ne : a ≠ p := fun z => n (z ▸ pa)
    rw [upd_ne ne]
    exact h
theorem Stp.frz {W W1 : Wd} {H H1 : Hp} {p : Addr} {o : HO} (a : Stp W H W1 H1) (hp : H p = none) (i : W1.I p = none) : Stp W H (W1.new p o) H1 where
  I := a.I.trans (Ex.new i)
  P := a.P
  keep := a.keep
  old := fun b u e t n => by
    show upd W1.I p o b = none
    rw [upd_ne (ne_of_none e hp)]
    exact a.old b u e t n
  oldP := a.oldP
/-- a new list, not yet part of what never changes -/
def ContF (K : PySem.W.Frag) (g : List Code) (W : Wd) (H : Hp) (Q : List D → Prop) (R : VK) : Prop := ∀ l p xs W' H', Stp W H W' H' → Ok g W' H' → H p = none → ¬ W'.P p → W'.I p = none → H' p = some (.lst xs) → Dns K W'.I l xs → Q l → R (.ref p) H'
def FD (X : Cx) (B : Hp) (S : En) (e : Expr) (Q : List D → Prop) : Prop := ∀ σ W H, Rep X.K (gOf X) B S σ W H → ∀ R, ContF X.K (gOf X) W H Q R → WE X e σ H R
/-- a tuple or a name: how an item comes to the names of a comprehension -/
def wipeE (S : En) : List Nat → En
  | [] => S
  | v :: vs => (wipeE S vs).set v none
theorem wipeE_some {S : En} {i : Nat} {x : Sl} : ∀ {vs : List Nat}, (wipeE S vs)[i]? = some (some x) → S[i]? = some (some x) ∧ i ∉ vs
  | [], h => ⟨h, by simp⟩
  | v :: vs, h => by
    unfold wipeE at h
    by_cases hi : v = i
    · subst hi
      by_cases hv : v < (wipeE S vs).length
      · rw [List.getElem?_set_self hv] at h; cases h
      · rw [List.getElem?_eq_none (by simpa using hv)] at h; cases h
    · rw [List.getElem?_set_ne hi] at h
      obtain ⟨h1, h2⟩ := wipeE_some h
      exact ⟨h1, by simp only [List.mem_cons, not_or]; exact ⟨fun e => hi e.symm, h2⟩⟩
theorem wipeE_length (S : En) : ∀ vs : List Nat, (wipeE S vs).length = S.length
  | [] => rfl
  | v :: vs => by unfold wipeE; rw [List.length_set, wipeE_length S vs]
theorem wipe_keep {σ : L2.St} {i : Nat} {x : V} : ∀ {vs : List Nat}, i ∉ vs → σ[i]? = some (some x) → (wipe σ vs)[i]? = some (some x)
  | [], _, h => h
  | v :: vs, hi, h => by
    unfold wipe
    simp only [List.mem_cons, not_or] at hi
    rw [List.getElem?_set_ne (fun e => hi.1 e.symm)]
    exact wipe_keep hi.2 h
theorem Rep.wipe {K : PySem.W.Frag} {g : List Code} {B : Hp} {S : En} {σ : L2.St} {W : Wd} {H : Hp} (r : Rep K g B S σ W H) (vs : List Nat) : Rep K g B (wipeE S vs) (L2.wipe σ vs) W H where
  ok := r.ok
  gb := r.gb
  len := by rw [wipeE_length, wipe_length]; exact r.len
  sl := fun i s e => by
    obtain ⟨e1, hi⟩ := wipeE_some e
    obtain ⟨v, e2, h⟩ := r.sl i s e1
    exact ⟨v, wipe_keep hi e2, h⟩
  dist := fun i j l m p n e1 e2 e3 => by
    obtain ⟨e1', _⟩ := wipeE_some e1
    obtain ⟨e2', hj⟩ := wipeE_some e2
    obtain ⟨e3', _⟩ := wipe_some e3
    intro e4
    obtain ⟨e4', _⟩ := wipe_some e4
    exact r.dist i j l m p n e1' e2' e3' e4'
  distT := fun i j l m p n e1 e2 e3 => by
    obtain ⟨e1', _⟩ := wipeE_some e1
    obtain ⟨e2', hj⟩ := wipeE_some e2
    obtain ⟨e3', _⟩ := wipe_some e3
    intro e4
    obtain ⟨e4', _⟩ := wipe_some e4
    exact r.distT i j l m p n e1' e2' e3' e4'
theorem wipe_set {σ : L2.St} {j : Nat} {x : Option V} : ∀ {vs : List Nat}, j ∈ vs → L2.wipe (σ.set j x) vs = L2.wipe σ vs
  | v :: vs, h => by
    unfold L2.wipe
    by_cases hv : j ∈ vs
    · rw [wipe_set hv]
    · have e : v = j := by
        rcases List.mem_cons.mp h with z | z
        · exact z.symm
        · exact absurd z hv
      subst e
      have key : ∀ ws : List Nat, v ∉ ws → L2.wipe (σ.set v x) ws = (L2.wipe σ ws).set v x := by
        intro ws
        induction ws with
        | nil => intro _; rfl
        | cons a ws ih =>
          intro hn
          simp only [List.mem_cons, not_or] at hn
          unfold L2.wipe
          rw [ih hn.2, List.set_comm _ _ (fun e => hn.1 e)]
      rw [key vs hv, List.set_set]
theorem wipe_wipe {σ : L2.St} {vs : List Nat} : L2.wipe (L2.wipe σ vs) vs = L2.wipe σ vs := by
  have key : ∀ ws : List Nat, (∀ w ∈ ws, w ∈ vs) → L2.wipe (L2.wipe σ ws) vs = L2.wipe σ vs := by
    intro ws
    induction ws with
    | nil => intro _; rfl
    | cons a ws ih =>
      intro h
      show L2.wipe ((L2.wipe σ ws).set a none) vs = _
      rw [wipe_set (h a List.mem_cons_self)]
      exact ih fun w hw => h w (List.mem_cons_of_mem _ hw)
  exact key vs fun _ h => h
/-- how the item d comes to the names in the slots vs: what the block then knows -/
def Pat (K : PySem.W.Frag) (g : TG) (vs : List Nat) (S : En) (d : D) (S' : En) : Prop := ∀ gs B σ W H v, Rep K gs B S σ W H → Dn K W.I d v → ∀ Q : L2.St → Hp → Prop, (∀ σ2, L2.wipe σ2 vs = L2.wipe σ vs → Rep K gs B S' σ2 W H → Q σ2 H) → g v (L2.wipe σ vs) H Q
theorem pat_name {K : PySem.W.Frag} {S : En} {d : D} {vs : List Nat} (j : Nat) (hj : j ∈ vs) : Pat K (gName j) vs S d ((wipeE S vs).set j (some (.val d))) := fun _ B σ W H v r n Q k =>
  k _ (by rw [wipe_set hj, wipe_wipe]) ((r.wipe vs).set n)
theorem pat_two {K : PySem.W.Frag} {S : En} {d d' : D} {vs : List Nat} (i j : Nat) (hi : i ∈ vs) (hj : j ∈ vs) : Pat K (gTup K 2 (gCons (gName i) (gCons (gName j) gNil))) vs S (.tup [d, d']) (((wipeE S vs).set i (some (.val d))).set j (some (.val d'))) := fun _ B σ W H v r n Q k => by
  cases n with
  | tup hp m =>
    cases m with
    | cons n1 m => cases m with
      | cons n2 m =>
        cases m
        exact ⟨_, _, rfl, SqT.of (r.ok.ex _ _ hp), rfl, _, _, rfl, _, _, rfl, rfl, k _ (by rw [wipe_set hj, wipe_set hi, wipe_wipe]) (((r.wipe vs).set n1).set n2)⟩
section
variable {X : Cx} {B : Hp} {W0 : Wd} {S : En} {e a b : Expr} {es : List Expr} {pos : Pos} {E : Ends'}
theorem ed_fd {Q : D → Prop} (h : FD X B S e fun l => Q (.lst l)) : ED X B S e Q := fun σ W H r R k => by
  refine h σ W H r R fun l p xs W' H' st ok hp n i hl d q => ?_
  exact k (.lst l) (.ref p) _ H' (st.frz hp i) (ok.frz hl n fun z => (r.ok.gd _ z).2.1 hp) (.lst (show upd W'.I p _ p = _ from upd_same) (d.mono (Ex.new i))) q
theorem fd_lst {Q : List D → Prop} (h : AD X B S es fun as => ∃ ds, as = ds.map Sl.val ∧ ds.length ≤ 100000 ∧ Q ds) : FD X B S (.List es pos) Q := fun σ W H r R k => by
  refine PE.w (pe_lst wa_pa) ?_
  refine h σ W H r _ fun as vs W1 H1 s1 ok1 n1 q1 => ?_
  obtain ⟨ds, rfl, hl, q1⟩ := q1
  have n := n1.vals
  refine ⟨Nat.le_trans (n.length ▸ hl) (by decide), fun p hp => ?_⟩
  exact k ds p vs W1 _ (s1.trans ok1 (Stp.own hp)) (ok1.own hp) (s1.free ok1 hp) (ok1.notP hp) (ok1.free hp) upd_same n q1
/-- x = a new list, which x owns -/
theorem Rep.setOwn {K : PySem.W.Frag} {g : List Code} {σ : L2.St} {W : Wd} {H : Hp} {i : Nat} {l : List D} {p : Addr} {xs : List V} (r : Rep K g B S σ W H) (hB : B p = none) (n : ¬ W.P p) (hi : W.I p = none) (hp : H p = some (.lst xs)) (d : Dns K W.I l xs)
    (new : ∀ (j : Nat) (m : List D), S[j]? = some (some (.own m)) → σ[j]? ≠ some (some (.ref p))) : Rep K g B (S.set i (some (.own l))) (σ.set i (some (.ref p))) W H where
  ok := r.ok
  gb := r.gb
  len := by simpa using r.len
  sl := fun j s e => by
    by_cases q : i = j
    · subst q
      by_cases z : i < S.length
      · rw [List.getElem?_set_self z] at e
        cases e
        exact ⟨_, List.getElem?_set_self (r.len ▸ z), p, xs, rfl, hB, n, hi, hp, d⟩
      · rw [List.getElem?_eq_none (by simpa using z)] at e
        cases e
    · rw [List.getElem?_set_ne q] at e ⊢
      exact r.sl j s e
  dist := fun a b la lb q ne e1 e2 e3 => by
    by_cases qa : i = a
    · subst qa
      have lt : i < σ.length := by
        rcases Nat.lt_or_ge i σ.length with z | z
        · exact z
        · rw [List.getElem?_eq_none (by simpa using z)] at e3; cases e3
      rw [List.getElem?_set_self lt] at e3
      cases e3
      rw [List.getElem?_set_ne ne] at e2 ⊢
      exact new b lb e2
    · rw [List.getElem?_set_ne qa] at e1 e3
      by_cases qb : i = b
      · subst qb
        intro e4
        have lt : i < σ.length := by
          rcases Nat.lt_or_ge i σ.length with z | z
          · exact z
          · rw [List.getElem?_eq_none (by simpa using z)] at e4; cases e4
        rw [List.getElem?_set_self lt] at e4
        cases e4
        exact new a la e1 e3
      · rw [List.getElem?_set_ne qb] at e2 ⊢
        exact r.dist a b la lb q ne e1 e2 e3
  distT := r.distT.set i fun l z => by cases z
theorem sd_own {x : Str} {pos' : Pos} (i : Nat) (hN : X.N.Nodup) (hi : X.N[i]? = some x) (h : FD X B S e fun l => E.nx (S.set i (some (.own l)))) (hx : Loc X.env.scope x := by first | exact Or.inl rfl | exact Or.inr rfl)
    (hs : swapsWith e (some (.Name x pos')) pos.line X.env = pure false := by rfl) (hf : X.fn x = true ∨ X.env.scope.names.lookup x = some .local := by first | exact .inl rfl | exact .inr rfl) : SD X B W0 S (.Assign [.Name x pos'] e pos) E := fun σ W H r z D' k =>
  PS.w (ps_set hN hi hx we_pe hs hf) (h σ W H r _ fun l p xs W1 H1 s1 ok1 hp n i1 hl d q1 => k.nx _ _ W1 H1 ((r.step s1 ok1).setOwn (z.free r.ok hp) n i1 hl d fun j m e1 e2 => by
    obtain ⟨v, e3, p2, ys, e4, _, _, _, h4, _⟩ := r.sl j _ e1
    rw [e2] at e3
    cases e3
    cases e4
    rw [hp] at h4
    cases h4) (z.trans r.ok s1) s1.I q1)
/-- x.append(e), x the owner of its list -/
theorem sd_append {x : Str} {px apos cpos : Pos} (i : Nat) (l : List D) (hN : X.N[i]? = some x) (h : S[i]? = some (some (.own l))) (hl : l.length < 100000) (he : ED X B S e fun d => E.nx (S.set i (some (.own (l ++ [d])))))
    (hv : Vis X.env.scope x := by first | exact Or.inl rfl | exact Or.inr (Or.inl rfl) | exact Or.inr (Or.inr rfl)) (hd : (x == ("__debug__" : Str)) = false := by decide) (hcd : (x == ("__classdict__" : Str)) = false := by decide)
    (hps : PE X (.Call (.Attribute (.Name x px) "append" apos) [e] [] cpos) (tBM X.K "list" rAppend (tVar i) (tCons (WE X e) tNil)) := by
      exact pe_bm PySem.F.plainAttrs_list PySem.F.slot_list_append PySem.F.type_list_append mt_append (pe_var (by rfl) (by first | exact Or.inl rfl | exact Or.inr (Or.inl rfl) | exact Or.inr (Or.inr rfl))) (pa_cons DL.we_pe pa_nil))
    (hs : swapsWith (.Call (.Attribute (.Name x px) "append" apos) [e] [] cpos) none pos.line X.env = pure false := by rfl) : SD X B W0 S (.Expr (.Call (.Attribute (.Name x px) "append" apos) [e] [] cpos) pos) E := fun σ W H r z D' k => by
  refine PS.w (ps_expr hps hs) ?_
  obtain ⟨v, e1, p, xs, ev, hB, n, hI, hH, d0⟩ := r.sl i _ h
  subst ev
  refine ⟨_, e1, .inl ⟨rfl, _, SqL.of hH⟩, ?_⟩
  refine he σ W H r _ fun d v W1 H1 s1 ok1 n1 q1 => ?_
  have hH1 : H1 p = some (.lst xs) := s1.keep _ _ hH n
  have nP : ¬ W1.P p := fun q => n (s1.oldP p _ hH q)
  have hI1 : W1.I p = none := s1.old p _ hH (fun _ z => by cases z) hI
  refine ⟨p, xs, v, rfl, rfl, hH1, Nat.lt_of_lt_of_le (d0.length ▸ hl) (by decide), ?_⟩
  have ok2 : Ok (gOf X) W1 (upd H1 p (.lst (xs ++ [v]))) := {
    gd := fun b hb => by
      obtain ⟨n1, n2⟩ := ok1.gd b hb
      refine ⟨n1, ?_⟩
      by_cases q : b = p
      · subst q
        rw [upd_same]
        exact ⟨(fun z => by cases z), (fun _ z => by cases z)⟩
      · rw [upd_ne q]
        exact n2
    ex := fun b o hb => by
      rw [upd_ne (fun y => by rw [y, hI1] at hb; cases hb)]
      exact ok1.ex b o hb
    pot := fun b hb => by
      obtain ⟨nb, y2, w2, h2⟩ := ok1.pot b hb
      have ne : b ≠ p := fun y => nP (y ▸ hb)
      exact ⟨nb, y2, w2, by rw [upd_ne ne]; exact h2⟩ }
  have z1 := z.trans r.ok s1
  have z2 : Stp W0 B W1 (upd H1 p (.lst (xs ++ [v]))) := ⟨z1.I, z1.P, fun b o hb hn => by rw [upd_ne (ne_of_none hb hB)]; exact z1.keep b o hb hn, z1.old, z1.oldP⟩
  have r1 := r.step s1 ok1
  have lt : i < S.length := (List.getElem?_eq_some_iff.mp h).1
  refine k.nx _ σ W1 _ ?_ z2 s1.I q1
  refine ⟨ok2, r.gb, by simpa using r.len, fun j s ej => ?_, fun a b la lb q ne e2 e3 e4 => ?_, r.distT.setS i fun l z => by cases z⟩
  · by_cases q : i = j
    · subst q
      rw [List.getElem?_set_self lt] at ej
      cases ej
      exact ⟨_, e1, p, _, rfl, hB, nP, hI1, upd_same, (d0.mono s1.I).append (.cons n1 .nil)⟩
    · rw [List.getElem?_set_ne q] at ej
      obtain ⟨v2, e2, h2⟩ := r1.sl j s ej
      refine ⟨v2, e2, ?_⟩
      cases s with
      | val d2 => exact h2
      | pot => exact h2
      | own m =>
        obtain ⟨p2, ys, rfl, b1, b2, b3, b4, b5⟩ := h2
        refine ⟨p2, ys, rfl, b1, b2, b3, ?_, b5⟩
        rw [upd_ne (fun y => by
          rw [y] at e2
          exact r.dist i j l m p q h ej e1 e2)]
        exact b4
      | ownT m =>
        obtain ⟨p2, ys, rfl, b1, b2, b3, b4, b5⟩ := h2
        refine ⟨p2, ys, rfl, b1, b2, b3, ?_, b5⟩
        rw [upd_ne (fun y => by rw [y, hH1] at b4; cases b4)]
        exact b4
      | inst C p2 dx fs =>
        obtain ⟨vs, rfl, b1, b2, b3, b4, b5, b6, b7, b8, b9, b10⟩ := h2
        refine ⟨vs, rfl, b1, b2, b3, b4, b5, b6, b7, ?_, ?_, b10⟩
        · rw [upd_ne (fun y => by rw [y, hH1] at b8; cases b8)]
          exact b8
        · rw [upd_ne (fun y => by rw [y, hH1] at b9; cases b9)]
          exact b9
  · have g : ∀ {c : Nat} {m : List D}, (S.set i (some (.own (l ++ [d]))))[c]? = some (some (.own m)) → ∃ m', S[c]? = some (some (.own m')) := fun {c m} ec => by
      by_cases q2 : i = c
      · subst q2
        exact ⟨l, h⟩
      · rw [List.getElem?_set_ne q2] at ec
        exact ⟨m, ec⟩
    obtain ⟨m1, g1⟩ := g e2
    obtain ⟨m2, g2⟩ := g e3
    exact r.dist a b m1 m2 q ne g1 g2 e4
/-- what a name owns is given away: from here on it never changes -/
theorem sds_frz {sts : List Stmt} (i : Nat) (l : List D) (h : S[i]? = some (some (.own l))) (k : SDs X B W0 (S.set i (some (.val (.lst l)))) sts E) : SDs X B W0 S sts E := fun σ W H r z D' q => by
  obtain ⟨v, e1, p, xs, ev, hB, n, hI, hH, d0⟩ := r.sl i _ h
  subst ev
  have st : Stp W0 B (W.new p (.lst xs)) H := z.frz hB hI
  have ok := r.ok.frz hH n fun z => r.gb _ z hB
  have lt : i < S.length := (List.getElem?_eq_some_iff.mp h).1
  refine k σ (W.new p (.lst xs)) H ?_ st D' (q.mono (Ex.new hI))
  refine ⟨ok, r.gb, by simpa using r.len, fun j s ej => ?_, fun a b la lb c ne e2 e3 e4 => ?_, r.distT.setS i fun l z => by cases z⟩
  · by_cases y : i = j
    · subst y
      rw [List.getElem?_set_self lt] at ej
      cases ej
      exact ⟨_, e1, .lst (show upd W.I p _ p = _ from upd_same) (d0.mono (Ex.new hI))⟩
    · rw [List.getElem?_set_ne y] at ej
      obtain ⟨v2, e2, h2⟩ := r.sl j s ej
      refine ⟨v2, e2, ?_⟩
      cases s with
      | val d2 => exact Dn.mono (Ex.new hI) h2
      | pot => exact h2
      | own m =>
        obtain ⟨p2, ys, rfl, b1, b2, b3, b4, b5⟩ := h2
        refine ⟨p2, ys, rfl, b1, b2, ?_, b4, b5.mono (Ex.new hI)⟩
        show upd W.I p _ p2 = none
        rw [upd_ne (fun y2 => by
          rw [y2] at e2
          exact r.dist i j l m p y h ej e1 e2)]
        exact b3
      | ownT m =>
        obtain ⟨p2, ys, rfl, b1, b2, b3, b4, b5⟩ := h2
        refine ⟨p2, ys, rfl, b1, b2, ?_, b4, b5.mono (Ex.new hI)⟩
        show upd W.I p _ p2 = none
        rw [upd_ne (fun y2 => by rw [y2, hH] at b4; cases b4)]
        exact b3
      | inst C p2 dx fs =>
        obtain ⟨vs, rfl, b1, b2, b3, b4, b5, b6, b7, b8, b9, b10⟩ := h2
        refine ⟨vs, rfl, b1, b2, b3, b4, b5, ?_, ?_, b8, b9, b10.mono (Ex.new hI)⟩
        · show upd W.I p _ p2 = none
          rw [upd_ne (fun y => by rw [y, hH] at b8; cases b8)]
          exact b6
        · show upd W.I p _ dx = none
          rw [upd_ne (fun y => by rw [y, hH] at b9; cases b9)]
          exact b7
  · have g : ∀ {c : Nat} {m : List D}, (S.set i (some (.val (.lst l))))[c]? = some (some (.own m)) → S[c]? = some (some (.own m)) := fun {c m} ec => by
      by_cases q2 : i = c
      · subst q2
        rw [List.getElem?_set_self lt] at ec
        cases ec
      · rw [List.getElem?_set_ne q2] at ec
        exact ec
    exact r.dist a b la lb c ne (g e2) (g e3) e4

/-! ### comprehensions -/
/-- the weakest reading over all blocks -/
def WEb (X : Cx) (scope : Scope) (e : Expr) : TE := fun σ H Q => ∀ (s : Shared) (H0 : Hp) (C : Addr) (cl : List (Str × Addr)) (fp : List Addr), WE (X.blk s H0 scope (compEnvC scope cl C X.env) fp) e σ H Q
def WTb (X : Cx) (scope : Scope) (e : Expr) : TT := fun σ H Q => ∀ (s : Shared) (H0 : Hp) (C : Addr) (cl : List (Str × Addr)) (fp : List Addr), WT (X.blk s H0 scope (compEnvC scope cl C X.env) fp) e σ H Q
theorem web_pe {scope : Scope} (s : Shared) (H0 : Hp) (C : Addr) (cl : List (Str × Addr)) (fp : List Addr) : PE (X.blk s H0 scope (compEnvC scope cl C X.env) fp) e (WEb X scope e) := ⟨fun pins s2 _ _ _ I h => h s H0 C cl fp pins s2 I⟩
/-- at an address of one's own: the list so far -/
structure Mid (K : PySem.W.Frag) (g : List Code) (W1 : Wd) (H1 : Hp) (p : Addr) (l : List D) (W : Wd) (H : Hp) : Prop where
  st : Stp W1 H1 W H
  ok : Ok g W H
  n : ¬ W.P p
  i : W.I p = none
  h : ∃ xs, H p = some (.lst xs) ∧ Dns K W.I l xs
theorem Mid.step {K : PySem.W.Frag} {g : List Code} {W1 W W2 : Wd} {H1 H H2 : Hp} {p : Addr} {l : List D} (m : Mid K g W1 H1 p l W H) (a : Stp W H W2 H2) (ok : Ok g W2 H2) : Mid K g W1 H1 p l W2 H2 := by
  obtain ⟨xs, hp, d⟩ := m.h
  exact ⟨m.st.trans m.ok a, ok, fun z => m.n (a.oldP p _ hp z), a.old p _ hp (fun _ z => by cases z) m.i, xs, a.keep p _ hp m.n, d.mono a.I⟩
theorem Mid.more {K : PySem.W.Frag} {g : List Code} {W1 W : Wd} {H1 H : Hp} {p : Addr} {l : List D} {d : D} {v : V} (hp0 : H1 p = none) (m : Mid K g W1 H1 p l W H) (hd : Dn K W.I d v) (hl : l.length < 100000) :
    ∃ acc, H p = some (.lst acc) ∧ acc.length < sizeLine ∧ Mid K g W1 H1 p (l ++ [d]) W (upd H p (.lst (acc ++ [v]))) := by
  obtain ⟨xs, hp, ds⟩ := m.h
  refine ⟨xs, hp, Nat.lt_of_lt_of_le (ds.length ▸ hl) (by decide), ?_, ?_, m.n, m.i, _, upd_same, ds.append (.cons hd .nil)⟩
  · exact ⟨m.st.I, m.st.P, fun b o hb hn => by rw [upd_ne (ne_of_none hb hp0)]; exact m.st.keep b o hb hn, m.st.old, m.st.oldP⟩
  · exact {
      gd := fun b hb => by
        obtain ⟨n1, n2⟩ := m.ok.gd b hb
        refine ⟨n1, ?_⟩
        by_cases q : b = p
        · subst q
          rw [upd_same]
          exact ⟨(fun z => by cases z), (fun _ z => by cases z)⟩
        · rw [upd_ne q]
          exact n2
      ex := fun b o hb => by
        rw [upd_ne (fun y => by rw [y, m.i] at hb; cases hb)]
        exact m.ok.ex b o hb
      pot := fun b hb => by
        obtain ⟨nb, y2, w2, h2⟩ := m.ok.pot b hb
        have ne : b ≠ p := fun y => m.n (y ▸ hb)
        exact ⟨nb, y2, w2, by rw [upd_ne ne]; exact h2⟩ }
/-- [elt for g in a list], without a test -/
theorem fd_lcL {elt tg iter : Expr} {scope : Scope} {own : List (Str × Nat)} {g : TG} {l : List D} {Q : List D → Prop} (J : Nat → List D → Prop) (S' : D → En) (hc : X.calm = true) (hN : X.N.Nodup) (ok : BlkOk X.N X.env.scope scope own)
    (hg : ∀ (s : Shared) (H : Hp) (C : Addr) (cl : List (Str × Addr)) (fp : List Addr), PG (X.blk s H scope (compEnvC scope cl C X.env) fp) tg g)
    (h : ED X B S iter fun d => d = .lst l ∧ l.length ≤ 50000 ∧ J 0 []) (hp : ∀ d ∈ l, Pat X.K g (own.map (·.2)) S d (S' d))
    (he : ∀ (i : Nat) d acc, l[i]? = some d → acc.length = i → J i acc → ∀ (s : Shared) (H0 : Hp) (C : Addr) (cl : List (Str × Addr)) (fp : List Addr), ED (X.blk s H0 scope (compEnvC scope cl C X.env) fp) B (S' d) elt fun y => J (i + 1) (acc ++ [y]))
    (hd : ∀ acc, acc.length = l.length → J l.length acc → Q acc) (hs : ∀ x, foldedSetIterable iter X.env x = pure x := by intro _; rfl) : FD X B S (.ListComp elt [⟨tg, iter, [], 0⟩] scope pos) Q := fun σ W H r R k => by
  refine PE.w (pe_lc (te := WEb X scope elt) hc hN (pi_list we_pe) ok hg (fun _ _ _ _ _ => pts_nil) web_pe hs) ?_
  refine h σ W H r _ fun d v W1 H1 s1 ok1 n1 q1 => ?_
  obtain ⟨rfl, hz, j0⟩ := q1
  cases n1 with
  | @lst _ a xs ha m =>
    refine ⟨a, rfl, ⟨xs, SqL.of (ok1.ex _ _ ha)⟩, fun p hp0 => ?_⟩
    have r1 := r.step s1 ok1
    refine lc_list (K := X.K) (a := a) (xs := xs) (fun i H' => ∃ acc W', Mid X.K (gOf X) W1 H1 p acc W' H' ∧ acc.length = i ∧ J i acc) ⟨[], W1, ⟨Stp.own hp0, ok1.own hp0, ok1.notP hp0, ok1.free hp0, [], upd_same, .nil⟩, rfl, j0⟩
      (fun i H' _ ⟨acc, W', mm, _⟩ => SqL.of (mm.ok.ex _ _ (mm.st.I _ _ ha))) ?_ ?_
    · rintro i x H' hx ⟨acc, W', mm, hl, j⟩
      obtain ⟨d, hd', nd⟩ := m.get hx
      have r2 := r1.step mm.st mm.ok
      refine hp d (List.mem_of_getElem? hd') (gOf X) B σ W' H' x r2 (nd.mono mm.st.I) _ fun σ2 e2 r3 => ⟨e2, ?_⟩
      show WEb X scope elt σ2 H' _
      intro s H0 C cl fp
      refine he i d acc hd' hl j s H0 C cl fp σ2 W' H' r3 _ fun y v W2 H2 s2 ok2 n2 q2 => ?_
      have lt : i < l.length := (List.getElem?_eq_some_iff.mp hd').1
      obtain ⟨xs', e1, e3, m3⟩ := (mm.step s2 ok2).more hp0 n2 (by omega)
      exact ⟨xs', e1, e3, _, W2, m3, by simp [hl], q2⟩
    · rintro H' ⟨acc, W', mm, hl, j⟩
      obtain ⟨ys, hH, ds⟩ := mm.h
      rw [← m.length] at hl j
      exact k acc p ys W' H' (s1.trans ok1 mm.st) mm.ok (s1.free ok1 hp0) mm.n mm.i hH ds (hd acc hl j)
/-- .. over a range -/
theorem fd_lcR {elt tg : Expr} {p1 pos1 : Pos} {scope : Scope} {own : List (Str × Nat)} {n : Int} {Q : List D → Prop} (J : Nat → List D → Prop) (S' : D → En) {g : TG} (hc : X.calm = true) (hN : X.N.Nodup) (hm : X.mg "range" = none) (ok : BlkOk X.N X.env.scope scope own)
    (hg : ∀ (s : Shared) (H : Hp) (C : Addr) (cl : List (Str × Addr)) (fp : List Addr), PG (X.blk s H scope (compEnvC scope cl C X.env) fp) tg g)
    (h : AD X B S [e] fun as => as = [.val (.int n)] ∧ -(2 ^ 62) ≤ n ∧ n ≤ 50000 ∧ J 0 []) (hp : ∀ d, Pat X.K g (own.map (·.2)) S d (S' d))
    (he : ∀ (i : Nat) acc, (i : Int) < n → acc.length = i → J i acc → ∀ (s : Shared) (H0 : Hp) (C : Addr) (cl : List (Str × Addr)) (fp : List Addr), ED (X.blk s H0 scope (compEnvC scope cl C X.env) fp) B (S' (.int i)) elt fun y => J (i + 1) (acc ++ [y]))
    (hd : ∀ acc, acc.length = n.toNat → J n.toNat acc → Q acc) (hgl : Gl X "range" := by rfl) (hst : starEach [e] X.env = [(false, eval e X.env)] := by rfl)
    (hs : ∀ x, foldedSetIterable (.Call (.Name "range" p1) [e] [] pos1) X.env x = pure x := by intro _; rfl) : FD X B S (.ListComp elt [⟨tg, .Call (.Name "range" p1) [e] [] pos1, [], 0⟩] scope pos) Q := fun σ W H r R k => by
  refine PE.w (pe_lc (te := WEb X scope elt) hc hN (pi_range1 hgl hm wa_pa hst) ok hg (fun _ _ _ _ _ => pts_nil) web_pe hs) ?_
  refine h σ W H r _ fun as vs W1 H1 s1 ok1 n1 q1 => ?_
  obtain ⟨rfl, hz, hz2, j0⟩ := q1
  obtain ⟨v, rfl, m⟩ := one_arg n1
  cases m
  refine ⟨n, rfl, hz, by omega, fun p hp0 => ?_⟩
  have r1 := r.step s1 ok1
  refine lc_range (lo := 0) (n := n.toNat) (fun i H' => ∃ acc W', Mid X.K (gOf X) W1 H1 p acc W' H' ∧ acc.length = i ∧ J i acc) ⟨[], W1, ⟨Stp.own hp0, ok1.own hp0, ok1.notP hp0, ok1.free hp0, [], upd_same, .nil⟩, rfl, j0⟩ ?_ ?_
  · rintro i H' hi ⟨acc, W', mm, hl, j⟩
    rw [Int.zero_add]
    have r2 := r1.step mm.st mm.ok
    refine hp (.int i) (gOf X) B σ W' H' _ r2 (.int _) _ fun σ2 e2 r3 => ⟨e2, ?_⟩
    show WEb X scope elt σ2 H' _
    intro s H0 C cl fp
    refine he i acc (by omega) hl j s H0 C cl fp σ2 W' H' r3 _ fun y v W2 H2 s2 ok2 n2 q2 => ?_
    obtain ⟨xs', e1, e3, m3⟩ := (mm.step s2 ok2).more hp0 n2 (by omega)
    exact ⟨xs', e1, e3, _, W2, m3, by simp [hl], q2⟩
  · rintro H' ⟨acc, W', mm, hl, j⟩
    obtain ⟨ys, hH, ds⟩ := mm.h
    exact k acc p ys W' H' (s1.trans ok1 mm.st) mm.ok (s1.free ok1 hp0) mm.n mm.i hH ds (hd acc hl j)
end
end DL

set_option Elab.async false
set_option linter.all false
set_option maxRecDepth 100000
set_option maxHeartbeats 4000000
/-! operators of own classes, also with ints on either side -/
namespace OwnOps
open PySem PySem.W PySem.Calls
section
variable {prog : Program} {w : World} {A : Around} {E : Value → Shared → Prop} {s : Shared} {K : Frag} {x C f g : Addr} {ox : Obj} {od : Option Obj} {op : Operator} {i : Int} {t : Tok}
/-- a class stands first in its own order -/
theorem first_of (hc : selfFirst K C = true) : ∃ cd rest, clsIn K C = some cd ∧ cd.mro = .ref C :: rest := by
  unfold selfFirst at hc
  cases q : clsIn K C with
  | none =>
    rw [q] at hc
    exact absurd hc (by simp)
  | some cd =>
    rw [q] at hc
    match e : cd.mro, hc with
    | [], hc => simp [e] at hc
    | a :: r, hc =>
      have z : a = Value.ref C := by simpa [e] using hc
      exact ⟨cd, r, rfl, by rw [z] at e; exact e⟩
theorem slotPy {M : Model} {h : Heap} {nm : String} (X : K.In h) (h1 : findIn K (.ref C) (PySem.dunder nm) = some (some (.ref f))) (h2 : findIn K (.ref C) (dunderR nm) = some (some (.ref g))) : Looks M h (numberSlotInPython (.ref C) nm) true := by
  intro A Q E s k q
  unfold numberSlotInPython
  refine wpAny_bind (looks_findIn X h1 A _ E s k ?_)
  refine wpAny_bind ?_
  show wpAny M A (pure true) _ _ _
  refine wpAny_pure (wpAny_bind (looks_findIn X h2 A _ E s k (wpAny_bind ?_)))
  show wpAny M A (pure true) _ _ _
  refine wpAny_pure ?_
  rw [if_pos (by rfl)]
  exact wpAny_pure q
/-- own + int -/
theorem own_int {Q : Value → Shared → Prop} (X : K.In s.heap) (I : InstAt s.heap x ox C od) (hc : selfFirst K C = true) (hs : findIn K (.ref C) (PySem.dunder op.info.2) = some (some (.ref f))) (hr : findIn K (.ref C) (dunderR op.info.2) = some (some (.ref g)))
    (hf : isFn K (.ref f) = true) (hsub : subIn K (.type "int") (.ref C) = some false) (hint : fillsNumberSlot (.type "int") op.info.2 = pure true) (hl : ∃ r, findIn K (.type "int") (dunderR op.info.2) = some r)
    (h : wpAny (model prog w) A (call (.ref f) [.ref x, .int i t]) (CmpBack Q) E s) : wpAny (model prog w) A (binaryOp op (.ref x) (.int i t)) Q E s := by
  obtain ⟨cd, rest, hcd, hm⟩ := first_of hc
  obtain ⟨r, hl⟩ := hl
  rcases hi : op.info with ⟨sym, nm⟩
  rw [hi] at hs hr hint hl
  have hpy : numberSlotInPython (.type "int") nm = pure false := rfl
  simp only [binaryOp, hi]
  refine wpAny_holding (wpAny_bind ?_)
  unfold binaryOp1
  refine wpAny_bind (I.type.here (wpAny_bind (wpAny_typeOf (typeIs_int _ _ _) (wpAny_bind ((fills_K X hcd hm hs).here ?_)))))
  have hne : (Value.ref C == Value.type "int") = false := rfl
  simp only [hne, Bool.false_eq_true, if_false]
  refine wpAny_bind (wpAny_of_eq hint ?_)
  simp only [Bool.and_self, if_true]
  refine wpAny_bind ((looks_subIn X hsub).here ?_)
  simp only [Bool.false_eq_true, if_false, Bool.not_false, Bool.and_self, if_true, pure_bind]
  refine wpAny_bind ((slotPy X hs hr).here ?_)
  simp only [if_true, hpy, pure_bind, Bool.not_false]
  refine wpAny_bind ((looks_findIn X hl).here ?_)
  refine wpAny_bind (m := tryMethod (.ref x) _ _) ?_
  unfold tryMethod
  refine wpAny_bind (special_fn X I hs (beq_iff_eq.mp hf) (wpAny_mono h (fun v s' hv => ?_) fun _ _ e => e))
  cases v <;> first | exact hv.elim | exact wpAny_pure (wpAny_pure (wpAny_pure hv))
end
end OwnOps
namespace OwnOps
open PySem PySem.W PySem.Calls
section
variable {prog : Program} {w : World} {A : Around} {E : Value → Shared → Prop} {s : Shared} {K : Frag} {x C f g L : Addr} {ox : Obj} {od : Option Obj} {i : Int} {t : Tok} {h₀ : Heap} {m : Str → Option Value} {b tb : Value}
end
end OwnOps

set_option Elab.async false
set_option linter.all false
set_option maxRecDepth 100000
set_option maxHeartbeats 2000000
namespace DL
open PySem L2

/-! ### objects -/
/-- a method of the class at C -/
structure Mt (P : Program) (w : World) (K : PySem.W.Frag) (mg : Str → Option Value) (base : Heap) (C : Addr) (m : Str) (k : Nat) (sp : SpD) : Prop where
  ex : ∃ f fd ps, GnOk P w K mg base k f fd ps (lift K sp) ∧ Meth K C m f ∧ Binds K fd ps []
/-- a property of the class at C -/
structure Pr (P : Program) (w : World) (K : PySem.W.Frag) (mg : Str → Option Value) (base : Heap) (C : Addr) (m : Str) (k : Nat) (sp : SpD) : Prop where
  ex : ∃ p f fd ps, GnOk P w K mg base k f fd ps (lift K sp) ∧ PropOf K C m p f ∧ Binds K fd ps []
section
variable {X : Cx} {B : Hp} {S : En} {pos p apos : Pos} {Q : D → Prop} {e o : Expr} {es : List Expr} {x m f : Str} {k n : Nat} {sp : SpD} {C : Addr}
theorem ed_fld (c : Cls X.K C) (na : NoAttr X.K C f) (h : ED X B S o fun x => ∃ fs d, x = .obj C fs ∧ fs.lookup f = some d ∧ Q d) (hb : attributeBase o f X.env (eval o X.env) = eval o X.env := by rfl) : ED X B S (.Attribute o f pos) Q := fun σ W H r R k => by
  refine PE.w (pe_fld we_pe hb) ?_
  refine h σ W H r _ fun d v W1 H1 s1 ok1 n1 q1 => ?_
  obtain ⟨fs, d', rfl, l, q1⟩ := q1
  cases n1 with
  | obj ha m =>
    obtain ⟨v', e1, n2⟩ := m.look l
    exact ⟨_, C, _, _, v', rfl, ok1.ex _ _ ha, c, na, e1, (k.step s1 ok1).now ok1 n2 q1⟩
theorem ed_prop (c : Cls X.K C) (F : Pr X.prog X.w X.K X.mg X.base C f k sp) (hr : Room (k + 1) X.A) (hG : X.A.guards = some (gOf X)) (h : ED X B S o fun x => ∃ fs, x = .obj C fs ∧ sp [.val x] Q) (hb : attributeBase o f X.env (eval o X.env) = eval o X.env := by rfl) : ED X B S (.Attribute o f pos) Q := fun σ W H r R c' => by
  obtain ⟨pp, g, fd, ps, F, hp, bb⟩ := F.ex
  refine we_prop c hp F hr hG bb .nil ?_ hb
  refine h σ W H r _ fun d v W1 H1 s1 ok1 n1 q1 => ?_
  obtain ⟨fs, rfl, q1⟩ := q1
  cases id n1 with
  | obj ha m => exact ⟨_, _, _, rfl, ok1.ex _ _ ha, [.val (.obj C fs)], W1, Q, ok1, .cons n1 .nil, q1, c'.step s1 ok1⟩
theorem ed_meth {pl : Sem Bool} (c : Cls X.K C) (F : Mt X.prog X.w X.K X.mg X.base C m k sp) (hr : Room k X.A) (hG : X.A.guards = some (gOf X)) (h : ED X B S o fun x => ∃ fs, x = .obj C fs ∧ fs.lookup m = none ∧ AD X B S (e :: es) fun as => sp (.val x :: as) Q)
    (hst : starEach (e :: es) X.env = (false, eval e X.env) :: starEach es X.env := by rfl) (hpl : (backTo pos (starEach es X.env)).any (·.1) = false := by rfl)
    (ht : eval (.Call (.Attribute o m apos) (e :: es) [] pos) X.env = (do
      let ov ← eval o X.env
      standAt apos.atName
      let (f, first) ← holding [ov] (getMethod ov m pl)
      callWith pos f first (backTo pos (starEach (e :: es) X.env)) (backToKw pos (keywordEach [] X.env))) := by rfl) : ED X B S (.Call (.Attribute o m apos) (e :: es) [] pos) Q := fun σ W H r R c' => by
  obtain ⟨f, fd, ps, F, M, bb⟩ := F.ex
  refine we_meth c M F hr hG bb .nil ?_ hst hpl ht
  refine h σ W H r _ fun d v W1 H1 s1 ok1 n1 q1 => ?_
  obtain ⟨fs, rfl, l, q1⟩ := q1
  cases id n1 with
  | obj ha mm =>
    refine ⟨_, _, _, rfl, ok1.ex _ _ ha, mm.nolook l, ?_⟩
    refine q1 σ W1 H1 (r.step s1 ok1) _ fun as vs W2 H2 s2 ok2 n2 q2 => ?_
    rw [List.append_nil]
    exact ⟨.val (.obj C fs) :: as, W2, Q, ok2, .cons (show Arg X.K W2 (.val (.obj C fs)) _ from n1.mono s2.I) n2, q2, (c'.step s1 ok1).step s2 ok2⟩
theorem ed_meth0 {pl : Sem Bool} (c : Cls X.K C) (F : Mt X.prog X.w X.K X.mg X.base C m k sp) (hr : Room k X.A) (hG : X.A.guards = some (gOf X)) (h : ED X B S o fun x => ∃ fs, x = .obj C fs ∧ fs.lookup m = none ∧ sp [.val x] Q)
    (ht : eval (.Call (.Attribute o m apos) [] [] pos) X.env = (do
      let ov ← eval o X.env
      standAt apos.atName
      let (f, first) ← holding [ov] (getMethod ov m pl)
      callWith pos f first (backTo pos (starEach [] X.env)) (backToKw pos (keywordEach [] X.env))) := by rfl) : ED X B S (.Call (.Attribute o m apos) [] [] pos) Q := fun σ W H r R c' => by
  obtain ⟨f, fd, ps, F, M, bb⟩ := F.ex
  refine we_meth0 c M F hr hG bb .nil ?_ ht
  refine h σ W H r _ fun d v W1 H1 s1 ok1 n1 q1 => ?_
  obtain ⟨fs, rfl, l, q1⟩ := q1
  cases id n1 with
  | obj ha mm =>
    refine ⟨_, _, _, rfl, ok1.ex _ _ ha, mm.nolook l, ?_⟩
    show lift X.K sp (gOf X) (V.ref _ :: []) H1 R
    exact ⟨[.val (.obj C fs)], W1, Q, ok1, .cons n1 .nil, q1, c'.step s1 ok1⟩
end

/-! ### objects made -/
abbrev SpI := List Sl → (List (Str × D) → Prop) → Prop
def liftI (K : PySem.W.Frag) (C : Addr) (sp : SpI) : SpG := fun g vs H R => ∃ (p dx : Addr) (us : List V) (H1 : Hp) (W : Wd) (as : List Sl) (Q : List (Str × D) → Prop), vs = .ref p :: us ∧ H = upd (upd H1 dx (.own p)) p (.ins C dx []) ∧ H1 p = none ∧ H1 dx = none ∧ dx ≠ p ∧
  Ok g W H1 ∧ Args K W as us ∧ sp as Q ∧ ∀ fs vs2 W' H', Stp W H1 W' H' → Ok g W' H' → ¬ W'.P p → W'.I p = none → H' p = some (.ins C dx vs2) → Dnf K W'.I fs vs2 → Q fs → R .non H'
/-- the class that the module calls x, at C; ds: what its last parameters are without arguments -/
structure Kl (P : Program) (w : World) (K : PySem.W.Frag) (mg : Str → Option Value) (base : Heap) (x : Str) (C : Addr) (k : Nat) (dds : List D) (sp : SpI) : Prop where
  ex : ∃ f fd ps dvs ds, GnOk P w K mg base k f fd ps (liftI K C sp) ∧ Mk K C f ∧ mg x = some (.ref C) ∧ Binds K fd ps ds ∧ Vals dvs ds ∧ ∀ I, Dns K I dds dvs
section
variable {X : Cx} {B : Hp} {S : En} {pos p apos : Pos} {Q : D → Prop} {e o : Expr} {es : List Expr} {x m f : Str} {k n : Nat} {sp : SpI} {C : Addr} {dds : List D}
theorem Args.data {K : PySem.W.Frag} {W : Wd} : ∀ {ds : List D} {vs : List V}, Dns K W.I ds vs → Args K W (ds.map Sl.val) vs
  | _, _, .nil => .nil
  | _, _, .cons h r => .cons h (Args.data r)
theorem Args.append {K : PySem.W.Frag} {W : Wd} : ∀ {as bs : List Sl} {vs us : List V}, Args K W as vs → Args K W bs us → Args K W (as ++ bs) (vs ++ us)
  | _, _, _, _, .nil, s => s
  | _, _, _, _, .cons h r, s => .cons h (Args.append r s)
theorem cont_make {K : PySem.W.Frag} {g : List Code} {W : Wd} {H : Hp} {R : VK} (c : Cont K g W H Q R) {as : List Sl} {vs : List V} (ok : Ok g W H) (n : Args K W as vs) (q : sp as fun fs => Q (.obj C fs)) : ∀ x dx, H x = none → H dx = none → dx ≠ x → liftI K C sp g (.ref x :: vs) (upd (upd H dx (.own x)) x (.ins C dx [])) (fun v H2 => v = .non ∧ R (.ref x) H2) := fun x dx hx hdx ne =>
  ⟨x, dx, vs, H, W, as, _, rfl, rfl, hx, hdx, ne, ok, n, q, fun fs vs2 W' H' st ok' nP i hp d q2 => ⟨rfl, c (.obj C fs) (.ref x) _ H' (st.frz hx i) (ok'.frz hp nP fun z => (ok.gd _ z).2.1 hx) (.obj (show upd W'.I x _ x = _ from upd_same) (d.mono (Ex.new i))) q2⟩⟩
/-- C(e, ..), the rest of its parameters as they are without arguments -/
theorem ed_make (F : Kl X.prog X.w X.K X.mg X.base x C k dds sp) (hr : Room (k + 1) X.A) (hG : X.A.guards = some (gOf X)) (h : AD X B S (e :: es) fun as => sp (as ++ dds.map Sl.val) fun fs => Q (.obj C fs)) (hg : Gl X x := by rfl) (hdb : (x == ("__debug__" : Str)) = false := by decide)
    (he : starEach (e :: es) X.env = (false, eval e X.env) :: starEach es X.env := by rfl) (hpl : (backTo pos (starEach es X.env)).any (·.1) = false := by rfl) : ED X B S (.Call (.Name x p) (e :: es) [] pos) Q := fun σ W H r R c => by
  obtain ⟨f, fd, ps, dvs, ds, F, M, hm, hb, hd, hD⟩ := F.ex
  refine we_make M F hr hG hg hm hb hd ?_ hdb he hpl
  refine h σ W H r _ fun as vs W1 H1 s1 ok1 n1 q1 => ?_
  intro y dy hy hdy ne
  exact cont_make (c.step s1 ok1) ok1 (n1.append (Args.data (hD W1.I))) q1 y dy hy hdy ne
/-- C(e, ..), all parameters given -/
theorem ed_makeA {sp : SpI} (F : Kl X.prog X.w X.K X.mg X.base x C k [] sp) (hr : Room (k + 1) X.A) (hG : X.A.guards = some (gOf X)) (h : AD X B S (e :: es) fun as => sp as fun fs => Q (.obj C fs)) (hg : Gl X x := by rfl) (hdb : (x == ("__debug__" : Str)) = false := by decide)
    (he : starEach (e :: es) X.env = (false, eval e X.env) :: starEach es X.env := by rfl) (hpl : (backTo pos (starEach es X.env)).any (·.1) = false := by rfl) : ED X B S (.Call (.Name x p) (e :: es) [] pos) Q :=
  ed_make F hr hG (by simpa using h) hg hdb he hpl
end
/-! __init__ -/
def putD (f : Str) (d : D) : List (Str × D) → List (Str × D)
  | [] => [(f, d)]
  | (g, e) :: r => if g = f then (g, d) :: r else (g, e) :: putD f d r
theorem Dnf.put {K : PySem.W.Frag} {I : Hp} {f : Str} {d : D} {v : V} (h : Dn K I d v) : ∀ {fs : List (Str × D)} {vs : List (Str × V)}, Dnf K I fs vs → Dnf K I (putD f d fs) (putF f v vs)
  | _, _, .nil => .cons h .nil
  | _, _, .cons (f := g) q r => by
    unfold putD putF
    by_cases e : g = f
    · rw [if_pos e, if_pos e]
      exact .cons h r
    · rw [if_neg e, if_neg e]
      exact .cons q (Dnf.put h r)
theorem Dnf.length {K : PySem.W.Frag} {I : Hp} : ∀ {fs : List (Str × D)} {vs : List (Str × V)}, Dnf K I fs vs → fs.length = vs.length
  | _, _, .nil => rfl
  | _, _, .cons _ r => congrArg (· + 1) (Dnf.length r)
def notInst : Option Sl → Bool
  | some (.inst _ _ _ _) => false
  | _ => true
section
variable {X : Cx} {B : Hp} {W0 : Wd} {S : En} {e : Expr} {pos p p1 : Pos} {E : Ends'} {x f : Str} {C : Addr}
/-- self.f = e, self the object that is being made -/
theorem sd_fld {q dx : Addr} (i : Nat) (fs : List (Str × D)) (c : Cls X.K C) (na : NoAttr X.K C f) (hN : X.N[i]? = some x) (h : S[i]? = some (some (.inst C q dx fs))) (hl : fs.length < 1000) (one : (S.set i none).all notInst = true) (he : ED X B S e fun d => E.nx (S.set i (some (.inst C q dx (putD f d fs)))))
    (hv : Vis X.env.scope x := by first | exact Or.inl rfl | exact Or.inr (Or.inl rfl) | exact Or.inr (Or.inr rfl)) (hd : (x == ("__debug__" : Str)) = false := by decide) (hcd : (x == ("__classdict__" : Str)) = false := by decide)
    (hs : swapsWith e (some (.Attribute (.Name x p) f p1)) pos.line X.env = pure false := by rfl) : SD X B W0 S (.Assign [.Attribute (.Name x p) f p1] e pos) E := fun σ W H r z D' k => by
  refine PS.w (ps_fld (pe_var hN hv hd hcd) we_pe hs) ?_
  refine he σ W H r _ fun d v W1 H1 s1 ok1 n1 q1 => ?_
  have r1 := r.step s1 ok1
  obtain ⟨v0, e1, vs, ev, b1, b2, ne, n, n2, i1, i2, hp, hdx, dn⟩ := r1.sl i _ h
  subst ev
  refine ⟨_, e1, q, C, dx, vs, rfl, hp, c, na, dn.length ▸ hl, ?_⟩
  have ok2 : Ok (gOf X) W1 (upd H1 q (.ins C dx (putF f v vs))) := {
    gd := fun b hb => by
      obtain ⟨n1, n2⟩ := ok1.gd b hb
      refine ⟨n1, ?_⟩
      by_cases y : b = q
      · subst y
        rw [upd_same]
        exact ⟨(fun z => by cases z), (fun _ z => by cases z)⟩
      · rw [upd_ne y]
        exact n2
    ex := fun b o hb => by
      rw [upd_ne (fun y => by rw [y, i1] at hb; cases hb)]
      exact ok1.ex b o hb
    pot := fun b hb => by
      obtain ⟨nb, y2, w2, h2⟩ := ok1.pot b hb
      have ne : b ≠ q := fun y => n (y ▸ hb)
      exact ⟨nb, y2, w2, by rw [upd_ne ne]; exact h2⟩ }
  have z1 := z.trans r.ok s1
  have z2 : Stp W0 B W1 (upd H1 q (.ins C dx (putF f v vs))) := ⟨z1.I, z1.P, fun b o hb hn => by rw [upd_ne (ne_of_none hb b1)]; exact z1.keep b o hb hn, z1.old, z1.oldP⟩
  have lt : i < S.length := (List.getElem?_eq_some_iff.mp h).1
  refine k.nx _ σ W1 _ ?_ z2 s1.I q1
  refine ⟨ok2, r.gb, by simpa using r.len, fun j s ej => ?_, fun a b la lb c ne e2 e3 e4 => ?_, r1.distT.setS i fun l z => by cases z⟩
  · by_cases y : i = j
    · subst y
      rw [List.getElem?_set_self lt] at ej
      cases ej
      exact ⟨_, e1, _, rfl, b1, b2, ne, n, n2, i1, i2, upd_same, by rw [upd_ne ne]; exact hdx, dn.put n1⟩
    · rw [List.getElem?_set_ne y] at ej
      obtain ⟨v2, e2, h2⟩ := r1.sl j s ej
      refine ⟨v2, e2, ?_⟩
      cases s with
      | val d2 => exact h2
      | pot => exact h2
      | own m =>
        obtain ⟨p2, ys, rfl, c1, c2, c3, c4, c5⟩ := h2
        refine ⟨p2, ys, rfl, c1, c2, c3, ?_, c5⟩
        rw [upd_ne (fun y => by rw [y, hp] at c4; cases c4)]
        exact c4
      | ownT m =>
        obtain ⟨p2, ys, rfl, c1, c2, c3, c4, c5⟩ := h2
        refine ⟨p2, ys, rfl, c1, c2, c3, ?_, c5⟩
        rw [upd_ne (fun y => by rw [y, hp] at c4; cases c4)]
        exact c4
      | inst C' q' dx' fs' =>
        exfalso
        have e5 : (S.set i none)[j]? = some (some (.inst C' q' dx' fs')) := by rw [List.getElem?_set_ne y]; exact ej
        have := List.all_eq_true.mp one _ (List.mem_of_getElem? e5)
        cases this
  · have g : ∀ {c : Nat} {m : List D}, (S.set i (some (.inst C q dx (putD f d fs))))[c]? = some (some (.own m)) → S[c]? = some (some (.own m)) := fun {c m} ec => by
      by_cases q2 : i = c
      · subst q2
        rw [List.getElem?_set_self lt] at ec
        cases ec
      · rw [List.getElem?_set_ne q2] at ec
        exact ec
    exact r1.dist a b la lb c ne (g e2) (g e3) e4
end
section
variable {P : Program} {w : World} {K : PySem.W.Frag} {mg : Str → Option Value} {base : Heap}
/-- an __init__ by its body: self is slot 0 -/
theorem init_dl {x qual : Str} {st : Stmt} {f C : Addr} {fd : FuncData} {N ps : List Str} {k : Nat} {sp : SpI} (F : FunS K x qual st f fd) (hS : FnScope N ps (defScope st)) (len : ∀ as Q, sp as Q → as.length + 1 = ps.length)
    (body : ∀ cdv A outer s H, Room k (A.deeper (PyProof.Rows.envOfC qual (defScope st) s.heap.objs.size f cdv)) → (Bx P w K mg base N qual st f cdv A outer s H).A.guards = some (gOf (Bx P w K mg base N qual st f cdv A outer s H)) → ∀ W B as Q p dx, sp as Q → SDs (Bx P w K mg base N qual st f cdv A outer s H) B W (startE N (.inst C p dx [] :: as)) (defBody st) { nx := fun S' => ∃ fs, S'[0]? = some (some (.inst C p dx fs)) ∧ Q fs, rt := fun _ => False }) :
    GnOk P w K mg base (k + 1) f fd ps (liftI K C sp) := by
  refine gn_of F hS (fun g vs H Q h => ?_) (fun cdv A outer s H g vs R hr hG h => ?_)
  · obtain ⟨p, dx, us, H1, W, as, Qd, rfl, _, _, _, _, _, ha, hsp, _⟩ := h
    rw [← len _ _ hsp, List.length_cons, Paired.length ha]
  · obtain ⟨p, dx, us, H1, W, as, Qd, rfl, eH, hp, hdx, ne, ok, ha, hsp, c⟩ := h
    refine ⟨WSs _ (defBody st), wss_pss, ?_⟩
    obtain ⟨g1, g2⟩ := gOf_bx (P := P) (w := w) (K := K) (mg := mg) (base := base) (N := N) (qual := qual) (st := st) (f := f) (cdv := cdv) (outer := outer) (s := s) (H := H) hG
    have st1 : Stp W H1 W H := by
      rw [eH]
      exact (Stp.own hdx).trans (ok.own hdx) (Stp.own (by rw [upd_ne (Ne.symm ne)]; exact hp))
    have ok1 : Ok g W H := by
      rw [eH]
      exact (ok.own hdx).own (by rw [upd_ne (Ne.symm ne)]; exact hp)
    have rep : Rep K g H1 (startE N (.inst C p dx [] :: as)) (L2.start N (.ref p :: us)) W H := by
      have r0 := rep_start (N := N.tail) ok1 (ha.step st1)
      have hN : N.length = N.tail.length + 1 := by
        have h1 := hS.pre
        have h2 := len _ _ hsp
        have h3 : ps.length ≤ N.length := by
          have := congrArg List.length h1
          rw [List.length_take] at this
          omega
        rw [List.length_tail]
        omega
      have e1 : startE N (.inst C p dx [] :: as) = some (.inst C p dx []) :: startE N.tail as := by
        unfold startE
        rw [hN]
        simp [Nat.add_sub_add_right]
      have e2 : L2.start N (.ref p :: us) = some (.ref p) :: L2.start N.tail us := by
        unfold L2.start
        rw [hN]
        simp [Nat.add_sub_add_right]
      rw [e1, e2]
      refine ⟨ok1, fun b hb => (ok.gd b hb).2.1, by simp [r0.len], fun i s e => ?_, fun i j l m q n a1 a2 a3 => ?_, fun i j l m q n a1 a2 a3 => ?_⟩
      · cases i with
        | zero =>
          cases e
          refine ⟨_, rfl, [], rfl, hp, hdx, ne, ok.notP hp, ok.notP hdx, ok.free hp, ok.free hdx, ?_, ?_, .nil⟩
          · rw [eH]; exact upd_same
          · rw [eH, upd_ne ne]; exact upd_same
        | succ i =>
          obtain ⟨v, a1, a2⟩ := r0.sl i s e
          refine ⟨v, a1, ?_⟩
          cases s with
          | val d => exact a2
          | pot => exact a2
          | own l =>
            exfalso
            have key : ∀ {as : List Sl} {vs : List V} {n : Nat} {i : Nat}, Args K W as vs → (as.map some ++ List.replicate n none)[i]? = some (some (.own l)) → False := by
              intro as vs n i h
              induction h generalizing i with
              | nil =>
                intro e
                simp only [List.map_nil, List.nil_append, List.getElem?_replicate] at e
                split at e <;> cases e
              | @cons a v as vs h1 _ ih =>
                intro e
                cases i with
                | zero =>
                  simp only [List.map_cons, List.cons_append, List.getElem?_cons_zero, Option.some.injEq] at e
                  subst e
                  exact h1
                | succ i =>
                  simp only [List.map_cons, List.cons_append, List.getElem?_cons_succ] at e
                  exact ih e
            exact key ha e
          | ownT l =>
            exact absurd e (start_noT (ha.step st1) i l)
          | inst C' q' dx' fs =>
            exfalso
            have key : ∀ {as : List Sl} {vs : List V} {n : Nat} {i : Nat}, Args K W as vs → (as.map some ++ List.replicate n none)[i]? = some (some (.inst C' q' dx' fs)) → False := by
              intro as vs n i h
              induction h generalizing i with
              | nil =>
                intro e
                simp only [List.map_nil, List.nil_append, List.getElem?_replicate] at e
                split at e <;> cases e
              | @cons a v as vs h1 _ ih =>
                intro e
                cases i with
                | zero =>
                  simp only [List.map_cons, List.cons_append, List.getElem?_cons_zero, Option.some.injEq] at e
                  subst e
                  exact h1
                | succ i =>
                  simp only [List.map_cons, List.cons_append, List.getElem?_cons_succ] at e
                  exact ih e
            exact key ha e
      · cases i with
        | zero => cases a1
        | succ i => cases j with
          | zero => cases a2
          | succ j => exact r0.dist i j l m q (fun z => n (congrArg (· + 1) z)) a1 a2 a3
      · cases i with
        | zero => cases a1
        | succ i => cases j with
          | zero => cases a2
          | succ j => exact r0.distT i j l m q (fun z => n (congrArg (· + 1) z)) a1 a2 a3
    refine body cdv A outer s H hr (by rw [g2]; exact g1) W H1 as Qd p dx hsp (L2.start N (.ref p :: us)) W H (by rw [g2]; exact rep) st1 _ ?_
    rw [g2]
    refine ⟨fun S σ W' H' r z _ q => ?_, fun d v W' H' ok' z _ n q => q.elim, fun _ _ _ _ _ _ _ q => q.elim, fun _ _ _ _ _ _ _ q => q.elim⟩
    obtain ⟨fs, e, q⟩ := q
    obtain ⟨v, _, vs2, _, _, _, _, n1, _, i1, _, hp', _, dn⟩ := r.sl 0 _ e
    exact c fs vs2 W' H' z r.ok n1 i1 hp' dn q
end
end DL

set_option Elab.async false
set_option linter.all false
set_option maxRecDepth 100000
set_option maxHeartbeats 4000000
namespace DL
open PySem L2

/-! ### isinstance -/
/-- the class at C, as isinstance asks -/
structure Isi (K : PySem.W.Frag) (C : Addr) : Prop where
  cl : Cls K C
  ca : PySem.W.findIn K (.ref C) "__class__" = some (some (.builtin "object.__class__"))
  cn : PySem.W.specialIn K (.builtin "object.__class__") "__get__" = some (some (.builtin "getset_descriptor.__get__"))
  ct : PySem.W.takesIn K (.builtin "object.__class__") = some true
  cm : PySem.W.mroIn K C (.type "object") = some true
/-- the type of a datum -/
inductive TyD (K : PySem.W.Frag) : D → Value → Prop
  | non : TyD K .non (.type "NoneType")
  | bl (b) : TyD K (.bl b) (.type "bool")
  | int (i) : TyD K (.int i) (.type "int")
  | str (s) : TyD K (.str s) (.type "str")
  | tup (l) : TyD K (.tup l) (.type "tuple")
  | lst (l) : TyD K (.lst l) (.type "list")
  | obj {C} (fs) (h : Isi K C) : TyD K (.obj C fs) (.ref C)
  | dct : TyD K .dct (.type "dict")
  | dcK (l) : TyD K (.dcK l) (.type "dict")
theorem TyD.x {K : PySem.W.Frag} {W : Wd} {H : Hp} {d : D} {v : V} {t : Value} (h : TyD K d t) (ok : Ok g W H) (n : Dn K W.I d v) : TyX K H v t := by
  cases h with
  | non => cases n; exact .base .non
  | bl b => cases n; exact .base (.bl b)
  | int i => cases n; exact .base (.int i)
  | str s => cases n; exact .base (.str s)
  | tup l => cases n with | tup h _ => exact .base (.tup (ok.ex _ _ h))
  | lst l => cases n with | lst h _ => exact .base (.lst (ok.ex _ _ h))
  | obj fs i => cases n with | obj h _ => exact .base (.ins (ok.ex _ _ h) i.cl i.ca i.cn i.ct i.cm)
  | dct => cases n with | dct h => exact .base (.dK (ok.ex _ _ h))
  | dcK l => cases n with | dcK h _ => exact .base (.dK (ok.ex _ _ h))
/-- a class as a datum -/
inductive ClD : D → Value → Prop
  | ty (n) : ClD (.ty n) (.type n)
  | cls (C) : ClD (.cls C) (.ref C)
theorem ClD.v {K : PySem.W.Frag} {I : Hp} {d : D} {v : V} {u : Value} (h : ClD d u) (n : Dn K I d v) : ClsV v u := by
  cases h with
  | ty m => cases n; exact .ty m
  | cls C => cases n; exact .own C
section
variable {X : Cx} {B : Hp} {S : En} {pos p apos : Pos} {Q : D → Prop} {e o a b : Expr} {es : List Expr} {x m f : Str}
theorem ed_ty {n : String} (hm : X.mg x = none) (q : Q (.ty n)) (hv : bootBuiltins x = some (.type n) := by first | rfl | decide +kernel) (hg : Gl X x := by rfl) (hn : x ≠ "__name__" := by decide) (hd : (x == ("__debug__" : Str)) = false := by decide) : ED X B S (.Name x pos) Q := fun σ W H r R k =>
  PE.w (pe_bltn (v := .ty n) hg hm hv rfl hn hd) (k.now r.ok (.ty n) q)
theorem ed_cls {C : Addr} (hm : X.mg x = some (.ref C)) (q : Q (.cls C)) (hg : Gl X x := by rfl) (hd : (x == ("__debug__" : Str)) = false := by decide) : ED X B S (.Name x pos) Q := fun σ W H r R k =>
  PE.w (pe_glob (v := .ref C) hg hm rfl hd) (k.now r.ok (.cls C) q)
theorem ed_gint {i : Int} {t : Tok} (hm : X.mg x = some (.int i t)) (q : Q (.int i)) (hg : Gl X x := by rfl) (hd : (x == ("__debug__" : Str)) = false := by decide) : ED X B S (.Name x pos) Q := fun σ W H r R k =>
  PE.w (pe_glob (v := .int i) hg hm ⟨t, rfl⟩ hd) (k.now r.ok (.int i) q)
theorem cd_isi {d c : D} {t u : Value} {k : Bool} (ht : TyD X.K d t) (hc : ClD c u) (hk : PySem.W.kitOne X.K t u = some k) (q : Q (.bl k)) : CD X (.builtin "isinstance") [.val d, .val c] Q := cd_of call_isi fun vs W H ok ha R cc => by
  obtain ⟨v, w, rfl, h, h'⟩ := two_args ha
  exact ⟨v, w, t, u, k, rfl, hc.v h', ht.x ok h, hk, cc.now ok (.bl k) q⟩
theorem cd_isi2 {d c c' : D} {t u u' : Value} {k : Bool} (ht : TyD X.K d t) (hc : ClD c u) (hc' : ClD c' u') (hk : PySem.W.kitAny X.K t [u, u'] = some k) (q : Q (.bl k)) : CD X (.builtin "isinstance") [.val d, .val (.tup [c, c'])] Q := cd_of call_isiT fun vs W H ok ha R cc => by
  obtain ⟨v, w, rfl, h, h'⟩ := two_args ha
  cases h' with
  | tup hp m =>
    cases m with
    | cons h1 m => cases m with
      | cons h2 m =>
        cases m
        exact ⟨v, _, _, t, [u, u'], k, rfl, ok.ex _ _ hp, .cons (hc.v h1) (.cons (hc'.v h2) .nil), ht.x ok h, hk, cc.now ok (.bl k) q⟩
theorem cd_gcd {i j : Int} (q : Q (.int ((Nat.gcd i.natAbs j.natAbs : Nat) : Int))) : CD X (.builtin "math.gcd") [.val (.int i), .val (.int j)] Q := cd_of cr_gcd fun vs W H ok ha R c => by
  obtain ⟨v, u, rfl, h, h'⟩ := two_args ha
  cases h; cases h'
  exact ⟨i, j, rfl, c.now ok (.int _) q⟩
/-- a built-in function that the module imported -/
theorem ed_callM {id : String} (hm : X.mg x = some (.builtin id)) (h : AD X B S (e :: es) fun as => CD X (.builtin id) as Q) (hg : Gl X x := by rfl) (hdb : (x == ("__debug__" : Str)) = false := by decide)
    (he : starEach (e :: es) X.env = (false, eval e X.env) :: starEach es X.env := by rfl) (hpl : (backTo pos (starEach es X.env)).any (·.1) = false := by rfl) : ED X B S (.Call (.Name x p) (e :: es) [] pos) Q := fun σ W H r R c => by
  refine PE.w (pe_callBfun wc_call hg hm wa_pa hdb he hpl) ?_
  refine h σ W H r _ fun as vs W1 H1 s1 ok1 n1 q1 => ?_
  exact q1 vs W1 H1 ok1 n1 R (c.step s1 ok1)

/-! ### numbers of any size, texts -/
def CDivG (i j : Int) : Prop := j ≠ 0 ∧ j.natAbs.log2 < 9000
theorem op_fdivG : OpR X (binaryOp .FloorDiv) (rI CDivG fun i j => .int (i.fdiv j)) := opI fun i j _ _ _ _ _ hc q => PyProof.Rows.floordiv_int hc.1 q (.inl (PyProof.noPylong_of_log2 hc.2))
theorem od_fdiv {i j : Int} (hc : CDivG i j) (q : Q (.int (i.fdiv j))) : OD X (binaryOp .FloorDiv) (.int i) (.int j) Q := od_I op_fdivG hc (fun _ _ => .int _) q
theorem od_mul {i j : Int} (hc : CMulX i j) (q : Q (.int (i * j))) : OD X (binaryOp .Mult) (.int i) (.int j) Q := od_I op_mulX hc (fun _ _ => .int _) q
theorem od_mulS {i j : Int} (hc : (-(2 ^ 64) < i ∧ i < 2 ^ 64) ∨ (-(2 ^ 64) < j ∧ j < 2 ^ 64)) (q : Q (.int (i * j))) : OD X (binaryOp .Mult) (.int i) (.int j) Q := od_I op_mul hc (fun _ _ => .int _) q
theorem od_mod {i j : Int} (hc : 0 < j) (q : Q (.int (i % j))) : OD X (binaryOp .Mod) (.int i) (.int j) Q := od_I op_mod hc (fun _ _ => .int _) q
theorem od_pow {i j : Int} (hc : CPow i j) (q : Q (.int (i ^ j.toNat))) : OD X (binaryOp .Pow) (.int i) (.int j) Q := od_I op_pow hc (fun _ _ => .int _) q
/-- == and != of ints, of texts, of bools, of None -/
def scD : D → D → Bool
  | .int _, .int _ => true
  | .str _, .str _ => true
  | .bl _, .bl _ => true
  | _, _ => false
theorem od_eqi {i j : Int} (q : Q (.bl (decide (i = j)))) : OD X (compareOp .Eq) (.int i) (.int j) Q := by
  refine od_of op_eq fun v u W H ok h1 h2 R c => ?_
  cases h1; cases h2
  refine ⟨rfl, c.now ok (.bl _) ?_⟩
  have e : decide (V.int i = V.int j) = decide (i = j) := by by_cases z : i = j <;> simp [z]
  rw [e]
  exact q
theorem od_nei {i j : Int} (q : Q (.bl (!decide (i = j)))) : OD X (compareOp .NotEq) (.int i) (.int j) Q := by
  refine od_of op_ne fun v u W H ok h1 h2 R c => ?_
  cases h1; cases h2
  refine ⟨rfl, c.now ok (.bl _) ?_⟩
  have e : decide (V.int i = V.int j) = decide (i = j) := by by_cases z : i = j <;> simp [z]
  rw [e]
  exact q
theorem od_eqs {i j : Str} (q : Q (.bl (decide (i = j)))) : OD X (compareOp .Eq) (.str i) (.str j) Q := by
  refine od_of op_eq fun v u W H ok h1 h2 R c => ?_
  cases h1; cases h2
  refine ⟨rfl, c.now ok (.bl _) ?_⟩
  have e : decide (V.str i = V.str j) = decide (i = j) := by by_cases z : i = j <;> simp [z]
  rw [e]
  exact q
theorem od_nes {i j : Str} (q : Q (.bl (!decide (i = j)))) : OD X (compareOp .NotEq) (.str i) (.str j) Q := by
  refine od_of op_ne fun v u W H ok h1 h2 R c => ?_
  cases h1; cases h2
  refine ⟨rfl, c.now ok (.bl _) ?_⟩
  have e : decide (V.str i = V.str j) = decide (i = j) := by by_cases z : i = j <;> simp [z]
  rw [e]
  exact q
theorem od_isN {x : D} (q : Q (.bl (match x with | .non => true | _ => false))) : OD X (compareOp .Is) x .non Q := by
  refine od_of op_isN fun v u W H ok h1 h2 R c => ?_
  cases h2
  refine ⟨rfl, c.now ok (.bl _) ?_⟩
  cases h1 <;> exact q
/-- lists joined, repeated -/
theorem od_catL {l m : List D} (hl : l.length + m.length ≤ 100000) (q : Q (.lst (l ++ m))) : OD X (binaryOp .Add) (.lst l) (.lst m) Q := by
  refine od_of op_cat fun v u W H ok h1 h2 R c => ?_
  cases h1 with
  | @lst _ _ xs a1 d1 => cases h2 with
    | @lst _ _ ys a2 d2 =>
      refine ⟨_, _, _, _, rfl, rfl, ok.ex _ _ a1, ok.ex _ _ a2, Nat.le_trans (by rw [← d1.length, ← d2.length]; exact hl) (by decide), fun p hp => ?_⟩
      have st := Stp.new (o := .lst (xs ++ ys)) ok hp
      exact c (.lst (l ++ m)) (.ref p) _ _ st (ok.new hp) (.lst (show upd W.I p _ p = _ from upd_same) ((d1.append d2).mono st.I)) q
theorem od_repL {l : List D} {k : Int} (hk : 0 ≤ k) (hl : l.length * k.toNat ≤ 100000) (hk2 : k < 2 ^ 63) (q : Q (.lst (List.replicate k.toNat l).flatten)) : OD X (binaryOp .Mult) (.lst l) (.int k) Q := by
  refine od_of op_rep fun v u W H ok h1 h2 R c => ?_
  cases h2
  cases h1 with
  | @lst _ _ xs a1 d1 =>
    refine ⟨_, k, _, rfl, rfl, ok.ex _ _ a1, by omega, hk2, Nat.le_trans (by rw [← d1.length]; exact hl) (by decide), fun p hp => ?_⟩
    have st := Stp.new (o := .lst (List.replicate k.toNat xs).flatten) ok hp
    exact c (.lst (List.replicate k.toNat l).flatten) (.ref p) _ _ st (ok.new hp) (.lst (show upd W.I p _ p = _ from upd_same) ((d1.rep k.toNat).mono st.I)) q
end
end DL

set_option Elab.async false
set_option linter.all false
set_option maxRecDepth 100000
set_option maxHeartbeats 4000000
namespace DL
open PySem L2

/-! ### == and != of plain data -/
mutual
inductive PyD : D → PyData → Prop
  | non : PyD .non .none
  | bl (b) : PyD (.bl b) (.bool b)
  | int (i) : PyD (.int i) (.int i)
  | str (s) : PyD (.str s) (.str s)
  | lst {l ds} : PyDs l ds → PyD (.lst l) (.list ds)
  | tup {l ds} : PyDs l ds → PyD (.tup l) (.tuple ds)
inductive PyDs : List D → List PyData → Prop
  | nil : PyDs [] []
  | cons {d l p ps} : PyD d p → PyDs l ps → PyDs (d :: l) (p :: ps)
end
section
variable {K : PySem.W.Frag} {g : List Code} {W : Wd} {H : Hp}
mutual
theorem PyD.dp (ok : Ok g W H) : ∀ {d : D} {p : PyData} {v : V}, PyD d p → Dn K W.I d v → Dp K H v p
  | _, _, _, .non, .non => .non
  | _, _, _, .bl b, .bl _ => .bl b
  | _, _, _, .int i, .int _ => .int i
  | _, _, _, .str s, .str _ => .str s
  | _, _, _, .lst h, .lst a n => .lst (SqL.of (ok.ex _ _ a)) (PyDs.dp ok h n)
  | _, _, _, .tup h, .tup a n => .tup (SqT.of (ok.ex _ _ a)) (PyDs.dp ok h n)
theorem PyDs.dp (ok : Ok g W H) : ∀ {l : List D} {ps : List PyData} {xs : List V}, PyDs l ps → Dns K W.I l xs → DpAll K H xs ps
  | _, _, _, .nil, .nil => .nil
  | _, _, _, .cons h r, .cons n m => .cons (PyD.dp ok h n) (PyDs.dp ok r m)
end
end
section
variable {X : Cx} {B : Hp} {S : En} {pos p apos : Pos} {Q : D → Prop} {x y : D} {d e : PyData}
theorem od_ned (hu : X.A.units + 64 < cLine) (h1 : PyD x d) (h2 : PyD y e) (s1 : SeqAt.shaped d = true) (s2 : SeqAt.shaped e = true) (q : Q (.bl (!PyData.eqv d e))) : OD X (compareOp .NotEq) x y Q :=
  od_of (op_neD hu) fun v u W H ok n1 n2 R c => ⟨d, e, h1.dp ok n1, h2.dp ok n2, s1, s2, c.now ok (.bl _) q⟩
end

/-! ### operators of own classes -/
theorem back {X : Cx} {pins : List (Addr × Obj)} {σ : L2.St} {R : VK} {v : Value} {s : Shared} (h : EP X pins σ R v s) : PySem.W.CmpBack (EP X pins σ R) v s := by
  obtain ⟨z, H, I, r, q⟩ := id h
  cases z with
  | non => cases (show v = Value.none from r); exact h
  | bl b => cases (show v = Value.bool b from r); exact h
  | int i => obtain ⟨t, e⟩ := (show ∃ t, v = Value.int i t from r); cases e; exact h
  | str x => obtain ⟨t, e⟩ := (show ∃ t, v = Value.str x t from r); cases e; exact h
  | byt b => obtain ⟨t, e⟩ := (show ∃ t, v = Value.bytes b t from r); cases e; exact h
  | flt b => obtain ⟨t, e⟩ := (show ∃ t, v = Value.float b t from r); cases e; exact h
  | ref a => cases (show v = Value.ref a from r); exact h
  | ty n => cases (show v = Value.type n from r); exact h
/-- a class whose instances stand beside ints -/
structure Num (K : PySem.W.Frag) (C : Addr) : Prop where
  cl : Cls K C
  sf : PySem.W.selfFirst K C = true
  nf : PySem.W.notFirst K C (.ref C) = true
  ni : PySem.W.notFirst K C (.type "int") = true
  si : PySem.W.subIn K (.type "int") (.ref C) = some false
  is : PySem.W.subIn K (.ref C) (.type "int") = some false
  ob : PySem.W.subIn K (.ref C) (.type "object") = some true
/-- a special method of the class at C -/
structure Sm (P : Program) (w : World) (K : PySem.W.Frag) (mg : Str → Option Value) (base : Heap) (C : Addr) (m : Str) (k : Nat) (sp : SpD) : Prop where
  ex : ∃ f fd ps, GnOk P w K mg base k f fd ps (lift K sp) ∧ PySem.W.findIn K (.ref C) m = some (some (.ref f)) ∧ PySem.W.isFn K (.ref f) = true ∧ Binds K fd ps []
section
variable {X : Cx} {B : Hp} {S : En} {pos p apos : Pos} {Q : D → Prop} {C : Addr} {k k' : Nat} {sp sp' : SpD} {fs gs : List (Str × D)}
theorem inst_at {pins : List (Addr × Obj)} {σ : L2.St} {H : Hp} {s : Shared} {a dx : Addr} {vs : List (Str × V)} (I : Inv X pins σ H s) (ha : H a = some (.ins C dx vs)) : ∃ ox od, PySem.W.InstAt s.heap a ox C (some od) := by
  obtain ⟨mA, O, _⟩ := ins_get I.hok ha
  obtain ⟨od, J, _⟩ := O.look
  exact ⟨_, od, J⟩
theorem args2 {K : PySem.W.Frag} {W : Wd} {d d' : D} {v u : V} (h : Dn K W.I d v) (h' : Dn K W.I d' u) : Args K W [.val d, .val d'] [v, u] := .cons h (.cons h' .nil)
theorem vals2 {v u : V} {v' u' : Value} (h : RelV v v') (h' : RelV u u') : Vals [v, u] [v', u'] := .cons h (.cons h' .nil)
/-- the def of a special method runs -/
theorem run_sm {m : Str} (F : Sm X.prog X.w X.K X.mg X.base C m k sp) (hr : Room k X.A) (hG : X.A.guards = some (gOf X)) {as : List Sl} {W : Wd} {H : Hp} (ok : Ok (gOf X) W H) {vs : List V} {us : List Value} (n : Args X.K W as vs) (q : sp as Q) {R : VK} (c : Cont X.K (gOf X) W H Q R)
    {pins : List (Addr × Obj)} {σ : L2.St} {s : Shared} (I : Inv X pins σ H s) (r : Vals vs us) : ∃ f, PySem.W.findIn X.K (.ref C) m = some (some (.ref f)) ∧ PySem.W.isFn X.K (.ref f) = true ∧ wpAny (model X.prog X.w) X.A (call (.ref f) us) (EP X pins σ R) X.xe s := by
  obtain ⟨f, fd, ps, F, hf, hi, hb⟩ := F.ex
  refine ⟨f, hf, hi, call_gn F hr hG hb .nil I r ?_⟩
  rw [List.append_nil]
  exact ⟨as, W, Q, ok, n, q, c⟩
/-- both of the class -/
theorem od_oo {op : Operator} (N : Num X.K C) (F : Sm X.prog X.w X.K X.mg X.base C (PySem.dunder op.info.2) k sp) (hr : Room k X.A) (hG : X.A.guards = some (gOf X)) (q : sp [.val (.obj C fs), .val (.obj C gs)] Q) : OD X (binaryOp op) (.obj C fs) (.obj C gs) Q := fun v u W H ok h1 h2 R c pins s σ v' u' I r1 r2 => by
  have aa := args2 h1 h2
  have rr := vals2 r1 r2
  cases id h1 with
  | obj a1 _ => cases id h2 with
    | obj a2 _ =>
      cases (show v' = Value.ref _ from r1)
      cases (show u' = Value.ref _ from r2)
      obtain ⟨ox, od, J⟩ := inst_at I (ok.ex _ _ a1)
      obtain ⟨oy, oe, J2⟩ := inst_at I (ok.ex _ _ a2)
      obtain ⟨f, hf, hi, hw⟩ := run_sm F hr hG ok aa q c I rr
      obtain ⟨mm, hF⟩ := I.fr
      exact PySem.W.binop_K hF I.ok.mod.kin J J2.type N.sf hf hi (wpAny_mono hw (fun _ _ h => back h) fun _ _ h => h)
/-- an int on the right -/
theorem od_oi {op : Operator} {i : Int} (N : Num X.K C) (F : Sm X.prog X.w X.K X.mg X.base C (PySem.dunder op.info.2) k sp) (G : Sm X.prog X.w X.K X.mg X.base C (dunderR op.info.2) k' sp') (hr : Room k X.A) (hG : X.A.guards = some (gOf X)) (q : sp [.val (.obj C fs), .val (.int i)] Q)
    (hint : fillsNumberSlot (.type "int") op.info.2 = pure true) (hl : ∃ r, PySem.W.findIn X.K (.type "int") (dunderR op.info.2) = some r) : OD X (binaryOp op) (.obj C fs) (.int i) Q := fun v u W H ok h1 h2 R c pins s σ v' u' I r1 r2 => by
  have aa := args2 h1 h2
  have rr := vals2 r1 r2
  cases id h1 with
  | obj a1 _ =>
    cases id h2
    cases (show v' = Value.ref _ from r1)
    obtain ⟨t, rfl⟩ := (show ∃ t, u' = Value.int i t from r2)
    obtain ⟨ox, od, J⟩ := inst_at I (ok.ex _ _ a1)
    obtain ⟨f, hf, hi, hw⟩ := run_sm F hr hG ok aa q c I rr
    obtain ⟨g, gd, ps, _, hg, _⟩ := G.ex
    exact OwnOps.own_int I.kIn J N.sf hf hg hi N.si hint hl (wpAny_mono hw (fun _ _ h => back h) fun _ _ h => h)
end
end DL

set_option Elab.async false
set_option linter.all false
set_option maxRecDepth 100000
set_option maxHeartbeats 4000000
namespace DL
open PySem L2
section
variable {X : Cx} {B : Hp} {S : En} {pos p apos : Pos} {Q : D → Prop} {C : Addr} {k k' : Nat} {sp sp' : SpD} {fs gs : List (Str × D)} {e a : Expr} {es : List Expr} {x m : Str}
/-- == by an own __eq__ -/
theorem od_eqO (N : Num X.K C) (F : Sm X.prog X.w X.K X.mg X.base C "__eq__" k sp) (hr : Room k X.A) (hG : X.A.guards = some (gOf X)) (q : sp [.val (.obj C fs), .val (.obj C gs)] Q) : OD X (compareOp .Eq) (.obj C fs) (.obj C gs) Q := fun v u W H ok h1 h2 R c pins s σ v' u' I r1 r2 => by
  have aa := args2 h1 h2
  have rr := vals2 r1 r2
  cases id h1 with
  | obj a1 _ => cases id h2 with
    | obj a2 _ =>
      cases (show v' = Value.ref _ from r1)
      cases (show u' = Value.ref _ from r2)
      obtain ⟨ox, od, J⟩ := inst_at I (ok.ex _ _ a1)
      obtain ⟨oy, oe, J2⟩ := inst_at I (ok.ex _ _ a2)
      obtain ⟨f, hf, hi, hw⟩ := run_sm F hr hG ok aa q c I rr
      obtain ⟨mm, hF⟩ := I.fr
      show wpAny _ _ (richCompare .Eq _ _) _ _ _
      exact PySem.W.cmp_K hr.units0 hF I.ok.mod.kin J J2.type N.nf hf hi (wpAny_mono hw (fun _ _ h => back h) fun _ _ h => h)
end
end DL

set_option Elab.async false
set_option linter.all false
set_option maxRecDepth 100000
set_option maxHeartbeats 2000000
/-! calls by keywords, class methods, calls of a class that a local name holds, the guards known -/
namespace DL
open PySem PySem.Spec PyProof.Rows L2 ClX
section
variable {X : Cx} {k n : Nat} {f C p0 : Addr} {fd : FuncData} {ps ks : List Str} {sp : SpG} {x m : Str} {p pos apos : Pos} {e o : Expr} {es : List Expr} {kws : List Keyword} {g : List Code} {gf : List Value → List Value → List Value} {gV : List V → List V → List V} {mc : Value}
/-- the weakest reading of keywords -/
def WK (X : Cx) (kws : List Keyword) : TA := fun σ H Q => ∀ pos pins s, Inv X pins σ H s → wpAny (model X.prog X.w) X.A (evalAll ((backToKw pos (keywordEach kws X.env)).map (·.2))) (AP X pins σ Q) X.xe s
theorem wk_pk : PK X kws (WK X kws) := ⟨fun pos pins s _ _ _ I h => h pos pins s I⟩
theorem PK.w {t : TA} (h : PK X kws t) {σ : L2.St} {H : Hp} {Q : List V → Hp → Prop} (q : t σ H Q) : WK X kws σ H Q := fun pos pins s I => h.run pos pins s σ H Q I q
end
end DL

set_option Elab.async false
set_option linter.all false
set_option maxRecDepth 100000
set_option maxHeartbeats 4000000
namespace DL
open PySem L2

/-! ### keywords -/
def KD (X : Cx) (B : Hp) (S : En) (kws : List Keyword) (Q : List Sl → Prop) : Prop := ∀ σ W H, Rep X.K (gOf X) B S σ W H → ∀ R, ContA X.K (gOf X) W H Q R → WK X kws σ H R
/-- C's __init__ by keywords ks alone: mid brings their values, and the defaults, into the parameters' order -/
structure KlK (P : Program) (w : World) (K : PySem.W.Frag) (mg : Str → Option Value) (base : Heap) (x : Str) (C : Addr) (k : Nat) (ks : List Str) (midD : List Sl → List Sl) (sp : SpI) : Prop where
  ex : ∃ f fd ps gf, ∃ mid : List V → List V, GnOk P w K mg base k f fd ps (liftI K C sp) ∧ Mk K C f ∧ mg x = some (.ref C) ∧ KBn K fd ps 1 ks gf (fun vs zs => vs ++ mid zs) ∧ ∀ W bs zs, Args K W bs zs → Args K W (midD bs) (mid zs)
structure MtK (P : Program) (w : World) (K : PySem.W.Frag) (mg : Str → Option Value) (base : Heap) (C : Addr) (m : Str) (k : Nat) (ks : List Str) (midD : List Sl → List Sl) (sp : SpD) : Prop where
  ex : ∃ f fd ps gf, ∃ mid : List V → List V, GnOk P w K mg base k f fd ps (lift K sp) ∧ Meth K C m f ∧ KBn K fd ps 1 ks gf (fun vs zs => vs ++ mid zs) ∧ ∀ W bs zs, Args K W bs zs → Args K W (midD bs) (mid zs)
/-- a class method -/
structure Cm (P : Program) (w : World) (K : PySem.W.Frag) (mg : Str → Option Value) (base : Heap) (C : Addr) (m : Str) (k : Nat) (sp : SpD) : Prop where
  ex : ∃ f fd ps p0 mc, GnOk P w K mg base k f fd ps (lift K sp) ∧ ClX.CRead K C mc ∧ ClX.CMet K C mc m p0 f ∧ Binds K fd ps []
structure CmK (P : Program) (w : World) (K : PySem.W.Frag) (mg : Str → Option Value) (base : Heap) (C : Addr) (m : Str) (k : Nat) (ks : List Str) (midD : List Sl → List Sl) (sp : SpD) : Prop where
  ex : ∃ f fd ps p0 mc gf, ∃ mid : List V → List V, GnOk P w K mg base k f fd ps (lift K sp) ∧ ClX.CRead K C mc ∧ ClX.CMet K C mc m p0 f ∧ KBn K fd ps 1 ks gf (fun vs zs => vs ++ mid zs) ∧ ∀ W bs zs, Args K W bs zs → Args K W (midD bs) (mid zs)
section
variable {X : Cx} {B : Hp} {S : En} {pos p apos kpos : Pos} {Q : D → Prop} {e o : Expr} {es : List Expr} {kws : List Keyword} {x m : Str} {nm : Option Str} {k : Nat} {C : Addr} {ks : List Str} {midD : List Sl → List Sl}
theorem kd_nil {Q : List Sl → Prop} (q : Q []) : KD X B S [] Q := fun σ W H r R c => PK.w pk_nil (c [] [] W H Stp.refl r.ok .nil q)
theorem kd_cons {Q : List Sl → Prop} (h : ED X B S e fun d => KD X B S kws fun as => Q (.val d :: as)) : KD X B S (⟨nm, e, kpos⟩ :: kws) Q := fun σ W H r R c => by
  refine PK.w (pk_cons we_pe wk_pk) ?_
  refine h σ W H r _ fun d v W1 H1 s1 ok1 n1 q1 => ?_
  refine q1 σ W1 H1 (r.step s1 ok1) _ fun as vs W2 H2 s2 ok2 n2 q2 => ?_
  exact c (.val d :: as) (v :: vs) W2 H2 (s1.trans ok1 s2) ok2 (.cons (show Arg X.K W2 (.val d) v from n1.mono s2.I) n2) q2
end

/-! ### texts of data -/
open Classical in
/-- the heap cut down to what never changes -/
noncomputable def cut (I : Hp) (h : Heap) : Heap := { h with objs := h.objs.mapIdx fun i o => if I i = none then { o with data := .freed } else o }
theorem cut_get {I : Hp} {h : Heap} {b : Addr} (n : I b ≠ none) : (cut I h).get? b = h.get? b := by
  unfold cut Heap.get?
  simp only [Array.getElem?_mapIdx]
  cases h.objs[b]? with
  | none => rfl
  | some o => simp only [Option.map_some, if_neg n]
theorem cut_in {I : Hp} {h : Heap} {b : Addr} {o : Obj} (e : (cut I h).get? b = some o) : h.get? b = some o ∧ I b ≠ none := by
  by_cases n : I b = none
  · exfalso
    unfold cut Heap.get? at e
    simp only [Array.getElem?_mapIdx] at e
    cases q : h.objs[b]? with
    | none => rw [q] at e; cases e
    | some o => rw [q] at e; simp only [Option.map_some, if_pos n] at e; cases e
  · exact ⟨by rw [← cut_get n]; exact e, n⟩
section
variable {X : Cx} {pins : List (Addr × Obj)} {σ : L2.St} {W : Wd} {H : Hp} {s : Shared} {g : List Code}
mutual
theorem PyD.reads (I : Inv X pins σ H s) (ok : Ok g W H) : ∀ {d : D} {p : PyData} {v : V} {u : Value}, PyD d p → Dn X.K W.I d v → RelV v u → ∃ as, Reads (cut W.I s.heap) u p as
  | _, _, _, _, .non, .non, r => by cases r; exact ⟨_, .none⟩
  | _, _, _, _, .bl b, .bl _, r => by cases r; exact ⟨_, .bool b⟩
  | _, _, _, _, .int i, .int _, r => by obtain ⟨t, rfl⟩ := r; exact ⟨_, .int i t⟩
  | _, _, _, _, .str x, .str _, r => by obtain ⟨t, rfl⟩ := r; exact ⟨_, .str x t⟩
  | _, _, _, _, .lst h, .lst (a := a) e m, r => by
    cases r
    obtain ⟨its, rv, ⟨o, n, ho, hc, _, hd⟩, _⟩ := I.list (SqL.of (ok.ex _ _ e))
    obtain ⟨as, q⟩ := PyDs.reads I ok h m rv
    exact ⟨_, Reads.list (by rw [cut_get (by rw [e]; exact fun z => by cases z)]; exact ho) hc hd q⟩
  | _, _, _, _, .tup h, .tup (a := a) e m, r => by
    cases r
    obtain ⟨its, rv, ⟨o, ho, hc, n, hd⟩, _⟩ := I.tuple (SqT.of (ok.ex _ _ e))
    obtain ⟨as, q⟩ := PyDs.reads I ok h m rv
    exact ⟨_, Reads.tuple (by rw [cut_get (by rw [e]; exact fun z => by cases z)]; exact ho) hc hd q⟩
theorem PyDs.reads (I : Inv X pins σ H s) (ok : Ok g W H) : ∀ {l : List D} {ps : List PyData} {xs : List V} {us : List Value}, PyDs l ps → Dns X.K W.I l xs → Vals xs us → ∃ as, ReadsAll (cut W.I s.heap) us ps as
  | _, _, _, _, .nil, .nil, r => by cases r; exact ⟨_, .nil⟩
  | _, _, _, _, .cons h t, .cons n m, r => by
    cases r with
    | cons r1 r2 =>
      obtain ⟨as, q1⟩ := PyD.reads I ok h n r1
      obtain ⟨bs, q2⟩ := PyDs.reads I ok t m r2
      exact ⟨_, .cons q1 q2⟩
end
mutual
theorem PyD.nodict : ∀ {d : D} {p : PyData}, PyD d p → p.hasDict = false
  | _, _, .non => rfl
  | _, _, .bl _ => rfl
  | _, _, .int _ => rfl
  | _, _, .str _ => rfl
  | _, _, .lst h => by simp only [PyData.hasDict]; exact PyDs.nodict h
  | _, _, .tup h => by simp only [PyData.hasDict]; exact PyDs.nodict h
theorem PyDs.nodict : ∀ {l : List D} {ps : List PyData}, PyDs l ps → PyData.hasDictAll ps = false
  | _, _, .nil => rfl
  | _, _, .cons h r => by simp only [PyData.hasDictAll, PyD.nodict h, PyDs.nodict r, Bool.or_self]
end
/-- what stands in the cut heap is no guard -/
theorem clears (ok : Ok g W H) {n : Nat} {bs : List Addr} (h : ReadAtMost (cut W.I s.heap) n bs) : ∀ b ∈ bs, Clear g b := fun b hb => by
  obtain ⟨d, as, r, _⟩ := h b hb
  refine clear_of fun z => ?_
  have n0 := (ok.gd b z).1
  cases r with
  | list e => exact (cut_in e).2 n0
  | tuple e => exact (cut_in e).2 n0
  | dict e => exact (cut_in e).2 n0
/-- repr of plain data -/
theorem repr_pl {A : Around} {E : Value → Shared → Prop} {Q : Value → Shared → Prop} {d : D} {p : PyData} {v : V} {u : Value} (I : Inv X pins σ H s) (ok : Ok g W H) (hG : A.guards = some g) (hu : A.units + (p.depth + 3) < cLine) (hp : PyD d p) (n : Dn X.K W.I d v) (r : RelV v u) (hs : p.showable = true) (hz : p.shown.length ≤ sizeLine)
    (q : ∀ h' t tk, (∀ b o, s.heap.get? b = some o → h'.get? b = some o) → Q (.str p.shown t) { s with heap := h', toks := tk }) : wpAny (model X.prog X.w) A (call (.builtin "repr") [u]) Q E s := by
  have kp : ∀ b o, (cut W.I s.heap).get? b = some o → s.heap.get? b = some o := fun b o e => (cut_in e).1
  obtain ⟨as, rd⟩ := hp.reads I ok n r
  have nd := hp.nodict
  cases rd with
  | none => exact PySem.P.repr_of_none (by simpa only [PyData.shown] using q s.heap _ _ fun _ _ e => e)
  | bool b => exact PySem.P.repr_of_bool (by simpa only [PyData.shown] using q s.heap _ _ fun _ _ e => e)
  | int i t => exact PySem.P.repr_of_int (by simpa [PyData.showable] using hs) (by simpa only [PyData.shown] using q s.heap _ _ fun _ _ e => e)
  | str x t => exact PySem.P.repr_of_str (by simpa only [PyData.shown] using q s.heap _ _ fun _ _ e => e) (by simpa only [PyData.shown] using hz)
  | @list a o vs n xs as h1 h2 h3 h4 =>
    simp only [PyData.shown] at hz q
    simp only [PyData.depth] at hu
    obtain ⟨bs, hb, hk⟩ := ReprAllK.of_readsAll (prog := X.prog) (w := X.w) h4 (by simpa [PyData.showable] using hs) (fun z => absurd z (by rw [show PyData.hasDictAll xs = false by simpa [PyData.hasDict] using nd]; exact Bool.false_ne_true)) (fun t ht => Nat.le_trans (listText_mem_le ht) hz)
    have rl : Reads (cut W.I s.heap) (.ref a) (.list xs) (a :: as) := .list h1 h2 h3 h4
    have hna : a ∉ bs := not_mem_of_deeper rl (by simp only [PyData.depth]; omega) hb
    have ca := clears ok (ReadAtMost.cons rl (by simp only [PyData.depth]; omega) hb)
    refine call_repr_slot (by omega) ⟨o, kp _ _ h1, h2⟩ F.slot_list_repr.toG ?_
    obtain ⟨l⟩ := vs
    cases l with
    | nil =>
      have h4' : ReadsAll (cut W.I s.heap) [] xs as := h4
      cases h4'
      simp only [PyData.shownAll, listText_nil] at q
      exact call_list_repr_empty ⟨o, kp _ _ h1, h2⟩ (kp _ _ h1) h3 ⟨_, _, rfl, q s.heap _ _ fun _ _ e => e⟩
    | cons y l =>
      exact call_list_reprK (A := A.in1) h1 h2 h3 hna (by simpa using hk.length_eq) (fun i y e => hk.item i y (by simpa using e)) hG ca (by show A.units + 1 + _ < cLine; omega) kp (fun h' u tk hk => ⟨_, _, rfl, q h' u tk hk⟩) hz
  | @tuple a o vs n xs as h1 h2 h3 h4 =>
    simp only [PyData.shown] at hz q
    simp only [PyData.depth] at hu
    obtain ⟨bs, hb, hk⟩ := ReprAllK.of_readsAll (prog := X.prog) (w := X.w) h4 (by simpa [PyData.showable] using hs) (fun z => absurd z (by rw [show PyData.hasDictAll xs = false by simpa [PyData.hasDict] using nd]; exact Bool.false_ne_true)) (fun t ht => Nat.le_trans (tupleText_mem_le ht) hz)
    have rl : Reads (cut W.I s.heap) (.ref a) (.tuple xs) as := .tuple h1 h2 h3 h4
    have hna : a ∉ bs := not_mem_of_deeper rl (by simp only [PyData.depth]; omega) hb
    have ca := clears ok (ReadAtMost.cons rl (by simp only [PyData.depth]; omega) hb)
    refine call_repr_slot (by omega) ⟨o, kp _ _ h1, h2⟩ F.slot_tuple_repr ?_
    exact call_tuple_reprK (A := A.in1) h1 h2 h3 hna hk hG ca (by show A.units + 1 + _ < cLine; omega) kp (fun h' u tk hk => ⟨_, _, rfl, q h' u tk hk⟩) hz
  | dict _ _ _ _ _ => simp [PyData.hasDict] at nd
end
section
variable {X : Cx} {B : Hp} {S : En} {pos p apos : Pos} {Q : D → Prop} {e o : Expr} {es : List Expr} {C : Addr} {k : Nat} {sp : SpD} {fs : List (Str × D)}
theorem cd_repr {d : D} {p : PyData} (hG : X.A.guards = some (gOf X)) (hu : X.A.units + (p.depth + 3) < cLine) (hp : PyD d p) (hs : p.showable = true) (hz : p.shown.length ≤ sizeLine) (q : Q (.str p.shown)) : CD X (.builtin "repr") [.val d] Q := fun vs W H ok ha R c pins s σ us I rv => by
  obtain ⟨v, rfl, n⟩ := one_arg ha
  cases rv with
  | cons r1 r2 =>
    cases r2
    exact repr_pl I ok hG hu hp n r1 hs hz fun h' t tk kp => ⟨.str _, H, I.kept kp, ⟨t, rfl⟩, c.now ok (.str _) q⟩
end
end DL

set_option Elab.async false
set_option linter.all false
set_option maxRecDepth 100000
set_option maxHeartbeats 4000000
namespace DL
open PySem L2
section
variable {X : Cx} {B : Hp} {S : En} {pos p apos : Pos} {Q : D → Prop} {e o : Expr} {es : List Expr} {C : Addr} {k : Nat} {sp : SpD} {fs : List (Str × D)}
open Builtin Builtin.Str in
/-- f'..' -/
theorem ed_fmt (h : ED X B S e fun d => (∃ y, d = .str y ∧ y.length ≤ sizeLine ∧ Q (.str y)) ∨ ∃ i : Int, d = .int i ∧ i.natAbs.log2 < 1920 ∧ Q (.str (toString i))) : ED X B S (.FormattedValue e (-1) none pos) Q := fun σ W H r R c => by
  refine PE.w (pe_fmt we_pe) ?_
  refine h σ W H r _ fun d v W1 H1 s1 ok1 n1 q1 => ?_
  have c1 := c.step s1 ok1
  rcases q1 with ⟨y, rfl, l, q⟩ | ⟨i, rfl, l, q⟩
  · cases n1
    exact .inl ⟨y, rfl, l, c1.now ok1 (.str _) q⟩
  · cases n1
    exact .inr ⟨i, rfl, l, c1.now ok1 (.str _) q⟩
def JD (X : Cx) (B : Hp) (S : En) : List Expr → Str → (D → Prop) → Prop
  | [], acc, Q => Q (.str acc)
  | e :: es, acc, Q => ED X B S e fun d => ∃ y, d = .str y ∧ (acc ++ y).length ≤ sizeLine ∧ JD X B S es (acc ++ y) Q
theorem pj_all : ∀ es : List Expr, PJ X es (es.map (WE X))
  | [] => .nil
  | _ :: es => .cons we_pe (pj_all es)
theorem jd_run {σ : L2.St} {R : VK} : ∀ (es : List Expr) (acc : Str) (W : Wd) (H : Hp), JD X B S es acc Q → Rep X.K (gOf X) B S σ W H → Cont X.K (gOf X) W H Q R → tJs (es.map (WE X)) acc σ H fun out H1 => R (.str out) H1
  | [], acc, W, H, h, r, c => c.now r.ok (.str acc) h
  | e :: es, acc, W, H, h, r, c => by
    show WE X e σ H _
    refine h σ W H r _ fun d v W1 H1 s1 ok1 n1 q1 => ?_
    obtain ⟨y, rfl, l, q1⟩ := q1
    cases n1
    exact ⟨y, rfl, l, jd_run es (acc ++ y) W1 H1 q1 (r.step s1 ok1) (c.step s1 ok1)⟩
theorem ed_join {e1 e2 : Expr} (h : JD X B S (e1 :: e2 :: es) Str.empty Q) : ED X B S (.JoinedStr (e1 :: e2 :: es) pos) Q := fun σ W H r R c =>
  PE.w (pe_joined (pj_all _)) (jd_run _ _ W H h r c)
/-- tuple(x) of a list, of a tuple -/
theorem cd_tuple {l : List D} (q : Q (.tup l)) : CD X (.type "tuple") [.val (.lst l)] Q := cd_of call_tuple_of fun vs W H ok ha R c => by
  obtain ⟨v, rfl, h⟩ := one_arg ha
  cases h with
  | @lst _ a xs h m =>
    refine ⟨_, _, rfl, .inl ⟨SqL.of (ok.ex _ _ h), fun p hp => ?_⟩⟩
    have st := Stp.new (o := .tup xs) ok hp
    exact c (.tup l) (.ref p) _ _ st (ok.new hp) (.tup (show upd W.I p _ p = _ from upd_same) (m.mono st.I)) q
end

/-! ### a new list handed back; pots -/
abbrev SpN := List Sl → (List D → Prop) → Prop
def liftN (K : PySem.W.Frag) (sp : SpN) : SpG := fun g vs H R => ∃ as W Q, Ok g W H ∧ Args K W as vs ∧ sp as Q ∧ ContF K g W H Q R
structure Nf (P : Program) (w : World) (K : PySem.W.Frag) (mg : Str → Option Value) (base : Heap) (x : Str) (k : Nat) (sp : SpN) : Prop where
  ex : ∃ f fd ps, GnOk P w K mg base k f fd ps (liftN K sp) ∧ mg x = some (.ref f) ∧ PySem.W.keepIn K (.ref f) = true ∧ Binds K fd ps []
section
variable {X : Cx} {B : Hp} {W0 : Wd} {S : En} {pos p apos : Pos} {e o : Expr} {es : List Expr} {x : Str} {k : Nat}
theorem ContF.step {K : PySem.W.Frag} {g : List Code} {W W1 : Wd} {H H1 : Hp} {Q : List D → Prop} {R : VK} (c : ContF K g W H Q R) (a : Stp W H W1 H1) (ok : Ok g W1 H1) : ContF K g W1 H1 Q R := fun l p xs W' H' s ok' hp n i hl d q => c l p xs W' H' (a.trans ok s) ok' (a.free ok hp) n i hl d q
theorem fd_callN {sp : SpN} {Q : List D → Prop} (F : Nf X.prog X.w X.K X.mg X.base x k sp) (hr : Room k X.A) (hG : X.A.guards = some (gOf X)) (h : AD X B S (e :: es) fun as => sp as Q) (hg : Gl X x := by rfl) (hdb : (x == ("__debug__" : Str)) = false := by decide)
    (he : starEach (e :: es) X.env = (false, eval e X.env) :: starEach es X.env := by rfl) (hpl : (backTo pos (starEach es X.env)).any (·.1) = false := by rfl) : FD X B S (.Call (.Name x p) (e :: es) [] pos) Q := fun σ W H r R c => by
  obtain ⟨f, fd, ps, F, hm, hk, hb⟩ := F.ex
  refine we_call F hr hG hg hm hk hb .nil ?_ hdb he hpl
  refine h σ W H r _ fun as vs W1 H1 s1 ok1 n1 q1 => ?_
  rw [List.append_nil]
  exact ⟨as, W1, Q, ok1, n1, q1, c.step s1 ok1⟩
/-- two ints in a list of one's own: a pot -/
theorem Ok.pot2 {g : List Code} {W : Wd} {H : Hp} {q : Addr} {x y : Int} (ok : Ok g W H) (i : W.I q = none) (h : H q = some (.lst [.int x, .int y])) (hy : 0 ≤ y ∧ y < 2 ^ 31) : Ok g ⟨W.I, fun b => W.P b ∨ b = q⟩ H :=
  ⟨ok.gd, ok.ex, fun a pa => pa.elim (ok.pot a) fun z => by subst z; exact ⟨i, x, y, h, hy⟩⟩
theorem Stp.pot2 {W W1 : Wd} {H H1 : Hp} {q : Addr} (a : Stp W H W1 H1) (hq : H q = none) : Stp W H ⟨W1.I, fun b => W1.P b ∨ b = q⟩ H1 :=
  ⟨a.I, fun b h => .inl (a.P b h), a.keep, a.old, fun b o hb z => z.elim (a.oldP b o hb) fun e => by rw [e, hq] at hb; cases hb⟩
theorem dns_two {K : PySem.W.Frag} {I : Hp} {a b : Int} {xs : List V} (h : Dns K I [.int a, .int b] xs) : xs = [.int a, .int b] := by
  cases h with
  | cons h r => cases h; cases r with
    | cons h r => cases h; cases r; rfl
theorem ad_newpot {Q : List Sl → Prop} (h : FD X B S e fun l => ∃ a b : Int, l = [.int a, .int b] ∧ (0 ≤ b ∧ b < 2 ^ 31) ∧ AD X B S es fun as => Q (.pot :: as)) (hs : starEach (e :: es) X.env = (false, eval e X.env) :: starEach es X.env := by rfl) : AD X B S (e :: es) Q := fun σ W H r R k => by
  refine PA.w (pa_cons we_pe wa_pa hs) ?_
  refine h σ W H r _ fun l q xs W1 H1 s1 ok1 hp n i hl d q1 => ?_
  obtain ⟨a, b, rfl, hab, q1⟩ := q1
  rw [dns_two d] at hl
  have ok2 := ok1.pot2 i hl hab
  have st2 := s1.pot2 hp
  refine q1 σ _ H1 (r.step st2 ok2) _ fun as vs W3 H3 s3 ok3 n3 q3 => ?_
  exact k (.pot :: as) (.ref q :: vs) W3 H3 (st2.trans ok2 s3) ok3 (.cons ⟨q, rfl, s3.P q (.inr rfl)⟩ n3) q3
end
/-- a block that ends by handing a new list back -/
def SN (X : Cx) (B : Hp) (W0 : Wd) (S : En) (sts : List Stmt) (Q : List D → Prop) : Prop := ∀ σ W H, Rep X.K (gOf X) B S σ W H → Stp W0 B W H → ∀ R, ContF X.K (gOf X) W0 B Q R → WSs X sts { nx := fun _ H' => R .non H', rt := R } σ H
section
variable {X : Cx} {B : Hp} {W0 : Wd} {S : En} {pos : Pos} {e : Expr} {st : Stmt} {sts : List Stmt} {Q : List D → Prop}
theorem sn_ret (h : FD X B S e Q) : SN X B W0 S [.Return (some e) pos] Q := fun σ W H r z R c => by
  refine PSs.w (pss_cons (ps_ret we_pe) pss_nil) ?_
  exact h σ W H r R fun l p xs W2 H2 s2 ok2 hp n i hl d q2 => c l p xs W2 H2 (z.trans r.ok s2) ok2 (z.free r.ok hp) n i hl d q2
theorem sn_cons (h : SD X B W0 S st { nx := fun S' => SN X B W0 S' sts Q, rt := fun _ => False }) : SN X B W0 S (st :: sts) Q := fun σ W H r z R c => by
  refine PSs.w (pss_cons ws_ps wss_pss) ?_
  exact h σ W H r z _ ⟨fun S' σ' W' H' r' z' _ q => q σ' W' H' r' z' R c, fun _ _ _ _ _ _ _ _ q => q.elim, fun _ _ _ _ _ _ _ q => q.elim, fun _ _ _ _ _ _ _ q => q.elim⟩
end
section
variable {P : Program} {w : World} {K : PySem.W.Frag} {mg : Str → Option Value} {base : Heap}
/-- a def that ends by handing a new list back -/
theorem gn_new {x qual : Str} {st : Stmt} {f : Addr} {fd : FuncData} {N ps : List Str} {k : Nat} {sp : SpN} (F : FunS K x qual st f fd) (hS : FnScope N ps (defScope st)) (len : ∀ as Q, sp as Q → as.length = ps.length)
    (body : ∀ cdv A outer s H, Room k (A.deeper (PyProof.Rows.envOfC qual (defScope st) s.heap.objs.size f cdv)) → (Bx P w K mg base N qual st f cdv A outer s H).A.guards = some (gOf (Bx P w K mg base N qual st f cdv A outer s H)) → ∀ W as Q, sp as Q →
      SN (Bx P w K mg base N qual st f cdv A outer s H) H W (startE N as) (defBody st) Q) : GnOk P w K mg base (k + 1) f fd ps (liftN K sp) := by
  refine gn_of F hS (fun g vs H Q h => ?_) (fun cdv A outer s H g vs R hr hG h => ?_)
  · obtain ⟨as, W, Qd, _, ha, hsp, _⟩ := h
    rw [← len _ _ hsp]
    exact (Paired.length ha).symm
  · obtain ⟨as, W, Qd, ok, ha, hsp, c⟩ := h
    obtain ⟨e1, e2⟩ := gOf_bx (P := P) (w := w) (K := K) (mg := mg) (base := base) (N := N) (qual := qual) (st := st) (f := f) (cdv := cdv) (outer := outer) (s := s) (H := H) hG
    refine ⟨WSs _ _, wss_pss, body cdv A outer s H hr (by rw [e2]; exact e1) W as Qd hsp (L2.start N vs) W H (by rw [e2]; exact rep_start ok ha) Stp.refl R ?_⟩
    rw [e2]
    exact c
end
section
variable {X : Cx} {B : Hp} {W0 : Wd} {S : En} {e a b : Expr} {es : List Expr} {pos : Pos} {E : Ends'}
end
/-- x[j], x the script -/
theorem ed_ixF {X : Cx} {B : Hp} {S : En} {a b : Expr} {pos : Pos} {Q : D → Prop} (h : ED X B S a fun x => ED X B S b fun y => ∃ (l : List Int) (j : Nat) (z : Int), x = .frl l ∧ y = .int (j : Int) ∧ l[j]? = some z ∧ Q (.int z)) (hs : PlainIx b := by exact fun _ _ => rfl) : ED X B S (.Subscript a b pos) Q := fun σ W H r R k => by
  refine PE.w (pe_ix ix_list we_pe we_pe hs) ?_
  refine h σ W H r _ fun d v W1 H1 s1 ok1 n1 q1 => ?_
  refine q1 σ W1 H1 (r.step s1 ok1) _ fun d2 u W2 H2 s2 ok2 n2 q2 => ?_
  obtain ⟨l, j, z, rfl, rfl, e, q⟩ := q2
  have k2 := (k.step s1 ok1).step s2 ok2
  cases n2
  cases n1 with
  | frl h => exact ⟨_, _, (j : Int), .int z, rfl, rfl, ok2.ex.l (s2.I.l h), atI_nat (by rw [List.getElem?_map, e]; rfl), k2.now ok2 (.int z) q⟩
end DL

set_option Elab.async false
set_option linter.all false
set_option maxRecDepth 100000
set_option maxHeartbeats 4000000
/-! a comprehension whose list goes to a name at once -/
namespace DL
open PySem L2
def LC (X : Cx) (B : Hp) (S : En) (t : TE) (Q : List D → Prop) : Prop := ∀ σ W H, Rep X.K (gOf X) B S σ W H → ∀ R, ContF X.K (gOf X) W H Q R → t σ H R
section
variable {X : Cx} {B : Hp} {W0 : Wd} {S : En} {e a b : Expr} {es : List Expr} {pos : Pos} {E : Ends'}
/-- [elt for g in a list], without a test -/
theorem lc_L {elt iter : Expr} {scope : Scope} {own : List (Str × Nat)} {g : TG} {l : List D} {Q : List D → Prop} (J : Nat → List D → Prop) (S' : D → En) 
    (h : ED X B S iter fun d => d = .lst l ∧ l.length ≤ 50000 ∧ J 0 []) (hp : ∀ d ∈ l, Pat X.K g (own.map (·.2)) S d (S' d))
    (he : ∀ (i : Nat) d acc, l[i]? = some d → acc.length = i → J i acc → ∀ (s : Shared) (H0 : Hp) (C : Addr) (cl : List (Str × Addr)) (fp : List Addr), ED (X.blk s H0 scope (compEnvC scope cl C X.env) fp) B (S' d) elt fun y => J (i + 1) (acc ++ [y]))
    (hd : ∀ acc, acc.length = l.length → J l.length acc → Q acc) : LC X B S (tLc (iList X.K (WE X iter)) g tYes (WEb X scope elt) (own.map (·.2))) Q := fun σ W H r R k => by
  refine h σ W H r _ fun d v W1 H1 s1 ok1 n1 q1 => ?_
  obtain ⟨rfl, hz, j0⟩ := q1
  cases n1 with
  | @lst _ a xs ha m =>
    refine ⟨a, rfl, ⟨xs, SqL.of (ok1.ex _ _ ha)⟩, fun p hp0 => ?_⟩
    have r1 := r.step s1 ok1
    refine lc_list (K := X.K) (a := a) (xs := xs) (fun i H' => ∃ acc W', Mid X.K (gOf X) W1 H1 p acc W' H' ∧ acc.length = i ∧ J i acc) ⟨[], W1, ⟨Stp.own hp0, ok1.own hp0, ok1.notP hp0, ok1.free hp0, [], upd_same, .nil⟩, rfl, j0⟩
      (fun i H' _ ⟨acc, W', mm, _⟩ => SqL.of (mm.ok.ex _ _ (mm.st.I _ _ ha))) ?_ ?_
    · rintro i x H' hx ⟨acc, W', mm, hl, j⟩
      obtain ⟨d, hd', nd⟩ := m.get hx
      have r2 := r1.step mm.st mm.ok
      refine hp d (List.mem_of_getElem? hd') (gOf X) B σ W' H' x r2 (nd.mono mm.st.I) _ fun σ2 e2 r3 => ⟨e2, ?_⟩
      show WEb X scope elt σ2 H' _
      intro s H0 C cl fp
      refine he i d acc hd' hl j s H0 C cl fp σ2 W' H' r3 _ fun y v W2 H2 s2 ok2 n2 q2 => ?_
      have lt : i < l.length := (List.getElem?_eq_some_iff.mp hd').1
      obtain ⟨xs', e1, e3, m3⟩ := (mm.step s2 ok2).more hp0 n2 (by omega)
      exact ⟨xs', e1, e3, _, W2, m3, by simp [hl], q2⟩
    · rintro H' ⟨acc, W', mm, hl, j⟩
      obtain ⟨ys, hH, ds⟩ := mm.h
      rw [← m.length] at hl j
      exact k acc p ys W' H' (s1.trans ok1 mm.st) mm.ok (s1.free ok1 hp0) mm.n mm.i hH ds (hd acc hl j)
theorem sd_ownLc {i : Nat} {y : Str} {py spos : Pos} {elt tg iter : Expr} {scope : Scope} {own : List (Str × Nat)} {wi : TI} {g : TG} (hc : X.calm = true) (hN : X.N.Nodup) (hy : X.N[i]? = some y) (hyl : X.env.scope.names.lookup y = some .local) (hi : PI X tg iter wi) (ok : BlkOk X.N X.env.scope scope own)
    (hg : ∀ (s : Shared) (H : Hp) (C : Addr) (cl : List (Str × Addr)) (fp : List Addr), PG (X.blk s H scope (compEnvC scope cl C X.env) fp) tg g)
    (h : LC X B S (tLc wi g tYes (WEb X scope elt) (own.map (·.2))) fun l => E.nx (S.set i (some (.own l))))
    (hsw : swapsWith (.ListComp elt [⟨tg, iter, [], 0⟩] scope pos) (some (.Name y py)) spos.line X.env = pure true := by exact sw_true rfl rfl rfl rfl) (hs : ∀ x, foldedSetIterable iter X.env x = pure x := by intro _; rfl) :
    SD X B W0 S (.Assign [.Name y py] (.ListComp elt [⟨tg, iter, [], 0⟩] scope pos) spos) E := fun σ W H r z D' k => by
  refine PS.w (ps_setLc (i := i) hc hN hy hyl hsw hi ok hg (fun _ _ _ _ _ => pts_nil) web_pe hs) ?_
  exact h σ W H r _ fun l p xs W1 H1 s1 ok1 hp n i1 hl d q1 => k.nx _ _ W1 H1 ((r.step s1 ok1).setOwn (z.free r.ok hp) n i1 hl d fun j m e1 e2 => by
    obtain ⟨v, e3, p2, ys, e4, _, _, _, h4, _⟩ := r.sl j _ e1
    rw [e2] at e3
    cases e3
    cases e4
    rw [hp] at h4
    cases h4) (z.trans r.ok s1) s1.I q1
end
end DL

set_option Elab.async false
set_option linter.all false
set_option maxRecDepth 100000
set_option maxHeartbeats 4000000
/-! all, any; defs called by keywords; comprehensions with a test, with two ranges -/
namespace DL
open PySem PySem.Spec PyProof.Rows L2
theorem Dns.bls {K : PySem.W.Frag} {I : Hp} : ∀ {bs : List Bool} {xs : List V}, Dns K I (bs.map D.bl) xs → xs = bs.map V.bl
  | [], _, .nil => rfl
  | b :: bs, _, .cons (.bl _) r => by rw [List.map_cons, Dns.bls r]
theorem Dns.ints {K : PySem.W.Frag} {I : Hp} : ∀ {bs : List Int} {xs : List V}, Dns K I (bs.map D.int) xs → xs = bs.map V.int
  | [], _, .nil => rfl
  | b :: bs, _, .cons (.int _) r => by rw [List.map_cons, Dns.ints r]
section
variable {X : Cx} {B : Hp} {S : En} {pos p : Pos} {Q : D → Prop} {e : Expr} {es : List Expr} {x : Str} {k n : Nat} {kws : List Keyword}
theorem cd_all {bs : List Bool} (hc : X.calm = true) (q : Q (.bl (bs.all id))) : CD X (.builtin "all") [.val (.lst (bs.map D.bl))] Q := cd_of (cr_all hc) fun vs W H ok ha R c => by
  obtain ⟨v, rfl, h⟩ := one_arg ha
  cases h with
  | lst h z => exact ⟨_, bs, rfl, by rw [← z.bls]; exact SqL.of (ok.ex _ _ h), c.now ok (.bl _) q⟩
/-! a def called by keywords alone -/
theorem we_callK0 {f : Addr} {fd : FuncData} {ps ks : List Str} {sp : SpG} {g : List Code} {gf : List Value → List Value → List Value} {gV : List V → List V → List V} {σ : L2.St} {H : Hp} {Q : VK}
    (F : GnOk X.prog X.w X.K X.mg X.base k f fd ps sp) (hr : Room k X.A) (hG : X.A.guards = some g) (hg : Gl X x) (hm : X.mg x = some (.ref f)) (hk : PySem.W.keepIn X.K (.ref f) = true) (hb : KBn X.K fd ps 0 ks gf gV)
    (h : WK X kws σ H fun zs H1 => zs.length = ks.length ∧ sp g (gV [] zs) H1 Q)
    (hall : (backToKw pos (keywordEach kws X.env)).all (·.1.isSome) = true) (hks : (backToKw pos (keywordEach kws X.env)).filterMap (·.1) = ks) (hdb : (x == ("__debug__" : Str)) = false)
    (hpl : ((backTo pos (starEach [] X.env)).any (·.1) || (backToKw pos (keywordEach kws X.env)).any (·.1.isNone)) = false) : WE X (.Call (.Name x p) [] kws pos) σ H Q := fun pins s I => by
  refine wpAny_Call_Name_kw (ld_glob I hg hm ?_ hdb)
  refine PySem.W.callWith_KW0 (h₀ := X.base) I.ok.mod.kin hk hall (thn (h pos pins s I) fun ws s2 ⟨zs, H2, I2, rz, l2, q2⟩ => ⟨I2.kIn, ?_⟩) hpl
  rw [hks]
  have n2 : ws.length = ks.length := by rw [← rz.length, l2]
  exact wpAny_call (run_gb F hr hG I2.env0 (hb.to _ [] ws I2.kIn rfl n2) I2 (hb.rel (vs := []) (us := []) .nil rz) q2 fun _ _ z => z)
structure DfK (P : Program) (w : World) (K : PySem.W.Frag) (mg : Str → Option Value) (base : Heap) (x : Str) (k : Nat) (ks : List Str) (midD : List Sl → List Sl) (sp : SpD) : Prop where
  ex : ∃ f fd ps gf, ∃ mid : List V → List V, GnOk P w K mg base k f fd ps (lift K sp) ∧ mg x = some (.ref f) ∧ PySem.W.keepIn K (.ref f) = true ∧ KBn K fd ps 0 ks gf (fun vs zs => vs ++ mid zs) ∧ ∀ W bs zs, Args K W bs zs → Args K W (midD bs) (mid zs)
theorem ed_callK0 {ks : List Str} {midD : List Sl → List Sl} {sp : SpD} (F : DfK X.prog X.w X.K X.mg X.base x k ks midD sp) (hr : Room k X.A) (hG : X.A.guards = some (gOf X)) (h : KD X B S kws fun bs => bs.length = ks.length ∧ sp (midD bs) Q) (hg : Gl X x := by rfl)
    (hall : (backToKw pos (keywordEach kws X.env)).all (·.1.isSome) = true := by rfl) (hks : (backToKw pos (keywordEach kws X.env)).filterMap (·.1) = ks := by rfl) (hdb : (x == ("__debug__" : Str)) = false := by decide)
    (hpl : ((backTo pos (starEach [] X.env)).any (·.1) || (backToKw pos (keywordEach kws X.env)).any (·.1.isNone)) = false := by rfl) : ED X B S (.Call (.Name x p) [] kws pos) Q := fun σ W H r R c => by
  obtain ⟨f, fd, ps, gf, mid, F, hm, hk, hb, hc⟩ := F.ex
  refine we_callK0 F hr hG hg hm hk hb ?_ hall hks hdb hpl
  refine h σ W H r _ fun bs zs W1 H1 s1 ok1 n1 q1 => ?_
  obtain ⟨l, q1⟩ := q1
  exact ⟨by rw [← l]; exact (Paired.length n1).symm, midD bs, W1, Q, ok1, hc _ _ _ n1, q1, c.step s1 ok1⟩
/-! comprehensions with a test -/
/-- [elt for g in a tuple] -/
theorem fd_lcT {elt tg iter : Expr} {scope : Scope} {own : List (Str × Nat)} {g : TG} {l : List D} {Q : List D → Prop} (J : Nat → List D → Prop) (S' : D → En) (hc : X.calm = true) (hN : X.N.Nodup) (ok : BlkOk X.N X.env.scope scope own)
    (hg : ∀ (s : Shared) (H : Hp) (C : Addr) (cl : List (Str × Addr)) (fp : List Addr), PG (X.blk s H scope (compEnvC scope cl C X.env) fp) tg g)
    (h : ED X B S iter fun d => d = .tup l ∧ l.length ≤ 50000 ∧ J 0 []) (hp : ∀ d ∈ l, Pat X.K g (own.map (·.2)) S d (S' d))
    (he : ∀ (i : Nat) d acc, l[i]? = some d → acc.length = i → J i acc → ∀ (s : Shared) (H0 : Hp) (C : Addr) (cl : List (Str × Addr)) (fp : List Addr), ED (X.blk s H0 scope (compEnvC scope cl C X.env) fp) B (S' d) elt fun y => J (i + 1) (acc ++ [y]))
    (hd : ∀ acc, acc.length = l.length → J l.length acc → Q acc) (hs : ∀ x, foldedSetIterable iter X.env x = pure x := by intro _; rfl) : FD X B S (.ListComp elt [⟨tg, iter, [], 0⟩] scope pos) Q := fun σ W H r R k => by
  refine PE.w (pe_lc (te := WEb X scope elt) hc hN (pi_tup we_pe) ok hg (fun _ _ _ _ _ => pts_nil) web_pe hs) ?_
  refine h σ W H r _ fun d v W1 H1 s1 ok1 n1 q1 => ?_
  obtain ⟨rfl, hz, j0⟩ := q1
  cases n1 with
  | @tup _ a xs ha m =>
    refine ⟨a, rfl, ⟨xs, SqT.of (ok1.ex _ _ ha)⟩, fun p hp0 => ?_⟩
    have r1 := r.step s1 ok1
    refine lc_tup (K := X.K) (a := a) (xs := xs) (fun i H' => ∃ acc W', Mid X.K (gOf X) W1 H1 p acc W' H' ∧ acc.length = i ∧ J i acc) ⟨[], W1, ⟨Stp.own hp0, ok1.own hp0, ok1.notP hp0, ok1.free hp0, [], upd_same, .nil⟩, rfl, j0⟩
      (fun i H' _ ⟨acc, W', mm, _⟩ => SqT.of (mm.ok.ex _ _ (mm.st.I _ _ ha))) ?_ ?_
    · rintro i x H' hx ⟨acc, W', mm, hl, j⟩
      obtain ⟨d, hd', nd⟩ := m.get hx
      have r2 := r1.step mm.st mm.ok
      refine hp d (List.mem_of_getElem? hd') (gOf X) B σ W' H' x r2 (nd.mono mm.st.I) _ fun σ2 e2 r3 => ?_
      refine ⟨e2, ?_⟩
      show WEb X scope elt σ2 H' _
      intro s H0 C cl fp
      have lt : i < l.length := (List.getElem?_eq_some_iff.mp hd').1
      refine he i d acc hd' hl j s H0 C cl fp σ2 W' H' r3 _ fun y v W2 H2 s2 ok2 n2 q2 => ?_
      obtain ⟨xs', e1, e3, m3⟩ := (mm.step s2 ok2).more hp0 n2 (by omega)
      exact ⟨xs', e1, e3, _, W2, m3, by simp [hl], q2⟩
    · rintro H' ⟨acc, W', mm, hl, j⟩
      obtain ⟨ys, hH, ds⟩ := mm.h
      rw [← m.length] at hl j
      exact k acc p ys W' H' (s1.trans ok1 mm.st) mm.ok (s1.free ok1 hp0) mm.n mm.i hH ds (hd acc hl j)
end
end DL

set_option Elab.async false
set_option linter.all false
set_option maxRecDepth 100000
set_option maxHeartbeats 2000000
/-! zip of a list or a tuple with a list or a tuple, whichever each is -/
namespace ZX
open PySem PySem.Spec PyProof.Rows
/-- an iterator at `it` that goes through the items of what stands at `l` -/
structure Feed where
  it : Addr
  l : Addr
  xs : Array Value
  st : Nat → Heap → Prop
  src : Heap → Prop
  stE : ∀ {h h' : Heap} {b : Addr} {k : Nat}, st k h → Heap.ExtBut b h h' → it ≠ b → st k h'
  srcE : ∀ {h h' : Heap} {b : Addr}, src h → Heap.ExtBut b h h' → l ≠ b → src h'
  item : ∀ {p : Program} {w : World} {A : Around} {E : Value → Shared → Prop} {s : Shared} {k : Nat} {x : Value} {Q : Value → Shared → Prop}, st k s.heap → src s.heap → xs[k]? = some x →
    (∀ h', st (k + 1) h' → Heap.SameBut it s.heap h' → Q x { s with heap := h' }) → wpAny (model p w) A (Builtin.SmallTypes.nextOf (.ref it)) Q E s
  done : ∀ {p : Program} {w : World} {A : Around} {E : Value → Shared → Prop} {s : Shared} {k : Nat} {Q : Value → Shared → Prop}, A.handled = none → st k s.heap → src s.heap → xs[k]? = none →
    (∀ h' e, Heap.ExtBut it s.heap h' → (∃ o, h'.get? e = some o ∧ o.cls = .type "StopIteration") → E (.ref e) { s with heap := h' }) → wpAny (model p w) A (Builtin.SmallTypes.nextOf (.ref it)) Q E s
  obj : ∀ {h : Heap} {k : Nat}, st k h → ∃ o, h.get? it = some o ∧ ∀ v, o.data ≠ .cell v
  same : ∀ {h h' : Heap} {k : Nat}, st k h → (∀ o, h.get? it = some o → h'.get? it = some o) → st k h'
def feedL (it l : Addr) (xs : Array Value) : Feed where
  it := it
  l := l
  xs := xs
  st := fun k h => h.IsListIter it l k
  src := fun h => h.IsList l xs
  stE := fun a b c => a.extBut b c
  srcE := fun a b c => a.extBut b c
  item := fun a b c d => wpAny_nextOf_list_item a b c d
  done := fun a b c d e => wpAny_nextOf_list_end a b c d e
  obj := fun ⟨o, e, _, d⟩ => ⟨o, e, fun v q => by rw [d] at q; cases q⟩
  same := fun a b => a.at b
def feedT (it l : Addr) (xs : Array Value) : Feed where
  it := it
  l := l
  xs := xs
  st := fun k h => h.IsTupleIter it l k
  src := fun h => h.IsTuple l xs
  stE := fun a b c => a.extBut b c
  srcE := fun a b c => a.extBut b c
  item := fun a b c d => RZ.nextOf_tuple_item a b c d
  done := fun a b c d e => RZ.nextOf_tuple_end a b c d e
  obj := fun ⟨o, e, _, d⟩ => ⟨o, e, fun v q => by rw [d] at q; cases q⟩
  same := fun a b => a.at b
section
variable {p : Program} {w : World} {A : Around} {E : Value → Shared → Prop} {s : Shared} {M N : Feed} {z TI TO : Addr} {i j : Nat} {a b : Value}
/-- how the zip stands ahead of a turn -/
structure Stands (M N : Feed) (z TI TO : Addr) (i j : Nat) (h : Heap) : Prop where
  z : IsZip h z TI TO .none
  ti : IsPair h TI (.ref M.it) (.ref N.it)
  to : ∃ a b, IsPair h TO a b
  f : M.st i h
  g : N.st j h
theorem next_item {x y : Value} {Q : Value → Shared → Prop} (D : ZipApart z TI TO M.it N.it M.l N.l) (st : Stands M N z TI TO i j s.heap) (sf : M.src s.heap) (sg : N.src s.heap) (hx : M.xs[i]? = some x) (hy : N.xs[j]? = some y)
    (hQ : ∀ h', IsZip h' z TI TO (rawInt s.heap.objs.size) → IsPair h' TO x y → M.st (i + 1) h' → N.st (j + 1) h' → IsPair h' s.heap.objs.size x y → h'.objs.size = s.heap.objs.size + 1 →
      (∀ c o, c ≠ z → c ≠ TO → c ≠ M.it → c ≠ N.it → s.heap.get? c = some o → h'.get? c = some o) → Q (.ref s.heap.objs.size) { s with heap := h' }) :
    wpAny (model p w) A (Builtin.«zip.__next__» ⟨[.ref z], []⟩) (fun fin s' => ∃ v, fin = .done (.ret v) ∧ Q v s') E s := by
  obtain ⟨hz, hTI, ⟨a, b, hTO⟩, f0, g0⟩ := st
  show wpAny _ _ (field (.ref z) 2 >>= _) _ _ _
  refine wpAny_bind (wpAny_field hz rfl (x := .bool false) rfl ?_); show wpAny _ _ (field (.ref z) 3 >>= _) _ _ _
  refine wpAny_bind (wpAny_field hz rfl (x := .ref TI) rfl ?_); refine wpAny_bind (wpAny_seqItems hTI rfl ?_)
  show wpAny _ _ (Builtin.SmallTypes.ownedTupleIsFree (.ref z) >>= _) _ _ _
  refine wpAny_bind ?_; unfold Builtin.SmallTypes.ownedTupleIsFree
  refine wpAny_bind (wpAny_field hz rfl (x := .none) rfl (wpAny_pure ?_)); simp only [if_true]
  refine wpAny_bind (wpAny_rule ?_); refine wpAny_bind (wpAny_field hz rfl (x := .ref TO) rfl ?_)
  refine wpAny_bind (wpAny_setField_rec hz (by simp) fun m1 z1 e1 => ?_)
  have z1' : IsZip m1 z TI TO .ellipsis := z1
  refine wpAny_bind ?_; simp only [List.zipIdx_cons, List.zipIdx_nil, List.forIn_cons, List.forIn_nil]
  have x1 := e1.extBut
  refine wpAny_bind (wpAny_bind (wpAny_onRaise ?_)); show wpAny _ _ (Builtin.SmallTypes.nextOf (.ref M.it) >>= _) _ _ _
  refine wpAny_bind (M.item (M.stE f0 x1 D.i1z) (M.srcE sf x1 D.l1z) hx fun m2 f2 e2 => wpAny_pure ?_)
  have x2 := e2.extBut
  have t2 : IsPair m2 TO a b := x2 _ _ D.TOi1 (x1 _ _ D.TOz hTO)
  refine wpAny_bind (wpAny_seqItems t2 rfl ?_); refine wpAny_bind (wpAny_updateSeq_pair t2 fun m3 t3 e3 => ?_)
  have x3 := e3.extBut
  have t3' : IsPair m3 TO x b := t3
  refine wpAny_bind (wpAny_letGo (wpAny_pure ?_)); refine wpAny_bind (wpAny_bind (wpAny_onRaise ?_))
  show wpAny _ _ (Builtin.SmallTypes.nextOf (.ref N.it) >>= _) _ _ _
  refine wpAny_bind (N.item (N.stE (N.stE (N.stE g0 x1 D.i2z) x2 D.i12.symm) x3 D.TOi2.symm) (N.srcE (N.srcE (N.srcE sg x1 D.l2z) x2 D.l2i1) x3 D.l2TO) hy fun m4 g4 e4 => wpAny_pure ?_)
  have x4 := e4.extBut
  have t4 : IsPair m4 TO x b := x4 _ _ D.TOi2 t3'
  refine wpAny_bind (wpAny_seqItems t4 rfl ?_); refine wpAny_bind (wpAny_updateSeq_pair t4 fun m5 t5 e5 => ?_)
  have x5 := e5.extBut
  have t5' : IsPair m5 TO x y := t5
  refine wpAny_bind (wpAny_letGo (wpAny_pure (wpAny_pure ?_))); refine wpAny_bind (wpAny_seqItems t5' rfl ?_)
  refine wpAny_bind (wpAny_newTuple ?_)
  have size5 : m5.objs.size = s.heap.objs.size := by rw [e5.1, e4.1, e3.1, e2.1, e1.1]
  have z5 : IsZip m5 z TI TO .ellipsis := x5 _ _ D.TOz.symm (x4 _ _ D.i2z.symm (x3 _ _ D.TOz.symm (x2 _ _ D.i1z.symm z1')))
  have old5 : ∀ c o, c ≠ z → c ≠ TO → c ≠ M.it → c ≠ N.it → s.heap.get? c = some o → m5.get? c = some o := fun c o n1 n2 n3 n4 e => x5 _ _ n2 (x4 _ _ n4 (x3 _ _ n2 (x2 _ _ n3 (x1 _ _ n1 e))))
  have f5 : M.st (i + 1) m5 := M.stE (M.stE (M.stE f2 x3 D.TOi1.symm) x4 D.i12) x5 D.TOi1.symm
  have g5 : N.st (j + 1) m5 := N.stE g4 x5 D.TOi2.symm
  have zlt : z < m5.objs.size := Heap.lt_size z5
  show wpAny _ _ (Builtin.SmallTypes.ownedTupleHandOut (.ref z) (.ref m5.objs.size) >>= _) _ _ _
  refine wpAny_bind ?_; unfold Builtin.SmallTypes.ownedTupleHandOut
  have z6 : IsZip (m5.push { cls := .type "tuple", data := .seq #[x, y] }) z TI TO .ellipsis := Heap.get?_push_of_some _ z5
  refine wpAny_bind (wpAny_setField_rec z6 (by simp) fun m7 z7 e7 => ?_)
  have z7' : IsZip m7 z TI TO (rawInt m5.objs.size) := z7
  refine wpAny_setField_rec z7' (by simp) fun m8 z8 e8 => ?_
  have z8' : IsZip m8 z TI TO (rawInt m5.objs.size) := z8
  have up : ∀ c o, c ≠ z → m5.get? c = some o → m8.get? c = some o := fun c o n e => e8.extBut _ _ n (e7.extBut _ _ n (Heap.get?_push_of_some _ e))
  have nz : m5.objs.size ≠ z := Nat.ne_of_gt zlt
  have T8 : IsPair m8 m5.objs.size x y := e8.extBut _ _ nz (e7.extBut _ _ nz (Heap.get?_push_size _ rfl))
  have size8 : m8.objs.size = m5.objs.size + 1 := by rw [e8.1, e7.1, Heap.size_push]
  rw [size5] at z8' T8 size8
  refine wpAny_pure ⟨_, rfl, ?_⟩
  show Q (.ref m5.objs.size) _
  rw [size5]
  exact hQ m8 z8' (up _ _ D.TOz t5') (M.same f5 fun o e => up _ o D.i1z e) (N.same g5 fun o e => up _ o D.i2z e) T8 size8 fun c o n1 n2 n3 n4 e => up c o n1 (old5 c o n1 n2 n3 n4 e)
theorem next_end {Q : Fin → Shared → Prop} (hh : A.handled = none) (D : ZipApart z TI TO M.it N.it M.l N.l) (st : Stands M N z TI TO i j s.heap) (sf : M.src s.heap) (sg : N.src s.heap) (hend : M.xs[i]? = none ∨ N.xs[j]? = none)
    (hE : ∀ h' e, (∀ c o, c ≠ z → c ≠ TO → c ≠ M.it → c ≠ N.it → s.heap.get? c = some o → h'.get? c = some o) → (∃ o, h'.get? e = some o ∧ o.cls = .type "StopIteration") → E (.ref e) { s with heap := h' }) :
    wpAny (model p w) A (Builtin.«zip.__next__» ⟨[.ref z], []⟩) Q E s := by
  obtain ⟨hz, hTI, ⟨a, b, hTO⟩, f0, g0⟩ := st
  show wpAny _ _ (field (.ref z) 2 >>= _) _ _ _
  refine wpAny_bind (wpAny_field hz rfl (x := .bool false) rfl ?_); show wpAny _ _ (field (.ref z) 3 >>= _) _ _ _
  refine wpAny_bind (wpAny_field hz rfl (x := .ref TI) rfl ?_); refine wpAny_bind (wpAny_seqItems hTI rfl ?_)
  show wpAny _ _ (Builtin.SmallTypes.ownedTupleIsFree (.ref z) >>= _) _ _ _
  refine wpAny_bind ?_; unfold Builtin.SmallTypes.ownedTupleIsFree
  refine wpAny_bind (wpAny_field hz rfl (x := .none) rfl (wpAny_pure ?_)); simp only [if_true]
  refine wpAny_bind (wpAny_rule ?_); refine wpAny_bind (wpAny_field hz rfl (x := .ref TO) rfl ?_)
  refine wpAny_bind (wpAny_setField_rec hz (by simp) fun m1 z1 e1 => ?_)
  have z1' : IsZip m1 z TI TO .ellipsis := z1
  refine wpAny_bind ?_; simp only [List.zipIdx_cons, List.zipIdx_nil, List.forIn_cons, List.forIn_nil]
  have x1 := e1.extBut
  refine wpAny_bind (wpAny_bind (wpAny_onRaise ?_)); show wpAny _ _ (Builtin.SmallTypes.nextOf (.ref M.it) >>= _) _ _ _
  cases hx : M.xs[i]? with
  | none =>
    refine wpAny_bind (M.done hh (M.stE f0 x1 D.i1z) (M.srcE sf x1 D.l1z) hx fun m2 e x2 he => ?_)
    obtain ⟨oe, h1, h2⟩ := he
    have z2 : IsZip m2 z TI TO .ellipsis := x2 _ _ D.i1z.symm z1'
    have ez : e ≠ z := fun q => by rw [q, z2] at h1; cases h1; simp at h2
    exact wpAny_setField_rec z2 (by simp) fun m3 _ e3 => hE m3 e (fun c o n1 _ n3 _ q => e3.extBut _ _ n1 (x2 _ _ n3 (x1 _ _ n1 q))) ⟨oe, e3.extBut _ _ ez h1, h2⟩
  | some x =>
    have hy : N.xs[j]? = none := by rcases hend with h | h; rw [hx] at h; cases h; exact h
    refine wpAny_bind (M.item (M.stE f0 x1 D.i1z) (M.srcE sf x1 D.l1z) hx fun m2 f2 e2 => wpAny_pure ?_)
    have x2 := e2.extBut
    have t2 : IsPair m2 TO a b := x2 _ _ D.TOi1 (x1 _ _ D.TOz hTO)
    refine wpAny_bind (wpAny_seqItems t2 rfl ?_); refine wpAny_bind (wpAny_updateSeq_pair t2 fun m3 t3 e3 => ?_)
    have x3 := e3.extBut
    refine wpAny_bind (wpAny_letGo (wpAny_pure ?_)); refine wpAny_bind (wpAny_bind (wpAny_onRaise ?_))
    show wpAny _ _ (Builtin.SmallTypes.nextOf (.ref N.it) >>= _) _ _ _
    refine wpAny_bind (N.done hh (N.stE (N.stE (N.stE g0 x1 D.i2z) x2 D.i12.symm) x3 D.TOi2.symm) (N.srcE (N.srcE (N.srcE sg x1 D.l2z) x2 D.l2i1) x3 D.l2TO) hy fun m4 e x4 he => ?_)
    obtain ⟨oe, h1, h2⟩ := he
    have z4 : IsZip m4 z TI TO .ellipsis := x4 _ _ D.i2z.symm (x3 _ _ D.TOz.symm (x2 _ _ D.i1z.symm z1'))
    have ez : e ≠ z := fun q => by rw [q, z4] at h1; cases h1; simp at h2
    exact wpAny_setField_rec z4 (by simp) fun m5 _ e5 => hE m5 e (fun c o n1 n2 n3 n4 q => e5.extBut _ _ n1 (x4 _ _ n4 (x3 _ _ n2 (x2 _ _ n3 (x1 _ _ n1 q))))) ⟨oe, e5.extBut _ _ ez h1, h2⟩
end
end ZX
namespace ZX
open PySem PySem.Spec PyProof.Rows
/-- t: a tuple, else a list -/
def Stand : Bool → Heap → Addr → Array Value → Prop
  | true => fun h l xs => h.IsTuple l xs
  | false => fun h l xs => h.IsList l xs
def feed (t : Bool) (it l : Addr) (xs : Array Value) : Feed := match t with
  | true => feedT it l xs
  | false => feedL it l xs
theorem feed_it {t : Bool} {it l : Addr} {xs : Array Value} : (feed t it l xs).it = it := by cases t <;> rfl
theorem feed_l {t : Bool} {it l : Addr} {xs : Array Value} : (feed t it l xs).l = l := by cases t <;> rfl
theorem feed_xs {t : Bool} {it l : Addr} {xs : Array Value} : (feed t it l xs).xs = xs := by cases t <;> rfl
theorem feed_src {t : Bool} {it l : Addr} {xs : Array Value} {h : Heap} (e : Stand t h l xs) : (feed t it l xs).src h := by cases t <;> exact e
abbrev io (t : Bool) (l : Addr) : Obj := { cls := .type (match t with | true => "tuple_iterator" | false => "list_iterator"), data := .fields #[.ref l, .int 0 0] }
theorem feed_new {t : Bool} {it l : Addr} {xs : Array Value} {h : Heap} (e : h.get? it = some (io t l)) : (feed t it l xs).st 0 h := by cases t <;> exact ⟨_, e, rfl, rfl⟩
abbrev n1 (t1 : Bool) (h : Heap) (l1 : Addr) : Heap := h.push (io t1 l1)
abbrev n2 (t1 t2 : Bool) (h : Heap) (l1 l2 : Addr) : Heap := (n1 t1 h l1).push (io t2 l2)
abbrev n3 (t1 t2 : Bool) (h : Heap) (l1 l2 : Addr) : Heap := (n2 t1 t2 h l1 l2).push { cls := .type "tuple", data := .seq #[.ref h.objs.size, .ref (n1 t1 h l1).objs.size] }
abbrev n4 (t1 t2 : Bool) (h : Heap) (l1 l2 : Addr) : Heap := (n3 t1 t2 h l1 l2).push { cls := .type "tuple", data := .seq #[.none, .none] }
abbrev n5 (t1 t2 : Bool) (h : Heap) (l1 l2 : Addr) : Heap := (n4 t1 t2 h l1 l2).push { cls := .type "zip", data := .fields #[.none, .bool false, .bool false, .ref (n2 t1 t2 h l1 l2).objs.size, .ref (n3 t1 t2 h l1 l2).objs.size] }
theorem new_tf (l1 l2 : Addr) (xs ys : Array Value) : Meets (Builtin.«zip.__new__» ⟨[.type "zip", .ref l1, .ref l2], []⟩) (fun _ R s => s.heap.IsTuple l1 xs ∧ s.heap.IsList l2 ys ∧ R (.ok (.ret (.ref (n4 true false s.heap l1 l2).objs.size))) { s with heap := n5 true false s.heap l1 l2 }) :=
  .of_wp fun prog w A R s h => by
    obtain ⟨hp, g, d, tk, os⟩ := s; obtain ⟨a1, a2, h⟩ := h; have hsub := sub_zip
    have b1 : (Shared.heap ⟨hp, g, d, tk, os⟩).IsTuple l1 xs := a1
    have b2 : (Shared.heap ⟨hp.push (io true l1), g, d, tk, os⟩).IsList l2 ys := Heap.IsList.push a2 _
    wp_walk using wpAny_pyIter_tuple b1, wpAny_pyIter_list b2
    exact ⟨_, rfl, h⟩
theorem new_ft (l1 l2 : Addr) (xs ys : Array Value) : Meets (Builtin.«zip.__new__» ⟨[.type "zip", .ref l1, .ref l2], []⟩) (fun _ R s => s.heap.IsList l1 xs ∧ s.heap.IsTuple l2 ys ∧ R (.ok (.ret (.ref (n4 false true s.heap l1 l2).objs.size))) { s with heap := n5 false true s.heap l1 l2 }) :=
  .of_wp fun prog w A R s h => by
    obtain ⟨hp, g, d, tk, os⟩ := s; obtain ⟨a1, a2, h⟩ := h; have hsub := sub_zip
    have b1 : (Shared.heap ⟨hp, g, d, tk, os⟩).IsList l1 xs := a1
    have b2 : (Shared.heap ⟨hp.push (io false l1), g, d, tk, os⟩).IsTuple l2 ys := Heap.IsTuple.push a2 _
    wp_walk using wpAny_pyIter_list b1, wpAny_pyIter_tuple b2
    exact ⟨_, rfl, h⟩
theorem new_any (t1 t2 : Bool) (l1 l2 : Addr) (xs ys : Array Value) : Meets (Builtin.«zip.__new__» ⟨[.type "zip", .ref l1, .ref l2], []⟩) (fun _ R s => Stand t1 s.heap l1 xs ∧ Stand t2 s.heap l2 ys ∧ R (.ok (.ret (.ref (n4 t1 t2 s.heap l1 l2).objs.size))) { s with heap := n5 t1 t2 s.heap l1 l2 }) := by
  cases t1 <;> cases t2
  · exact meets_zip_new l1 l2 xs ys
  · exact new_ft l1 l2 xs ys
  · exact new_tf l1 l2 xs ys
  · exact RZ.meets_zipT_new l1 l2 xs ys
section
variable {p : Program} {w : World} {A : Around} {E : Value → Shared → Prop} {s : Shared} {M N : Feed} {z TI TO : Addr} {i j : Nat} {a b : Value}
theorem zip_new {t1 t2 : Bool} {l1 l2 : Addr} {xs ys : Array Value} {Q : Value → Shared → Prop} (h1 : Stand t1 s.heap l1 xs) (h2 : Stand t2 s.heap l2 ys)
    (h : ∀ h', Stands (feed t1 s.heap.objs.size l1 xs) (feed t2 (s.heap.objs.size + 1) l2 ys) (s.heap.objs.size + 4) (s.heap.objs.size + 2) (s.heap.objs.size + 3) 0 0 h' → (∀ c o, s.heap.get? c = some o → h'.get? c = some o) → Q (.ref (s.heap.objs.size + 4)) { s with heap := h' }) :
    wpAny (model p w) A (call (.type "zip") [.ref l1, .ref l2]) Q E s := by
  refine callType_new F.called_zip (by decide) (F.typeCall_zip_2 _ _) (F.newCall_zip_2 _ _) (fun obj => F.args_object_init_3 obj _ _) F.entry_zip_new (new_any t1 t2 l1 l2 xs ys) ⟨h1, h2, ?_⟩
  have c1 : (n1 t1 s.heap l1).objs.size = s.heap.objs.size + 1 := Heap.size_push ..
  have c2 : (n2 t1 t2 s.heap l1 l2).objs.size = s.heap.objs.size + 2 := by rw [Heap.size_push, c1]
  have c3 : (n3 t1 t2 s.heap l1 l2).objs.size = s.heap.objs.size + 3 := by rw [Heap.size_push, c2]
  have c4 : (n4 t1 t2 s.heap l1 l2).objs.size = s.heap.objs.size + 4 := by rw [Heap.size_push, c3]
  have e5 : (n5 t1 t2 s.heap l1 l2).get? (n4 t1 t2 s.heap l1 l2).objs.size = some _ := Heap.get?_push_size _ rfl
  have e4 : (n5 t1 t2 s.heap l1 l2).get? (n3 t1 t2 s.heap l1 l2).objs.size = some _ := Heap.get?_push_of_some _ (Heap.get?_push_size _ rfl)
  have e3 : (n5 t1 t2 s.heap l1 l2).get? (n2 t1 t2 s.heap l1 l2).objs.size = some _ := Heap.get?_push_of_some _ (Heap.get?_push_of_some _ (Heap.get?_push_size _ rfl))
  have e2 : (n5 t1 t2 s.heap l1 l2).get? (n1 t1 s.heap l1).objs.size = some _ := Heap.get?_push_of_some _ (Heap.get?_push_of_some _ (Heap.get?_push_of_some _ (Heap.get?_push_size _ rfl)))
  have e1 : (n5 t1 t2 s.heap l1 l2).get? s.heap.objs.size = some _ := Heap.get?_push_of_some _ (Heap.get?_push_of_some _ (Heap.get?_push_of_some _ (Heap.get?_push_of_some _ (Heap.get?_push_size _ rfl))))
  show _ ∧ _
  rw [c2, c3, c4] at e5; rw [c1, c2] at e3; rw [c3] at e4; rw [c1] at e2; rw [c4]
  refine ⟨⟨_, e5, rfl⟩, h _ ⟨e5, by rw [feed_it, feed_it]; exact e3, ⟨_, _, e4⟩, feed_new e1, feed_new e2⟩ fun c o x => ?_⟩
  exact Heap.get?_push_of_some _ (Heap.get?_push_of_some _ (Heap.get?_push_of_some _ (Heap.get?_push_of_some _ (Heap.get?_push_of_some _ x))))
theorem turn_item {x y : Value} {Q : Option Value → Shared → Prop} (D : ZipApart z TI TO M.it N.it M.l N.l) (st : Stands M N z TI TO i j s.heap) (sf : M.src s.heap) (sg : N.src s.heap) (hx : M.xs[i]? = some x) (hy : N.xs[j]? = some y)
    (hQ : ∀ h', IsZip h' z TI TO (rawInt s.heap.objs.size) → IsPair h' TO x y → M.st (i + 1) h' → N.st (j + 1) h' → IsPair h' s.heap.objs.size x y → h'.objs.size = s.heap.objs.size + 1 →
      (∀ c o, c ≠ z → c ≠ TO → c ≠ M.it → c ≠ N.it → s.heap.get? c = some o → h'.get? c = some o) → Q (some (.ref s.heap.objs.size)) { s with heap := h' }) : wpAny (model p w) A (pyNext (.ref z)) Q E s := by
  have ty : s.TypeIs (.ref z) "zip" := ⟨_, st.z, rfl⟩
  unfold pyNext
  refine wpAny_bind (wpAny_attempt (wpAny_callSpecial?_slot (name := Str.ofString "__next__") ty F.slot_zip_next (wpAny_call_entry F.slot_zip_next ty F.entry_zip_next ?_ (F.args_zip_next_1 _))))
  exact next_item D st sf sg hx hy fun h' a1 a2 a3 a4 a5 a6 a7 => wpAny_pure (hQ h' a1 a2 a3 a4 a5 a6 a7)
theorem turn_end {Q : Option Value → Shared → Prop} (hh : A.handled = none) (D : ZipApart z TI TO M.it N.it M.l N.l) (st : Stands M N z TI TO i j s.heap) (sf : M.src s.heap) (sg : N.src s.heap) (hend : M.xs[i]? = none ∨ N.xs[j]? = none)
    (hQ : ∀ h', (∀ c o, c ≠ z → c ≠ TO → c ≠ M.it → c ≠ N.it → s.heap.get? c = some o → h'.get? c = some o) → Q none { s with heap := h' }) : wpAny (model p w) A (pyNext (.ref z)) Q E s := by
  have ty : s.TypeIs (.ref z) "zip" := ⟨_, st.z, rfl⟩
  unfold pyNext
  refine wpAny_bind (wpAny_attempt (wpAny_callSpecial?_slot (name := Str.ofString "__next__") ty F.slot_zip_next (wpAny_call_entry F.slot_zip_next ty F.entry_zip_next (next_end hh D st sf sg hend fun h' e k he => ?_) (F.args_zip_next_1 _))))
  obtain ⟨o, h1, h2⟩ := he
  exact wpAny_bind (wpAny_isInstance (T := "StopIteration") (b := true) ⟨o, h1, h2⟩ isSubtype_stop (wpAny_pure (hQ _ k)))
end
end ZX

set_option Elab.async false
set_option linter.all false
set_option maxRecDepth 100000
set_option maxHeartbeats 4000000
/-! comprehensions over zip -/
namespace DL
open PySem PySem.Spec PyProof.Rows L2 ZX
/-- t: a tuple, else a list -/
def SqB (K : PySem.W.Frag) : Bool → Hp → Addr → List V → Prop
  | true => fun H a xs => SqT K H a xs
  | false => fun H a xs => SqL K H a xs
theorem SqB.stand {X : Cx} {pins : List (Addr × Obj)} {σ : L2.St} {H : Hp} {s : Shared} {t : Bool} {a : Addr} {xs : List V} (I : Inv X pins σ H s) (h : SqB X.K t H a xs) : ∃ its : List Value, Vals xs its ∧ Stand t s.heap a its.toArray := by
  cases t with
  | true =>
    obtain ⟨its, rv, q, _⟩ := I.tuple h
    exact ⟨its, rv, q⟩
  | false =>
    obtain ⟨its, rv, q, _⟩ := I.list h
    exact ⟨its, rv, q.isList⟩
theorem SqB.inj {X : Cx} {pins : List (Addr × Obj)} {σ : L2.St} {H : Hp} {s : Shared} {t : Bool} {a : Addr} {xs ys : List V} (I : Inv X pins σ H s) (h : SqB X.K t H a xs) (h' : SqB X.K t H a ys) : xs = ys := by
  cases t with
  | true => exact I.tuple_inj h h'
  | false => exact I.list_inj h h'
theorem stand_lt {t : Bool} {h : Heap} {a : Addr} {xs : Array Value} (e : Stand t h a xs) : a < h.objs.size := by
  cases t <;> obtain ⟨o, e, _⟩ := e <;> exact Heap.lt_size e
/-- the two sequences as they stand at each turn, the items in new pairs -/
def Itm (K : PySem.W.Frag) (t u : Bool) (a b : Addr) : It where
  go := fun i H => ∃ (xs ys : List V) (x y : V), SqB K t H a xs ∧ SqB K u H b ys ∧ xs[i]? = some x ∧ ys[i]? = some y
  yld := fun i H v H' => ∃ T x y, v = .ref T ∧ H T = none ∧ H' = upd H T (.tup [x, y]) ∧ (∀ xs, SqB K t H a xs → xs[i]? = some x) ∧ ∀ ys, SqB K u H b ys → ys[i]? = some y
  stop := fun i H => ∃ xs ys : List V, SqB K t H a xs ∧ SqB K u H b ys ∧ (xs.length ≤ i ∨ ys.length ≤ i)
/-- the iterators go through a, b, whatever these hold -/
def Goes (t u : Bool) (i1 i2 a b z TI TO : Addr) (i : Nat) (h : Heap) : Prop := Stands (feed t i1 a #[]) (feed u i2 b #[]) z TI TO i i h
theorem feed_st {t : Bool} {it l : Addr} {xs ys : Array Value} {k : Nat} {h : Heap} : (feed t it l xs).st k h ↔ (feed t it l ys).st k h := by cases t <;> exact Iff.rfl
theorem stands_of {t u : Bool} {i1 i2 a b z TI TO : Addr} {i : Nat} {h : Heap} {xs ys xs' ys' : Array Value} (s : Stands (feed t i1 a xs) (feed u i2 b ys) z TI TO i i h) : Stands (feed t i1 a xs') (feed u i2 b ys') z TI TO i i h :=
  ⟨s.z, by have q := s.ti; rw [feed_it, feed_it] at q ⊢; exact q, s.to, feed_st.mp s.f, feed_st.mp s.g⟩
theorem apart_of {t u : Bool} {i1 i2 a b z TI TO : Addr} {xs ys : Array Value} (D : ZipApart z TI TO i1 i2 a b) : ZipApart z TI TO (feed t i1 a xs).it (feed u i2 b ys).it (feed t i1 a xs).l (feed u i2 b ys).l := by
  rw [feed_it, feed_it, feed_l, feed_l]
  exact D
theorem turn_m {P : Program} {w : World} {K : PySem.W.Frag} {elts : List Expr} {kk : Nat} {tpos : Pos} {t u : Bool} {a b z TI TO i1 i2 : Addr} (D : ZipApart z TI TO i1 i2 a b) : Turn P w K (.Tuple elts kk tpos) (Itm K t u a b) [z, TI, TO, i1, i2] z (Goes t u i1 i2 a b z TI TO) where
  mem := by simp
  obj := fun i h st c hc => by
    obtain ⟨x, y, hTO⟩ := st.to
    have e' : c = z ∨ c = TI ∨ c = TO ∨ c = i1 ∨ c = i2 := by simpa using hc
    rcases e' with q | q | q | q | q
    · subst q; exact ⟨_, st.z, fun v q => nomatch q⟩
    · subst q; exact ⟨_, st.ti, fun v q => nomatch q⟩
    · subst q; exact ⟨_, hTO, fun v q => nomatch q⟩
    · subst q; have r := (feed t c a #[]).obj st.f; rw [feed_it] at r; exact r
    · subst q; have r := (feed u c b #[]).obj st.g; rw [feed_it] at r; exact r
  keep := fun i h h' st k => by
    obtain ⟨x, y, hTO⟩ := st.to
    refine ⟨k z (by simp) _ st.z, k TI (by simp) _ st.ti, ⟨x, y, k TO (by simp) _ hTO⟩, (feed t i1 a #[]).same st.f fun o q => ?_, (feed u i2 b #[]).same st.g fun o q => ?_⟩
    · rw [feed_it] at q ⊢; exact k i1 (by simp) o q
    · rw [feed_it] at q ⊢; exact k i2 (by simp) o q
  item := by
    intro X hP hw hK hc i pins s σ H E I hf st hg
    subst hP hw hK
    obtain ⟨xs, ys, x, y, qx, qy, hx, hy⟩ := hg
    obtain ⟨m1, r1, p1⟩ := qx.stand I
    obtain ⟨m2, r2, p2⟩ := qy.stand I
    obtain ⟨v1, e1, rv1⟩ := r1.get hx
    obtain ⟨v2, e2, rv2⟩ := r2.get hy
    have st' : Stands (feed t i1 a m1.toArray) (feed u i2 b m2.toArray) z TI TO i i s.heap := stands_of st
    have zlt : z < s.heap.objs.size := Heap.lt_size st.z
    refine turn_item (apart_of D) st' (feed_src p1) (feed_src p2) (x := v1) (y := v2) (by rw [feed_xs]; simpa using e1) (by rw [feed_xs]; simpa using e2) fun h' z' t' f' g' T' size' keep => ?_
    rw [feed_it, feed_it] at keep
    refine ⟨_, rfl, wpAny_letOwnedTupleGo_zip (s := { s with heap := h' }) z' fun h'' z'' sb => ?_⟩
    have T2 : h''.get? s.heap.objs.size = some { cls := .type "tuple", data := .seq #[v1, v2] } := (sb.2 _ (Nat.ne_of_gt zlt)).trans T'
    have new : ObjOk X.prog X.w (upd H s.heap.objs.size (.tup [x, y])) h'' s.heap.objs.size (.tup [x, y]) := ⟨by show 2 ≤ sizeLine; decide, [v1, v2], .cons rv1 (.cons rv2 .nil), ⟨_, T2, rfl, _, rfl⟩⟩
    have far : ∀ c, c ∉ [z, TI, TO, i1, i2] → c ≠ z ∧ c ≠ TO ∧ c ≠ i1 ∧ c ≠ i2 := fun c hb => ⟨fun q => hb (by simp [q]), fun q => hb (by simp [q]), fun q => hb (by simp [q]), fun q => hb (by simp [q])⟩
    have I1 : Inv X pins σ (upd H s.heap.objs.size (.tup [x, y])) { s with heap := h'' } :=
      I.turnedNew (t' := s.toks) (ch := [z, TI, TO, i1, i2]) (fun c o hb q => let ⟨q1, q2, q3, q4⟩ := far c hb; (sb.2 c q1).trans (keep c o q1 q2 q3 q4 q)) hf (Nat.le_refl _) new
    refine ⟨.ref s.heap.objs.size, _, I1, rfl, ⟨_, x, y, rfl, I.hok.fresh (Nat.le_refl _), rfl, fun l hl => by rw [hl.inj I qx]; exact hx, fun l hl => by rw [hl.inj I qy]; exact hy⟩, ⟨z'', ?_, ⟨v1, v2, ?_⟩, ?_, ?_⟩, fun c hcm => ?_⟩
    · have e := keep _ _ D.TIz D.TITO D.TIi1 D.TIi2 st.ti
      exact (sb.2 _ D.TIz).trans e
    · exact (sb.2 _ D.TOz).trans t'
    · refine feed_st.mp ((feed t i1 a m1.toArray).same f' fun o q => ?_)
      rw [feed_it] at q ⊢
      exact (sb.2 _ D.i1z).trans q
    · refine feed_st.mp ((feed u i2 b m2.toArray).same g' fun o q => ?_)
      rw [feed_it] at q ⊢
      exact (sb.2 _ D.i2z).trans q
    · have lt : c < s.heap.objs.size := by
        have e' : c = z ∨ c = TI ∨ c = TO ∨ c = i1 ∨ c = i2 := by simpa using hcm
        rcases e' with q | q | q | q | q
        · rw [q]; exact zlt
        · rw [q]; exact Heap.lt_size st.ti
        · obtain ⟨_, _, e⟩ := st.to; rw [q]; exact Heap.lt_size e
        · obtain ⟨_, e, _⟩ := (feed t i1 a #[]).obj st.f; rw [feed_it] at e; rw [q]; exact Heap.lt_size e
        · obtain ⟨_, e, _⟩ := (feed u i2 b #[]).obj st.g; rw [feed_it] at e; rw [q]; exact Heap.lt_size e
      rw [upd_ne (Nat.ne_of_lt lt)]
      exact (hf c hcm).1
  done := by
    intro X hP hw hK hc i pins s σ H E I hf st hg
    subst hP hw hK
    obtain ⟨xs, ys, qx, qy, hend⟩ := hg
    obtain ⟨m1, r1, p1⟩ := qx.stand I
    obtain ⟨m2, r2, p2⟩ := qy.stand I
    have l1 := r1.length
    have l2 := r2.length
    have st' : Stands (feed t i1 a m1.toArray) (feed u i2 b m2.toArray) z TI TO i i s.heap := stands_of st
    refine turn_end (I.ok.hd hc) (apart_of D) st' (feed_src p1) (feed_src p2) ?_ fun h' keep => ?_
    · rw [feed_xs, feed_xs]
      rcases hend with q | q
      · exact .inl (by simp; omega)
      · exact .inr (by simp; omega)
    · rw [feed_it, feed_it] at keep
      exact ⟨rfl, I.turnedL (t' := s.toks) (ch := [z, TI, TO, i1, i2]) (fun c o hb q => keep c o (fun q' => hb (by simp [q'])) (fun q' => hb (by simp [q'])) (fun q' => hb (by simp [q'])) (fun q' => hb (by simp [q'])) q) hf⟩
  self := fun A i s Q E st h => wpAny_pyIter_zip st.z h
def iZm (K : PySem.W.Frag) (ta : TA) : TI := fun σ H R => ta σ H fun vs H1 => ∃ t u a b xs ys, vs = [.ref a, .ref b] ∧ SqB K t H1 a xs ∧ SqB K u H1 b ys ∧ R (Itm K t u a b) H1
theorem pi_zm {X : Cx} {e e2 : Expr} {ta : TA} {p pos tpos : Pos} {elts : List Expr} {kk : Nat} (hg : Gl X "zip") (hm : X.mg "zip" = none) (ha : PA X [e, e2] ta)
    (hs : starEach [e, e2] X.env = (false, eval e X.env) :: starEach [e2] X.env) (hpl : (backTo pos (starEach [e2] X.env)).any (·.1) = false) : PI X (.Tuple elts kk tpos) (.Call (.Name "zip" p) [e, e2] [] pos) (iZm X.K ta) := by
  refine ⟨fun pins s σ H R I h => Call_ (ld_blt I hg hm PyProof.Rows.boot_zip (PyProof.Rows.callWith_type1 (thn (ha.run pos pins s σ H _ I h) fun us s1 ⟨vs, H1, I1, rv, q1⟩ => ?_) hs hpl))⟩
  obtain ⟨t, u, a, b, xs, ys, rfl, qx, qy, q⟩ := q1
  obtain ⟨v1, v2, rfl, r1, r2⟩ := (show ∃ v1 v2, us = [v1, v2] ∧ RelV (.ref a) v1 ∧ RelV (.ref b) v2 from by
    cases rv with
    | cons r rr => cases rr with
      | cons r' rr => cases rr; exact ⟨_, _, rfl, r, r'⟩)
  cases r1
  cases r2
  obtain ⟨m1, w1, p1⟩ := qx.stand I1
  obtain ⟨m2, w2, p2⟩ := qy.stand I1
  refine zip_new p1 p2 fun h' st hk => wpAny_pyIter_zip st.z ?_
  have I2 : Inv X pins σ H1 { s1 with heap := h' } := I1.kept (t' := s1.toks) hk
  refine ⟨s1.heap.objs.size + 4, [s1.heap.objs.size + 4, s1.heap.objs.size + 2, s1.heap.objs.size + 3, s1.heap.objs.size, s1.heap.objs.size + 1], _, _, H1, rfl, I2, turn_m (PySem.W.ktu_apart s1.heap.objs.size a b (stand_lt p1) (stand_lt p2)), stands_of st, fun c hc => ?_, q⟩
  have le : s1.heap.objs.size ≤ c := by
    have e' : c = s1.heap.objs.size + 4 ∨ c = s1.heap.objs.size + 2 ∨ c = s1.heap.objs.size + 3 ∨ c = s1.heap.objs.size ∨ c = s1.heap.objs.size + 1 := by simpa using hc
    rcases e' with q | q | q | q | q <;> rw [q]
    · exact Nat.le_add_right _ _
    · exact Nat.le_add_right _ _
    · exact Nat.le_add_right _ _
    · exact Nat.le_refl _
    · exact Nat.le_add_right _ _
  exact I1.fpOk le (I1.hok.fresh le)

/-- a list or a tuple of these -/
def SeqD (d : D) (l : List D) : Prop := d = .lst l ∨ d = .tup l
theorem SeqD.at {K : PySem.W.Frag} {I : Hp} {d : D} {l : List D} {v : V} (s : SeqD d l) (n : Dn K I d v) : ∃ t a xs, v = .ref a ∧ Dns K I l xs ∧ ∀ H, Ex I H → SqB K t H a xs := by
  rcases s with rfl | rfl
  · cases n with
    | lst h m => exact ⟨false, _, _, rfl, m, fun H e => SqL.of (e _ _ h)⟩
  · cases n with
    | tup h m => exact ⟨true, _, _, rfl, m, fun H e => SqT.of (e _ _ h)⟩
section
variable {X : Cx} {B : Hp} {S : En} {pos : Pos} {e e2 : Expr}
/-- [elt for g in zip(e, e2)] -/
theorem fd_lcZ {elt : Expr} {elts : List Expr} {kk : Nat} {tpos p1 pos1 : Pos} {scope : Scope} {own : List (Str × Nat)} {g : TG} {Q : List D → Prop} (l l' : List D) (J : Nat → List D → Prop) (S' : D → D → En) (hc : X.calm = true) (hN : X.N.Nodup) (hm : X.mg "zip" = none) (ok : BlkOk X.N X.env.scope scope own)
    (hg : ∀ (s : Shared) (H : Hp) (C : Addr) (cl : List (Str × Addr)) (fp : List Addr), PG (X.blk s H scope (compEnvC scope cl C X.env) fp) (.Tuple elts kk tpos) g)
    (h : AD X B S [e, e2] fun as => ∃ d d', as = [.val d, .val d'] ∧ SeqD d l ∧ SeqD d' l' ∧ l.length ≤ 50000 ∧ J 0 []) (hp : ∀ d d', Pat X.K g (own.map (·.2)) S (.tup [d, d']) (S' d d'))
    (he : ∀ (i : Nat) d d' acc, l[i]? = some d → l'[i]? = some d' → acc.length = i → J i acc → ∀ (s : Shared) (H0 : Hp) (C : Addr) (cl : List (Str × Addr)) (fp : List Addr), ED (X.blk s H0 scope (compEnvC scope cl C X.env) fp) B (S' d d') elt fun y => J (i + 1) (acc ++ [y]))
    (hd : ∀ acc i, acc.length = i → J i acc → i ≤ l.length → i ≤ l'.length → (l.length ≤ i ∨ l'.length ≤ i) → Q acc) (hgl : Gl X "zip" := by rfl)
    (hst : starEach [e, e2] X.env = (false, eval e X.env) :: starEach [e2] X.env := by rfl) (hpl : (backTo pos1 (starEach [e2] X.env)).any (·.1) = false := by rfl)
    (hs : ∀ x, foldedSetIterable (.Call (.Name "zip" p1) [e, e2] [] pos1) X.env x = pure x := by intro _; rfl) : FD X B S (.ListComp elt [⟨.Tuple elts kk tpos, .Call (.Name "zip" p1) [e, e2] [] pos1, [], 0⟩] scope pos) Q := fun σ W H r R k => by
  refine PE.w (pe_lc (te := WEb X scope elt) hc hN (pi_zm hgl hm wa_pa hst hpl) ok hg (fun _ _ _ _ _ => pts_nil) web_pe hs) ?_
  refine h σ W H r _ fun as vs W1 H1 s1 ok1 n1 q1 => ?_
  obtain ⟨d, d', rfl, sd, sd', hz, j0⟩ := q1
  obtain ⟨v, v', rfl, m, m'⟩ := two_args n1
  obtain ⟨t, a, xs, rfl, w, hx⟩ := sd.at m
  obtain ⟨u, b, ys, rfl, w', hy⟩ := sd'.at m'
  refine ⟨t, u, a, b, xs, ys, rfl, hx _ ok1.ex, hy _ ok1.ex, fun p hp0 => ?_⟩
  have r1 := r.step s1 ok1
  refine ⟨fun i n H' => n = xs.length - i ∧ i ≤ xs.length ∧ i ≤ ys.length ∧ ∃ acc W', Mid X.K (gOf X) W1 H1 p acc W' H' ∧ acc.length = i ∧ J i acc, ⟨xs.length, rfl, Nat.zero_le _, Nat.zero_le _, [], W1, ⟨Stp.own hp0, ok1.own hp0, ok1.notP hp0, ok1.free hp0, [], upd_same, .nil⟩, rfl, j0⟩, ?_⟩
  rintro i n H' ⟨rfl, lx, ly, acc, W', mm, hl, j⟩
  have qx := hx H' fun c o z => mm.ok.ex _ _ (mm.st.I _ _ z)
  have qy := hy H' fun c o z => mm.ok.ex _ _ (mm.st.I _ _ z)
  by_cases c : i < xs.length ∧ i < ys.length
  · have ex : xs[i]? = some xs[i] := List.getElem?_eq_getElem c.1
    have ey : ys[i]? = some ys[i] := List.getElem?_eq_getElem c.2
    refine .inr ⟨⟨xs, ys, _, _, qx, qy, ex, ey⟩, fun H' => ∃ acc W', Mid X.K (gOf X) W1 H1 p acc W' H' ∧ acc.length = i + 1 ∧ J (i + 1) acc, fun H2 z => ⟨xs.length - (i + 1), by omega, rfl, c.1, c.2, z⟩, ?_⟩
    rintro x H2 ⟨T, x1, y1, rfl, hT, rfl, f1, f2⟩
    have e1 := f1 xs qx
    have e2 := f2 ys qy
    obtain ⟨d1, hd1, nd1⟩ := w.get e1
    obtain ⟨d2, hd2, nd2⟩ := w'.get e2
    have sn := Stp.new (o := .tup [x1, y1]) mm.ok hT
    have okn := mm.ok.new (o := .tup [x1, y1]) hT
    have mn := mm.step sn okn
    have nt : Dn X.K (W'.new T (.tup [x1, y1])).I (.tup [d1, d2]) (.ref T) := .tup upd_same (.cons ((nd1.mono mm.st.I).mono sn.I) (.cons ((nd2.mono mm.st.I).mono sn.I) .nil))
    refine hp d1 d2 (gOf X) B σ _ _ _ ((r1.step mm.st mm.ok).step sn okn) nt _ fun σ2 e3 r3 => ⟨e3, ?_⟩
    show WEb X scope elt σ2 _ _
    intro s H0 C cl fp
    refine he i d1 d2 acc hd1 hd2 hl j s H0 C cl fp σ2 _ _ r3 _ fun y v W2 H3 s2 ok2 n2 q2 => ?_
    have li : i < l.length := by rw [w.length]; exact c.1
    obtain ⟨xs', g1, g3, m3⟩ := (mn.step s2 ok2).more hp0 n2 (by omega)
    exact ⟨xs', g1, g3, _, W2, m3, by simp [hl], q2⟩
  · refine .inl ⟨⟨xs, ys, qx, qy, by omega⟩, ?_⟩
    obtain ⟨zs, hH, ds⟩ := mm.h
    refine k acc p zs W' H' (s1.trans ok1 mm.st) mm.ok (s1.free ok1 hp0) mm.n mm.i hH ds (hd acc i hl j ?_ ?_ ?_)
    · rw [w.length]; exact lx
    · rw [w'.length]; exact ly
    · rw [w.length, w'.length]; omega
end
end DL

set_option Elab.async false
set_option linter.all false
set_option maxRecDepth 100000
set_option maxHeartbeats 4000000
/-! a list of lists that change -/
namespace DL
open PySem PySem.Spec PyProof.Rows L2
theorem ok_upd {g : List Code} {W : Wd} {H : Hp} {q : Addr} {o : HO} (ok : Ok g W H) (n : ¬ W.P q) (i : W.I q = none) (ht : ∀ xs, o ≠ .tup xs := by exact fun _ z => by cases z) : Ok g W (upd H q o) where
  gd := fun b hb => by
    obtain ⟨n1, n2⟩ := ok.gd b hb
    refine ⟨n1, ?_⟩
    by_cases z : b = q
    · subst z
      rw [upd_same]
      exact ⟨(fun z => by cases z), (fun _ z => ht _ (Option.some.inj z))⟩
    · rw [upd_ne z]
      exact n2
  ex := fun b u hb => by
    rw [upd_ne (fun y => by rw [y, i] at hb; cases hb)]
    exact ok.ex b u hb
  pot := fun b hb => by
    obtain ⟨nb, y2, w2, h2⟩ := ok.pot b hb
    have ne : b ≠ q := fun y => n (y ▸ hb)
    exact ⟨nb, y2, w2, by rw [upd_ne ne]; exact h2⟩
theorem stp_upd {W W0 : Wd} {B H : Hp} {q : Addr} {o : HO} (z : Stp W0 B W H) (hB : B q = none) : Stp W0 B W (upd H q o) :=
  ⟨z.I, z.P, fun b u hb hn => by rw [upd_ne (ne_of_none hb hB)]; exact z.keep b u hb hn, z.old, z.oldP⟩
theorem ixN_lt {n j : Nat} (hj : j < n) : ixN n (j : Int) = some j := by
  unfold ixN
  rw [if_pos (by omega), if_pos (by omega), Int.toNat_natCast]
/-- a new list at p of new lists at qs: each at one place alone -/
structure Nest (K : PySem.W.Frag) (B : Hp) (W : Wd) (H : Hp) (p : Addr) (qs : List Addr) (rows : List (List D)) : Prop where
  b : B p = none
  n : ¬ W.P p
  i : W.I p = none
  h : H p = some (.lst (qs.map V.ref))
  nd : (p :: qs).Nodup
  len : qs.length = rows.length
  row : ∀ (j : Nat) q l, qs[j]? = some q → rows[j]? = some l → B q = none ∧ ¬ W.P q ∧ W.I q = none ∧ ∃ xs, H q = some (.lst xs) ∧ Dns K W.I l xs
section
variable {K : PySem.W.Frag} {B : Hp} {W W1 : Wd} {H H1 : Hp} {p : Addr} {qs : List Addr} {rows : List (List D)}
end
def plainS : Option Sl → Bool
  | some (.own _) => false
  | some (.ownT _) => false
  | some (.inst _ _ _ _) => false
  | _ => true
def PlainE (S : En) : Bool := S.all plainS
structure NEnds where
  nx : En → List (List D) → Prop
  rt : D → Prop
structure NSub (K : PySem.W.Frag) (g : List Code) (B : Hp) (W0 : Wd) (I : Hp) (p : Addr) (qs : List Addr) (E : NEnds) (D' : Ends) : Prop where
  nx : ∀ S σ W H rows, Rep K g B S σ W H → PlainE S = true → Nest K B W H p qs rows → Stp W0 B W H → Ex I W.I → E.nx S rows → D'.nx σ H
  rt : ∀ d v W H, Ok g W H → Stp W0 B W H → Ex I W.I → Dn K W.I d v → E.rt d → D'.rt v H
section
variable (X : Cx) (B : Hp) (W0 : Wd) (p : Addr) (qs : List Addr) (S : En) (rows : List (List D))
def NED (e : Expr) (Q : D → Prop) : Prop := ∀ σ W H, Rep X.K (gOf X) B S σ W H → Nest X.K B W H p qs rows → ∀ R, Cont X.K (gOf X) W H Q R → WE X e σ H R
def NGD (tg : Expr) (d : D) (Q : List (List D) → Prop) : Prop := ∀ σ W H v, Rep X.K (gOf X) B S σ W H → PlainE S = true → Nest X.K B W H p qs rows → Stp W0 B W H → Dn X.K W.I d v → ∀ R, (∀ rows' H', Rep X.K (gOf X) B S σ W H' → Nest X.K B W H' p qs rows' → Stp W0 B W H' → Q rows' → R σ H') → WG X tg v σ H R
def NSD (st : Stmt) (E : NEnds) : Prop := ∀ σ W H, Rep X.K (gOf X) B S σ W H → PlainE S = true → Nest X.K B W H p qs rows → Stp W0 B W H → ∀ D', NSub X.K (gOf X) B W0 W.I p qs E D' → WS X st D' σ H
def NSDs (sts : List Stmt) (E : NEnds) : Prop := ∀ σ W H, Rep X.K (gOf X) B S σ W H → PlainE S = true → Nest X.K B W H p qs rows → Stp W0 B W H → ∀ D', NSub X.K (gOf X) B W0 W.I p qs E D' → WSs X sts D' σ H
end
section
variable {X : Cx} {B : Hp} {W0 : Wd} {p : Addr} {qs : List Addr} {S : En} {rows : List (List D)} {st : Stmt} {sts : List Stmt} {E : NEnds} {pos : Pos} {e a b c : Expr} {Q : D → Prop}
end
end DL

set_option Elab.async false
set_option linter.all false
set_option maxRecDepth 100000
set_option maxHeartbeats 4000000
/-! lists of lists: made, given away; an owned list changed at a place, shortened -/
namespace DL
open PySem PySem.Spec PyProof.Rows L2
theorem Rep.putOwn {K : PySem.W.Frag} {g : List Code} {B : Hp} {S : En} {σ : L2.St} {W : Wd} {H : Hp} {i : Nat} {l l' : List D} {p : Addr} {xs xs' : List V} (r : Rep K g B S σ W H) (h : S[i]? = some (some (.own l))) (e1 : σ[i]? = some (some (.ref p))) (hB : B p = none) (n : ¬ W.P p) (hI : W.I p = none) (hH : H p = some (.lst xs)) (d : Dns K W.I l' xs') :
    Rep K g B (S.set i (some (.own l'))) σ W (upd H p (.lst xs')) := by
  have lt : i < S.length := (List.getElem?_eq_some_iff.mp h).1
  refine ⟨ok_upd r.ok n hI, r.gb, by simpa using r.len, fun j s ej => ?_, fun a b la lb q ne e2 e3 e4 => ?_, r.distT.setS i fun l z => by cases z⟩
  · by_cases q : i = j
    · subst q
      rw [List.getElem?_set_self lt] at ej
      cases ej
      exact ⟨_, e1, p, _, rfl, hB, n, hI, upd_same, d⟩
    · rw [List.getElem?_set_ne q] at ej
      obtain ⟨v2, e2, h2⟩ := r.sl j s ej
      refine ⟨v2, e2, ?_⟩
      cases s with
      | val d2 => exact h2
      | pot => exact h2
      | own m =>
        obtain ⟨p2, ys, rfl, b1, b2, b3, b4, b5⟩ := h2
        refine ⟨p2, ys, rfl, b1, b2, b3, ?_, b5⟩
        rw [upd_ne (fun y => by
          rw [y] at e2
          exact r.dist i j l m p q h ej e1 e2)]
        exact b4
      | ownT m =>
        obtain ⟨p2, ys, rfl, b1, b2, b3, b4, b5⟩ := h2
        refine ⟨p2, ys, rfl, b1, b2, b3, ?_, b5⟩
        rw [upd_ne (fun y => by rw [y, hH] at b4; cases b4)]
        exact b4
      | inst C p2 dx fs =>
        obtain ⟨vs, rfl, b1, b2, b3, b4, b5, b6, b7, b8, b9, b10⟩ := h2
        refine ⟨vs, rfl, b1, b2, b3, b4, b5, b6, b7, ?_, ?_, b10⟩
        · rw [upd_ne (fun y => by rw [y, hH] at b8; cases b8)]
          exact b8
        · rw [upd_ne (fun y => by rw [y, hH] at b9; cases b9)]
          exact b9
  · have g : ∀ {c : Nat} {m : List D}, (S.set i (some (.own l')))[c]? = some (some (.own m)) → ∃ m', S[c]? = some (some (.own m')) := fun {c m} ec => by
      by_cases q2 : i = c
      · subst q2
        exact ⟨l, h⟩
      · rw [List.getElem?_set_ne q2] at ec
        exact ⟨m, ec⟩
    obtain ⟨m1, g1⟩ := g e2
    obtain ⟨m2, g2⟩ := g e3
    exact r.dist a b m1 m2 q ne g1 g2 e4
section
variable {K : PySem.W.Frag} {g : List Code} {B : Hp} {W0 W : Wd} {H : Hp} {p : Addr} {qs : List Addr} {rows : List (List D)}
end
section
variable (X : Cx) (B : Hp) (W0 : Wd) (p : Addr) (qs : List Addr) (S : En) (rows : List (List D))
/-- from lists of lists on, to where they are given away -/
def NF (st : Stmt) (E : Ends') : Prop := ∀ σ W H, Rep X.K (gOf X) B S σ W H → PlainE S = true → Nest X.K B W H p qs rows → Stp W0 B W H → ∀ D', Sub X.K (gOf X) B W0 W.I E D' → WS X st D' σ H
def NFs (sts : List Stmt) (E : Ends') : Prop := ∀ σ W H, Rep X.K (gOf X) B S σ W H → PlainE S = true → Nest X.K B W H p qs rows → Stp W0 B W H → ∀ D', Sub X.K (gOf X) B W0 W.I E D' → WSs X sts D' σ H
/-- an expression that makes such lists -/
def NE (S : En) (e : Expr) (Q : List (List D) → Prop) : Prop := ∀ σ W H, Rep X.K (gOf X) B S σ W H → ∀ R : VK, (∀ p qs rows W' H', Stp W H W' H' → Ok (gOf X) W' H' → Nest X.K H W' H' p qs rows → Q rows → R (.ref p) H') → WE X e σ H R
end
section
variable {X : Cx} {B : Hp} {W0 : Wd} {p : Addr} {qs : List Addr} {S : En} {rows : List (List D)} {st : Stmt} {sts : List Stmt} {E : Ends'} {pos : Pos} {e e2 a b c : Expr}
end
end DL

set_option Elab.async false
set_option linter.all false
set_option maxRecDepth 100000
set_option maxHeartbeats 4000000
/-! lists of lists by comprehensions; x[i].append, x.pop(i), x[i] = .. -/
namespace DL
open PySem PySem.Spec PyProof.Rows L2
theorem dns_take {K : PySem.W.Frag} {I : Hp} : ∀ (n : Nat) {l : List D} {xs : List V}, Dns K I l xs → Dns K I (l.take n) (xs.take n)
  | 0, _, _, _ => .nil
  | _ + 1, _, _, .nil => .nil
  | n + 1, _, _, .cons h r => .cons h (dns_take n r)
def NLC (X : Cx) (B : Hp) (S : En) (t : TE) (Q : List (List D) → Prop) : Prop := ∀ σ W H, Rep X.K (gOf X) B S σ W H → ∀ R : VK, (∀ p qs rows W' H', Stp W H W' H' → Ok (gOf X) W' H' → Nest X.K H W' H' p qs rows → Q rows → R (.ref p) H') → t σ H R
structure Mid2 (K : PySem.W.Frag) (g : List Code) (W1 : Wd) (H1 : Hp) (p : Addr) (qs : List Addr) (rows : List (List D)) (W : Wd) (H : Hp) : Prop where
  st : Stp W1 H1 W H
  ok : Ok g W H
  m : Nest K H1 W H p qs rows
section
variable {X : Cx} {B : Hp} {W0 : Wd} {S : En} {st : Stmt} {sts : List Stmt} {E : Ends'} {pos : Pos} {e e2 a b c : Expr}
/-- list(e), e a list or a tuple -/
theorem fd_list {p : Pos} {Q : List D → Prop} (hm : X.mg "list" = none) (h : ED X B S e fun d => ∃ l, SeqD d l ∧ Q l) (hv : bootBuiltins "list" = some (.type "list") := by first | rfl | decide +kernel) (hg : Gl X "list" := by rfl)
    (he : starEach [e] X.env = (false, eval e X.env) :: starEach [] X.env := by rfl) (hpl : (backTo pos (starEach [] X.env)).any (·.1) = false := by rfl) : FD X B S (.Call (.Name "list" p) [e] [] pos) Q := fun σ W H r R k => by
  refine PE.w (pe_callTy call_list_of hg hm hv (pa_cons we_pe pa_nil he) (by decide) (by decide) he hpl) ?_
  refine h σ W H r _ fun d v W1 H1 s1 ok1 n1 q1 => ?_
  obtain ⟨l, sd, q1⟩ := q1
  obtain ⟨t, a, xs, rfl, w, hx⟩ := sd.at n1
  refine ⟨a, xs, rfl, ?_, fun p hp => ?_⟩
  · cases t with
    | false => exact .inl (hx _ ok1.ex)
    | true => exact .inr (hx _ ok1.ex)
  · exact k l p xs W1 _ (s1.trans ok1 (Stp.own hp)) (ok1.own hp) (s1.free ok1 hp) (ok1.notP hp) (ok1.free hp) upd_same w q1
/-- x[y] = .., x the owner of its list -/
theorem gd_ownAt {x y : Str} {px py : Pos} {d : D} {Q : En → Prop} (ix iy : Nat) (l : List D) {i : Nat} (hx : X.N[ix]? = some x) (hy : X.N[iy]? = some y) (sx : S[ix]? = some (some (.own l))) (sy : S[iy]? = some (some (.val (.int i)))) (hi : i < l.length) (q : Q (S.set ix (some (.own (l.set i d)))))
    (vx : Vis X.env.scope x := by first | exact Or.inl rfl | exact Or.inr (Or.inl rfl)) (vy : Vis X.env.scope y := by first | exact Or.inl rfl | exact Or.inr (Or.inl rfl))
    (x1 : (x == ("__debug__" : Str)) = false := by decide) (x2 : (x == ("__classdict__" : Str)) = false := by decide) (y1 : (y == ("__debug__" : Str)) = false := by decide) (y2 : (y == ("__classdict__" : Str)) = false := by decide)
    (ha : ∀ v, assign (.Subscript (.Name x px) (.Name y py) pos) X.env v = (do
      let ov ← holding [v] (eval (.Name x px) X.env)
      let iv ← holding [v, ov] (eval (.Name y py) X.env)
      standAt pos
      holding [v, ov, iv] (setItem ov iv v)
      release [v, ov, iv] []) := by intro _; rfl) : GD X B W0 S (.Subscript (.Name x px) (.Name y py) pos) d Q := fun σ W H v r z nd R k => by
  obtain ⟨v1, e1, p, xs, ev, hB, n, hI, hH, d0⟩ := r.sl ix _ sx
  subst ev
  obtain ⟨v2, e2, w2⟩ := r.sl iy _ sy
  cases (show Dn X.K W.I _ _ from w2)
  refine PG.w (pg_sub (pe_var hx vx x1 x2) (pe_var hy vy y1 y2) set_list ha) ⟨_, e1, _, e2, p, xs, i, i, rfl, rfl, hH, ixN_lt (by rw [← d0.length]; exact hi), ?_⟩
  exact k _ σ W _ (r.putOwn sx e1 hB n hI hH (Dns.set nd i d0)) (stp_upd z hB) (Ex.refl _) q
end
end DL

set_option Elab.async false
set_option linter.all false
set_option maxRecDepth 100000
set_option maxHeartbeats 4000000
/-! a dict literal, constants of the module, comprehensions over two ranges -/
namespace DL
open PySem PySem.Spec PyProof.Rows L2
section
variable {X : Cx} {B : Hp} {S : En} {pos : Pos} {Q : D → Prop} {e e1 : Expr} {x : Str}
end
end DL

set_option Elab.async false
set_option linter.all false
set_option maxRecDepth 100000
set_option maxHeartbeats 4000000
/-! comprehensions told by what each item must be -/
namespace DL
open PySem PySem.Spec PyProof.Rows L2
theorem Paired.snoc {α β : Type} {R : α → β → Prop} {x : α} {y : β} (h : R x y) : ∀ {l : List α} {m : List β}, Paired R l m → Paired R (l ++ [x]) (m ++ [y])
  | _, _, .nil => .cons h .nil
  | _, _, .cons a b => .cons a (Paired.snoc h b)
/-- what stands in the slots when the item d has come to the name in slot j -/
abbrev itE (S : En) (own : List (Str × Nat)) (j : Nat) (d : D) : En := (wipeE S (own.map (·.2))).set j (some (.val d))
abbrev AllBlk (X : Cx) (scope : Scope) (R : Cx → Prop) : Prop := ∀ (s : Shared) (H0 : Hp) (C : Addr) (cl : List (Str × Addr)) (fp : List Addr), R (X.blk s H0 scope (compEnvC scope cl C X.env) fp)
section
variable {X : Cx} {B : Hp} {W0 : Wd} {S : En} {pos : Pos} {e e2 elt iter : Expr} {x : Str} {px : Pos} {scope : Scope} {own : List (Str × Nat)} {l l' : List D} {d0 : D} {Q : List D → Prop}
/-- [elt for x in a list or a tuple] -/
theorem fd_relS (G : D → D → Prop) (j : Nat) (hc : X.calm = true) (hN : X.N.Nodup) (ok : BlkOk X.N X.env.scope scope own) (hg : AllBlk X scope fun Y => PG Y (.Name x px) (gName j)) (sd : SeqD d0 l) (hl : l.length ≤ 50000) (hit : ED X B S iter fun d => d = d0) (hj : j ∈ own.map (·.2))
    (he : ∀ d ∈ l, AllBlk X scope fun Y => ED Y B (itE S own j d) elt (G d)) (hd : ∀ out, Paired G l out → Q out) (hs : ∀ x, foldedSetIterable iter X.env x = pure x := by intro _; rfl) : FD X B S (.ListComp elt [⟨.Name x px, iter, [], 0⟩] scope pos) Q := by
  have step : ∀ (i : Nat) d acc, l[i]? = some d → acc.length = i → Paired G (l.take i) acc → ∀ (s : Shared) (H0 : Hp) (C : Addr) (cl : List (Str × Addr)) (fp : List Addr), ED (X.blk s H0 scope (compEnvC scope cl C X.env) fp) B (itE S own j d) elt fun y => Paired G (l.take (i + 1)) (acc ++ [y]) := fun i d acc hi ha hp s H0 C cl fp => by
    intro σ W H r R k
    refine he d (List.mem_of_getElem? hi) s H0 C cl fp σ W H r R fun y v W' H' st ok n q => k y v W' H' st ok n ?_
    rw [List.take_add_one, hi]
    exact Paired.snoc q hp
  have fin : ∀ acc, acc.length = l.length → Paired G (l.take l.length) acc → Q acc := fun acc _ h => hd acc (by rw [List.take_length] at h; exact h)
  have start : ED X B S iter fun d => d = d0 ∧ l.length ≤ 50000 ∧ Paired G (l.take 0) [] := fun σ W H r R k => hit σ W H r R fun d v W' H' st ok n q => k d v W' H' st ok n ⟨q, hl, .nil⟩
  rcases sd with rfl | rfl
  · exact fd_lcL (fun i acc => Paired G (l.take i) acc) (fun d => itE S own j d) hc hN ok hg start (fun d _ => pat_name j hj) step fin hs
  · exact fd_lcT (fun i acc => Paired G (l.take i) acc) (fun d => itE S own j d) hc hN ok hg start (fun d _ => pat_name j hj) step fin hs
/-- what a range brings -/
def Outs (G : Nat → D → Prop) (n : Nat) (out : List D) : Prop := out.length = n ∧ ∀ i, i < n → ∃ y, out[i]? = some y ∧ G i y
theorem Outs.nil {G : Nat → D → Prop} : Outs G 0 [] := ⟨rfl, fun i h => absurd h (Nat.not_lt_zero _)⟩
theorem Outs.snoc {G : Nat → D → Prop} {n : Nat} {out : List D} {y : D} (h : Outs G n out) (g : G n y) : Outs G (n + 1) (out ++ [y]) := ⟨by simp [h.1], fun i hi => by
  by_cases c : i < n
  · obtain ⟨z, e, gz⟩ := h.2 i c
    exact ⟨z, by rw [List.getElem?_append_left (by rw [h.1]; exact c)]; exact e, gz⟩
  · have : i = n := by omega
    subst this
    exact ⟨y, by rw [List.getElem?_append_right (by rw [h.1]; exact Nat.le_refl _), h.1, Nat.sub_self]; rfl, g⟩⟩
/-- [elt for x in range(e)] -/
theorem fd_relR {p1 pos1 : Pos} {n : Nat} (G : Nat → D → Prop) (j : Nat) (hc : X.calm = true) (hN : X.N.Nodup) (hm : X.mg "range" = none) (ok : BlkOk X.N X.env.scope scope own) (hg : AllBlk X scope fun Y => PG Y (.Name x px) (gName j)) (hn : n ≤ 50000) (h : AD X B S [e] fun as => as = [.val (.int (n : Int))]) (hj : j ∈ own.map (·.2))
    (he : ∀ i, i < n → AllBlk X scope fun Y => ED Y B (itE S own j (.int (i : Int))) elt (G i)) (hd : ∀ out, Outs G n out → Q out) (hgl : Gl X "range" := by rfl) (hst : starEach [e] X.env = [(false, eval e X.env)] := by rfl)
    (hs : ∀ x, foldedSetIterable (.Call (.Name "range" p1) [e] [] pos1) X.env x = pure x := by intro _; rfl) : FD X B S (.ListComp elt [⟨.Name x px, .Call (.Name "range" p1) [e] [] pos1, [], 0⟩] scope pos) Q := by
  refine fd_lcR (n := (n : Int)) (fun i acc => Outs G i acc) (fun d => itE S own j d) hc hN hm ok hg ?_ (fun d => pat_name j hj) ?_ ?_ hgl hst hs
  · exact fun σ W H r R k => h σ W H r R fun as vs W' H' st ok n q => k as vs W' H' st ok n ⟨q, by omega, by omega, .nil⟩
  · intro i acc hi ha o s H0 C cl fp σ W H r R k
    exact he i (by omega) s H0 C cl fp σ W H r R fun y v W' H' st ok n q => k y v W' H' st ok n (o.snoc q)
  · intro acc _ o
    exact hd acc (by rw [Int.toNat_natCast] at o; exact o)
/-- [elt for x, y in zip(e, e2)], both as long -/
theorem fd_relZ {y : Str} {py tpos p1 pos1 : Pos} {kk : Nat} {d1 : D} (G : D → D → D → Prop) (i j : Nat) (hc : X.calm = true) (hN : X.N.Nodup) (hm : X.mg "zip" = none) (ok : BlkOk X.N X.env.scope scope own) (hg : AllBlk X scope fun Y => PG Y (.Tuple [.Name x px, .Name y py] kk tpos) (gTup X.K 2 (gCons (gName i) (gCons (gName j) gNil)))) (hll : l.length = l'.length) (hl : l.length ≤ 50000) (sd : SeqD d0 l) (sd1 : SeqD d1 l')
    (h : AD X B S [e, e2] fun as => as = [.val d0, .val d1]) (hi : i ∈ own.map (·.2)) (hj : j ∈ own.map (·.2)) (he : ∀ (n : Nat) d d', l[n]? = some d → l'[n]? = some d' → AllBlk X scope fun Y => ED Y B ((itE S own i d).set j (some (.val d'))) elt (G d d'))
    (hd : ∀ out, out.length = l.length → (∀ (n : Nat) d d' z, l[n]? = some d → l'[n]? = some d' → out[n]? = some z → G d d' z) → Q out) (hgl : Gl X "zip" := by rfl)
    (hst : starEach [e, e2] X.env = (false, eval e X.env) :: starEach [e2] X.env := by rfl) (hpl : (backTo pos1 (starEach [e2] X.env)).any (·.1) = false := by rfl)
    (hs : ∀ x, foldedSetIterable (.Call (.Name "zip" p1) [e, e2] [] pos1) X.env x = pure x := by intro _; rfl) : FD X B S (.ListComp elt [⟨.Tuple [.Name x px, .Name y py] kk tpos, .Call (.Name "zip" p1) [e, e2] [] pos1, [], 0⟩] scope pos) Q := by
  refine fd_lcZ l l' (fun m acc => acc.length = m ∧ ∀ (n : Nat) d d' z, l[n]? = some d → l'[n]? = some d' → acc[n]? = some z → G d d' z) (fun d d' => (itE S own i d).set j (some (.val d'))) hc hN hm ok hg ?_ (fun d d' => pat_two i j hi hj) ?_ ?_ hgl hst hpl hs
  · exact fun σ W H r R k => h σ W H r R fun as vs W' H' st ok n q => k as vs W' H' st ok n ⟨d0, d1, q, sd, sd1, hl, rfl, fun n d d' z _ _ e => by simp at e⟩
  · intro m d d' acc h1 h2 ha ⟨_, o⟩ s H0 C cl fp σ W H r R k
    refine he m d d' h1 h2 s H0 C cl fp σ W H r R fun y v W' H' st ok n q => k y v W' H' st ok n ⟨by simp [ha], fun n a b z e1 e2 e3 => ?_⟩
    by_cases c : n < m
    · rw [List.getElem?_append_left (by omega)] at e3
      exact o n a b z e1 e2 e3
    · rw [List.getElem?_append_right (by omega)] at e3
      have : n = m := by
        rcases Nat.lt_or_ge m n with z | z
        · rw [List.getElem?_eq_none (show [y].length ≤ n - acc.length by show 1 ≤ _; omega)] at e3
          cases e3
        · omega
      subst this
      rw [ha, Nat.sub_self] at e3
      cases e3
      rw [h1] at e1
      rw [h2] at e2
      cases e1
      cases e2
      exact q
  · intro acc m ha ⟨_, o⟩ h1 h2 h3
    exact hd acc (by omega) o
theorem td_chain {op op' : CmpOp} {a b c : Expr} {QB : Bool → Prop} (h : ED X B S a fun x => ED X B S b fun y => OD X (compareOp op) x y fun z => ∃ k, z = .bl k ∧ if k = true then ED X B S c fun w => OD X (compareOp op') y w fun z => ∃ k, z = .bl k ∧ QB k else QB false)
    (hm : lastMarks [op, op'] [b, c] = false := by rfl) : TD X B S (.Compare a [op, op'] [b, c] pos) QB := fun σ W H r R k => by
  refine PT.w (pt_chain wo_op wo_op we_pe we_pe we_pe hm) ?_
  refine h σ W H r _ fun d v W1 H1 s1 ok1 n1 q1 => ?_
  refine q1 σ W1 H1 (r.step s1 ok1) _ fun d2 u W2 H2 s2 ok2 n2 q2 => ?_
  refine q2 v u W2 H2 ok2 (n1.mono s2.I) n2 _ fun d3 z W3 H3 s3 ok3 n3 q3 => ?_
  obtain ⟨t, e, q3⟩ := q3
  subst e
  cases n3
  have k3 := ((k.step s1 ok1).step s2 ok2).step s3 ok3
  refine ⟨t, rfl, ?_⟩
  cases t with
  | false => exact iteF ⟨false, rfl, k3.now ok3 (by simpa using q3)⟩
  | true =>
    have q3 : ED X B S c fun w => OD X (compareOp op') d2 w fun z => ∃ k, z = .bl k ∧ QB k := by simpa using q3
    refine iteT (q3 σ W3 H3 (((r.step s1 ok1).step s2 ok2).step s3 ok3) _ fun d4 w' W4 H4 s4 ok4 n4 q4 => ?_)
    refine q4 u w' W4 H4 ok4 ((n2.mono s3.I).mono s4.I) n4 _ fun d5 z W5 H5 s5 ok5 n5 q5 => ?_
    obtain ⟨t, e, q5⟩ := q5
    subst e
    cases n5
    exact ⟨t, rfl, ((k3.step s4 ok4).step s5 ok5).now ok5 q5⟩
end
end DL

set_option Elab.async false
set_option linter.all false
set_option maxRecDepth 100000
set_option maxHeartbeats 4000000
/-! a name = [.. for x, y in zip(..)] -/
namespace DL
open PySem PySem.Spec PyProof.Rows L2
section
variable {X : Cx} {B : Hp} {W0 : Wd} {S : En} {pos : Pos} {e e2 : Expr} {x : Str} {px : Pos} {own : List (Str × Nat)} {scope : Scope} {elt : Expr} {l l' : List D} {d0 : D}
theorem lc_Z {g : TG} {Q : List D → Prop} (l l' : List D) (J : Nat → List D → Prop) (S' : D → D → En)
    (h : AD X B S [e, e2] fun as => ∃ d d', as = [.val d, .val d'] ∧ SeqD d l ∧ SeqD d' l' ∧ l.length ≤ 50000 ∧ J 0 []) (hp : ∀ d d', Pat X.K g (own.map (·.2)) S (.tup [d, d']) (S' d d'))
    (he : ∀ (i : Nat) d d' acc, l[i]? = some d → l'[i]? = some d' → acc.length = i → J i acc → ∀ (s : Shared) (H0 : Hp) (C : Addr) (cl : List (Str × Addr)) (fp : List Addr), ED (X.blk s H0 scope (compEnvC scope cl C X.env) fp) B (S' d d') elt fun y => J (i + 1) (acc ++ [y]))
    (hd : ∀ acc i, acc.length = i → J i acc → i ≤ l.length → i ≤ l'.length → (l.length ≤ i ∨ l'.length ≤ i) → Q acc) : LC X B S (tLc (iZm X.K (WA X [e, e2])) g tYes (WEb X scope elt) (own.map (·.2))) Q := fun σ W H r R k => by
  refine h σ W H r _ fun as vs W1 H1 s1 ok1 n1 q1 => ?_
  obtain ⟨d, d', rfl, sd, sd', hz, j0⟩ := q1
  obtain ⟨v, v', rfl, m, m'⟩ := two_args n1
  obtain ⟨t, a, xs, rfl, w, hx⟩ := sd.at m
  obtain ⟨u, b, ys, rfl, w', hy⟩ := sd'.at m'
  refine ⟨t, u, a, b, xs, ys, rfl, hx _ ok1.ex, hy _ ok1.ex, fun p hp0 => ?_⟩
  have r1 := r.step s1 ok1
  refine ⟨fun i n H' => n = xs.length - i ∧ i ≤ xs.length ∧ i ≤ ys.length ∧ ∃ acc W', Mid X.K (gOf X) W1 H1 p acc W' H' ∧ acc.length = i ∧ J i acc, ⟨xs.length, rfl, Nat.zero_le _, Nat.zero_le _, [], W1, ⟨Stp.own hp0, ok1.own hp0, ok1.notP hp0, ok1.free hp0, [], upd_same, .nil⟩, rfl, j0⟩, ?_⟩
  rintro i n H' ⟨rfl, lx, ly, acc, W', mm, hl, j⟩
  have qx := hx H' fun c o z => mm.ok.ex _ _ (mm.st.I _ _ z)
  have qy := hy H' fun c o z => mm.ok.ex _ _ (mm.st.I _ _ z)
  by_cases c : i < xs.length ∧ i < ys.length
  · have ex : xs[i]? = some xs[i] := List.getElem?_eq_getElem c.1
    have ey : ys[i]? = some ys[i] := List.getElem?_eq_getElem c.2
    refine .inr ⟨⟨xs, ys, _, _, qx, qy, ex, ey⟩, fun H' => ∃ acc W', Mid X.K (gOf X) W1 H1 p acc W' H' ∧ acc.length = i + 1 ∧ J (i + 1) acc, fun H2 z => ⟨xs.length - (i + 1), by omega, rfl, c.1, c.2, z⟩, ?_⟩
    rintro x H2 ⟨T, x1, y1, rfl, hT, rfl, f1, f2⟩
    have e1 := f1 xs qx
    have e2 := f2 ys qy
    obtain ⟨d1, hd1, nd1⟩ := w.get e1
    obtain ⟨d2, hd2, nd2⟩ := w'.get e2
    have sn := Stp.new (o := .tup [x1, y1]) mm.ok hT
    have okn := mm.ok.new (o := .tup [x1, y1]) hT
    have mn := mm.step sn okn
    have nt : Dn X.K (W'.new T (.tup [x1, y1])).I (.tup [d1, d2]) (.ref T) := .tup upd_same (.cons ((nd1.mono mm.st.I).mono sn.I) (.cons ((nd2.mono mm.st.I).mono sn.I) .nil))
    refine hp d1 d2 (gOf X) B σ _ _ _ ((r1.step mm.st mm.ok).step sn okn) nt _ fun σ2 e3 r3 => ⟨e3, ?_⟩
    show WEb X scope elt σ2 _ _
    intro s H0 C cl fp
    refine he i d1 d2 acc hd1 hd2 hl j s H0 C cl fp σ2 _ _ r3 _ fun y v W2 H3 s2 ok2 n2 q2 => ?_
    have li : i < l.length := by rw [w.length]; exact c.1
    obtain ⟨xs', g1, g3, m3⟩ := (mn.step s2 ok2).more hp0 n2 (by omega)
    exact ⟨xs', g1, g3, _, W2, m3, by simp [hl], q2⟩
  · refine .inl ⟨⟨xs, ys, qx, qy, by omega⟩, ?_⟩
    obtain ⟨zs, hH, ds⟩ := mm.h
    refine k acc p zs W' H' (s1.trans ok1 mm.st) mm.ok (s1.free ok1 hp0) mm.n mm.i hH ds (hd acc i hl j ?_ ?_ ?_)
    · rw [w.length]; exact lx
    · rw [w'.length]; exact ly
    · rw [w.length, w'.length]; omega

theorem lc_relZ {Q : List D → Prop} {d1 : D} (G : D → D → D → Prop) (i j : Nat) (hll : l.length = l'.length) (hl : l.length ≤ 50000) (sd : SeqD d0 l) (sd1 : SeqD d1 l')
    (h : AD X B S [e, e2] fun as => as = [.val d0, .val d1]) (hi : i ∈ own.map (·.2)) (hj : j ∈ own.map (·.2)) (he : ∀ (n : Nat) d d', l[n]? = some d → l'[n]? = some d' → AllBlk X scope fun Y => ED Y B ((itE S own i d).set j (some (.val d'))) elt (G d d'))
    (hd : ∀ out, out.length = l.length → (∀ (n : Nat) d d' z, l[n]? = some d → l'[n]? = some d' → out[n]? = some z → G d d' z) → Q out) : LC X B S (tLc (iZm X.K (WA X [e, e2])) (gTup X.K 2 (gCons (gName i) (gCons (gName j) gNil))) tYes (WEb X scope elt) (own.map (·.2))) Q := by
  refine lc_Z l l' (fun m acc => acc.length = m ∧ ∀ (n : Nat) d d' z, l[n]? = some d → l'[n]? = some d' → acc[n]? = some z → G d d' z) (fun d d' => (itE S own i d).set j (some (.val d'))) ?_ (fun d d' => pat_two i j hi hj) ?_ ?_
  · exact fun σ W H r R k => h σ W H r R fun as vs W' H' st ok n q => k as vs W' H' st ok n ⟨d0, d1, q, sd, sd1, hl, rfl, fun n d d' z _ _ e => by simp at e⟩
  · intro m d d' acc h1 h2 ha ⟨_, o⟩ s H0 C cl fp σ W H r R k
    refine he m d d' h1 h2 s H0 C cl fp σ W H r R fun y v W' H' st ok n q => k y v W' H' st ok n ⟨by simp [ha], fun n a b z e1 e2 e3 => ?_⟩
    by_cases c : n < m
    · rw [List.getElem?_append_left (by omega)] at e3
      exact o n a b z e1 e2 e3
    · rw [List.getElem?_append_right (by omega)] at e3
      have : n = m := by
        rcases Nat.lt_or_ge m n with z | z
        · rw [List.getElem?_eq_none (show [y].length ≤ n - acc.length by show 1 ≤ _; omega)] at e3
          cases e3
        · omega
      subst this
      rw [ha, Nat.sub_self] at e3
      cases e3
      rw [h1] at e1
      rw [h2] at e2
      cases e1
      cases e2
      exact q
  · intro acc m ha ⟨_, o⟩ h1 h2 h3
    exact hd acc (by omega) o
end
end DL

set_option Elab.async false
set_option linter.all false
set_option maxRecDepth 100000
set_option maxHeartbeats 4000000
/-! a text times an int -/
namespace DL
open PySem PySem.Spec PyProof.Rows L2
end DL

set_option Elab.async false
set_option linter.all false
set_option maxRecDepth 100000
set_option maxHeartbeats 4000000
/-! dicts whose keys are tuples: owned by one name while they grow, data from then on -/
namespace DL
open PySem PySem.Spec PyProof.Rows L2
def kD : Key → D
  | .inl i => .int i
  | .inr s => .str s
abbrev tD (k : List Key) : D := .tup (k.map kD)
def has {α : Type} (kvs : List (List Key × α)) (k : List Key) : Bool := kvs.any fun kv => decide (kv.1 = k)
def look {α : Type} (kvs : List (List Key × α)) (k : List Key) : Option α := (kvs.find? fun kv => decide (kv.1 = k)).map (·.2)
/-- what stands at k from now on: in its place, or at the end -/
def putE (kvs : List (List Key × D)) (k : List Key) (d : D) : List (List Key × D) := if has kvs k = true then kvs.map (fun kv => if kv.1 = k then (kv.1, d) else kv) else kvs ++ [(k, d)]
section
variable {K : PySem.W.Frag} {I : Hp}
theorem dn_key {k : Key} {v : V} (n : Dn K I (kD k) v) : v = kV k := by
  cases k <;> cases n <;> rfl
theorem dns_keys : ∀ {ks : List Key} {xs : List V}, Dns K I (ks.map kD) xs → xs = ks.map kV
  | [], _, .nil => rfl
  | k :: ks, _, .cons h t => by rw [dn_key h, dns_keys t]; rfl
theorem key_dn : ∀ k : Key, Dn K I (kD k) (kV k)
  | .inl i => .int i
  | .inr s => .str s
theorem keys_dns : ∀ ks : List Key, Dns K I (ks.map kD) (ks.map kV)
  | [] => .nil
  | k :: ks => .cons (key_dn k) (keys_dns ks)
theorem Dnt.append : ∀ {l m : List (List Key × D)} {xs ys : List (List Key × V)}, Dnt K I l xs → Dnt K I m ys → Dnt K I (l ++ m) (xs ++ ys)
  | _, _, _, _, .nil, s => s
  | _, _, _, _, .cons h r, s => .cons h (Dnt.append r s)
theorem Dnt.length : ∀ {l : List (List Key × D)} {xs : List (List Key × V)}, Dnt K I l xs → l.length = xs.length
  | _, _, .nil => rfl
  | _, _, .cons _ r => congrArg (· + 1) (Dnt.length r)
theorem Dnt.keys : ∀ {l : List (List Key × D)} {xs : List (List Key × V)}, Dnt K I l xs → l.map (·.1) = xs.map (·.1)
  | _, _, .nil => rfl
  | _, _, .cons _ r => by simp [Dnt.keys r]
theorem Dnt.has {k : List Key} : ∀ {l : List (List Key × D)} {xs : List (List Key × V)}, Dnt K I l xs → has l k = (xs.any fun kv => decide (kv.1 = k))
  | _, _, .nil => rfl
  | _, _, .cons (f := f) _ r => by
    have := Dnt.has (k := k) r
    unfold DL.has at this ⊢
    rw [List.any_cons, List.any_cons, this]
theorem Dnt.mapK {k : List Key} {d : D} {v : V} (n : Dn K I d v) : ∀ {l : List (List Key × D)} {xs : List (List Key × V)}, Dnt K I l xs → Dnt K I (l.map fun kv => if kv.1 = k then (kv.1, d) else kv) (xs.map fun kv => if kv.1 = k then (kv.1, v) else kv)
  | _, _, .nil => .nil
  | _, _, .cons (f := f) h r => by
    rw [List.map_cons, List.map_cons]
    by_cases c : f = k
    · rw [if_pos c, if_pos c]
      exact .cons n (Dnt.mapK n r)
    · rw [if_neg c, if_neg c]
      exact .cons h (Dnt.mapK n r)
theorem Dnt.put {k : List Key} {d : D} {v : V} (n : Dn K I d v) {l : List (List Key × D)} {xs : List (List Key × V)} (m : Dnt K I l xs) : Dnt K I (putE l k d) (putK xs k v) := by
  unfold putE putK
  rw [← m.has]
  by_cases c : DL.has l k = true
  · rw [if_pos c, if_pos c]
    exact m.mapK n
  · rw [if_neg c, if_neg c]
    exact m.append (.cons n .nil)
theorem dnt_look {k : List Key} : ∀ {kvs : List (List Key × D)} {ws : List (List Key × V)}, Dnt K I kvs ws → (∀ d, look kvs k = some d → ∃ v, valV ws k = some v ∧ Dn K I d v) ∧ (look kvs k = none → valV ws k = none)
  | _, _, .nil => ⟨fun d e => by simp [look] at e, fun _ => rfl⟩
  | _, _, .cons (f := f) (d := d0) (v := v0) h t => by
    obtain ⟨a, b⟩ := dnt_look (k := k) t
    by_cases c : f = k
    · subst c
      refine ⟨fun d e => ⟨v0, valV_pos rfl, ?_⟩, fun e => by simp [look, List.find?_cons] at e⟩
      simp [look, List.find?_cons] at e
      rw [← e]
      exact h
    · refine ⟨fun d e => ?_, fun e => ?_⟩
      · rw [valV_neg c]
        refine a d ?_
        simpa [look, List.find?_cons, c] using e
      · rw [valV_neg c]
        refine b ?_
        simpa [look, List.find?_cons, c] using e
theorem look_some {kvs : List (List Key × D)} {ws : List (List Key × V)} (m : Dnt K I kvs ws) (k : List Key) : (valV ws k).isSome = (look kvs k).isSome := by
  cases e : look kvs k with
  | none => rw [(dnt_look m).2 e]; rfl
  | some d =>
    obtain ⟨v, ev, _⟩ := (dnt_look m).1 d e
    rw [ev]; rfl
theorem Dnt.get : ∀ {l : List (List Key × D)} {xs : List (List Key × V)} {i : Nat} {k : List Key} {v : V}, Dnt K I l xs → xs[i]? = some (k, v) → ∃ d, l[i]? = some (k, d) ∧ Dn K I d v
  | _, _, _, _, _, .nil, e => by simp at e
  | _, _, 0, _, _, .cons h _, e => by
    simp at e
    obtain ⟨rfl, rfl⟩ := e
    exact ⟨_, rfl, h⟩
  | _, _, i + 1, _, _, .cons _ r, e => by
    obtain ⟨d, h1, h2⟩ := Dnt.get (i := i) r (by simpa using e)
    exact ⟨d, by simpa using h1, h2⟩
end
theorem dget_of {H : Hp} {a b : Addr} {kvs : List (List Key × V)} {k : List Key} (e : Rd H a (.dT kvs)) (eb : H b = some (.tup (k.map kV))) : DGet H a (.ref b) (valV kvs k) := .inr ⟨kvs, k, b, e, rfl, eb, rfl⟩
theorem dn_tupkey {K : PySem.W.Frag} {W : Wd} {H : Hp} {g : List Code} {k : List Key} {v : V} (ok : Ok g W H) (n : Dn K W.I (tD k) v) : ∃ q, v = .ref q ∧ H q = some (.tup (k.map kV)) := by
  cases n with
  | tup h m =>
    rw [dns_keys m] at h
    exact ⟨_, rfl, ok.ex _ _ h⟩
/-! ### reading -/
/-- k in d -/
theorem op_dinT {X : Cx} (hu : X.A.units + 1 < cLine) : OpR X (compareOp .In) (fun x y H Q => ∃ p o, y = .ref p ∧ DGet H p x o ∧ Q (.bl o.isSome) H) := by
  intro pins s σ H x y v u Q I rx ry h
  obtain ⟨p, o, rfl, g, q⟩ := h
  obtain rfl : u = Value.ref p := ry
  exact d_in hu I g rx fun s3 I3 => ⟨.bl o.isSome, H, I3, rfl, q⟩
section
variable {X : Cx} {B : Hp} {W0 : Wd} {S : En} {pos px p1 : Pos} {Q : D → Prop} {QB : Bool → Prop} {a b c e value key : Expr} {es : List Expr} {E : Ends'} {x : Str} {st : Stmt} {sts : List Stmt}
/-- d[k], d data -/
theorem ed_dget (hu : X.A.units + 1 < cLine) (h : ED X B S a fun x => ED X B S b fun y => ∃ kvs k d, x = .dcT kvs ∧ y = tD k ∧ look kvs k = some d ∧ Q d) (hs : NoSl b := by exact fun _ _ => rfl) : ED X B S (.Subscript a b pos) Q := fun σ W H r R k0 => by
  refine PE.w (pe_dget hu we_pe we_pe hs) ?_
  refine h σ W H r _ fun x v W1 H1 s1 ok1 n1 q1 => ?_
  refine q1 σ W1 H1 (r.step s1 ok1) _ fun y u W2 H2 s2 ok2 n2 q2 => ?_
  obtain ⟨kvs, k, d, rfl, rfl, e, q⟩ := q2
  have n1' := n1.mono s2.I
  cases n1' with
  | @dcT _ p o ws hp m =>
    obtain ⟨bq, rfl, hb⟩ := dn_tupkey ok2 n2
    obtain ⟨z, ez, nz⟩ := (dnt_look m).1 d e
    refine ⟨p, z, rfl, ?_, ((k0.step s1 ok1).step s2 ok2).now ok2 nz q⟩
    rw [← ez]
    exact dget_of (.inr ⟨o, ok2.ex _ _ hp⟩) hb
/-- x[k], x the owner of its dict -/
theorem ed_getT (i : Nat) (kvs : List (List Key × D)) (hu : X.A.units + 1 < cLine) (hN : X.N[i]? = some x) (h : S[i]? = some (some (.ownT kvs))) (he : ED X B S b fun y => ∃ k d, y = tD k ∧ look kvs k = some d ∧ Q d) (hs : NoSl b := by exact fun _ _ => rfl)
    (hv : Vis X.env.scope x := by first | exact Or.inl rfl | exact Or.inr (Or.inl rfl) | exact Or.inr (Or.inr rfl)) (hd : (x == ("__debug__" : Str)) = false := by decide) (hcd : (x == ("__classdict__" : Str)) = false := by decide) : ED X B S (.Subscript (.Name x px) b pos) Q := fun σ W H r R k0 => by
  refine PE.w (pe_dget hu (pe_var hN hv hd hcd) we_pe hs) ?_
  obtain ⟨v, e1, p, ws, rfl, hB, n, hI, hH, d0⟩ := r.sl i _ h
  refine ⟨_, e1, he σ W H r _ fun y u W2 H2 s2 ok2 n2 q2 => ?_⟩
  obtain ⟨k, d, rfl, e, q⟩ := q2
  obtain ⟨bq, rfl, hb⟩ := dn_tupkey ok2 n2
  obtain ⟨z, ez, nz⟩ := (dnt_look (d0.mono s2.I)).1 d e
  refine ⟨p, z, rfl, ?_, (k0.step s2 ok2).now ok2 nz q⟩
  rw [← ez]
  exact dget_of (.inl (s2.keep _ _ hH n)) hb
theorem td_inT (i : Nat) (kvs : List (List Key × D)) (hu : X.A.units + 1 < cLine) (hN : X.N[i]? = some x) (h : S[i]? = some (some (.ownT kvs))) (he : ED X B S a fun y => ∃ k, y = tD k ∧ QB (look kvs k).isSome)
    (hm : behindInMarks .In (.Name x px) = false := by first | exact nomark _ | rfl) (hv : Vis X.env.scope x := by first | exact Or.inl rfl | exact Or.inr (Or.inl rfl) | exact Or.inr (Or.inr rfl)) (hd : (x == ("__debug__" : Str)) = false := by decide) (hcd : (x == ("__classdict__" : Str)) = false := by decide) : TD X B S (.Compare a [.In] [.Name x px] pos) QB := fun σ W H r R k0 => by
  refine PT.w (pt_cmpR (op_dinT hu) we_pe (pe_var hN hv hd hcd) hm) ?_
  obtain ⟨v, e1, p, ws, rfl, hB, n, hI, hH, d0⟩ := r.sl i _ h
  refine he σ W H r _ fun y u W2 H2 s2 ok2 n2 q2 => ?_
  obtain ⟨k, rfl, q⟩ := q2
  obtain ⟨bq, rfl, hb⟩ := dn_tupkey ok2 n2
  refine ⟨_, e1, p, _, rfl, dget_of (.inl (s2.keep _ _ hH n)) hb, ?_⟩
  rw [look_some (d0.mono s2.I)]
  exact ⟨_, rfl, (k0.step s2 ok2).now ok2 q⟩
end
/-! ### owned -/
section
variable {K : PySem.W.Frag} {g : List Code} {B : Hp} {S : En} {σ : L2.St} {W : Wd} {H : Hp} {i : Nat} {kvs kvs' : List (List Key × D)} {p : Addr} {ws ws' : List (List Key × V)}
theorem Rep.newT (r : Rep K g B S σ W H) (hB : B p = none) (n : ¬ W.P p) (hi : W.I p = none) (hp : H p = some (.dT ws)) (d : Dnt K W.I kvs ws) (new : ∀ (j : Nat) (m : List (List Key × D)), S[j]? = some (some (.ownT m)) → σ[j]? ≠ some (some (.ref p))) :
    Rep K g B (S.set i (some (.ownT kvs))) (σ.set i (some (.ref p))) W H where
  ok := r.ok
  gb := r.gb
  len := by simpa using r.len
  sl := fun j s e => by
    by_cases q : i = j
    · subst q
      by_cases z : i < S.length
      · rw [List.getElem?_set_self z] at e
        cases e
        exact ⟨_, List.getElem?_set_self (r.len ▸ z), p, ws, rfl, hB, n, hi, hp, d⟩
      · rw [List.getElem?_eq_none (by simpa using z)] at e
        cases e
    · rw [List.getElem?_set_ne q] at e ⊢
      exact r.sl j s e
  dist := fun a b l m q ne e1 e2 e3 => by
    have key : ∀ c l, (S.set i (some (.ownT kvs)))[c]? = some (some (Sl.own l)) → i ≠ c := fun c l e z => by
      subst z
      by_cases y : i < S.length
      · rw [List.getElem?_set_self y] at e; cases e
      · rw [List.getElem?_eq_none (by simpa using y)] at e; cases e
    have qa := key a l e1
    have qb := key b m e2
    rw [List.getElem?_set_ne qa] at e1 e3
    rw [List.getElem?_set_ne qb] at e2 ⊢
    exact r.dist a b l m q ne e1 e2 e3
  distT := fun a b la lb q ne e1 e2 e3 => by
    by_cases qa : i = a
    · subst qa
      have lt : i < σ.length := by
        rcases Nat.lt_or_ge i σ.length with z | z
        · exact z
        · rw [List.getElem?_eq_none (by simpa using z)] at e3; cases e3
      rw [List.getElem?_set_self lt] at e3
      cases e3
      rw [List.getElem?_set_ne ne] at e2 ⊢
      exact new b lb e2
    · rw [List.getElem?_set_ne qa] at e1 e3
      by_cases qb : i = b
      · subst qb
        intro e4
        have lt : i < σ.length := by
          rcases Nat.lt_or_ge i σ.length with z | z
          · exact z
          · rw [List.getElem?_eq_none (by simpa using z)] at e4; cases e4
        rw [List.getElem?_set_self lt] at e4
        cases e4
        exact new a la e1 e3
      · rw [List.getElem?_set_ne qb] at e2 ⊢
        exact r.distT a b la lb q ne e1 e2 e3
theorem Rep.putT (r : Rep K g B S σ W H) (h : S[i]? = some (some (.ownT kvs))) (e1 : σ[i]? = some (some (.ref p))) (hB : B p = none) (n : ¬ W.P p) (hI : W.I p = none) (hH : H p = some (.dT ws)) (d : Dnt K W.I kvs' ws') :
    Rep K g B (S.set i (some (.ownT kvs'))) σ W (upd H p (.dT ws')) := by
  have lt : i < S.length := (List.getElem?_eq_some_iff.mp h).1
  have key : ∀ {c : Nat} {m : List D}, (S.set i (some (.ownT kvs')))[c]? = some (some (Sl.own m)) → S[c]? = some (some (Sl.own m)) := fun {c m} ec => by
    by_cases q2 : i = c
    · subst q2
      rw [List.getElem?_set_self lt] at ec
      cases ec
    · rw [List.getElem?_set_ne q2] at ec
      exact ec
  refine ⟨ok_upd r.ok n hI, r.gb, by simpa using r.len, fun j s ej => ?_, fun a b la lb q ne e2 e3 e4 => r.dist a b la lb q ne (key e2) (key e3) e4, r.distT.setS i fun l _ => ⟨kvs, h⟩⟩
  by_cases q : i = j
  · subst q
    rw [List.getElem?_set_self lt] at ej
    cases ej
    exact ⟨_, e1, p, _, rfl, hB, n, hI, upd_same, d⟩
  · rw [List.getElem?_set_ne q] at ej
    obtain ⟨v2, e2, h2⟩ := r.sl j s ej
    refine ⟨v2, e2, ?_⟩
    cases s with
    | val d2 => exact h2
    | pot => exact h2
    | own m =>
      obtain ⟨p2, ys, rfl, b1, b2, b3, b4, b5⟩ := h2
      refine ⟨p2, ys, rfl, b1, b2, b3, ?_, b5⟩
      rw [upd_ne (fun y => by rw [y, hH] at b4; cases b4)]
      exact b4
    | ownT m =>
      obtain ⟨p2, ys, rfl, b1, b2, b3, b4, b5⟩ := h2
      refine ⟨p2, ys, rfl, b1, b2, b3, ?_, b5⟩
      rw [upd_ne (fun y => by
        rw [y] at e2
        exact r.distT i j kvs m p q h ej e1 e2)]
      exact b4
    | inst C p2 dx fs =>
      obtain ⟨vs, rfl, b1, b2, b3, b4, b5, b6, b7, b8, b9, b10⟩ := h2
      refine ⟨vs, rfl, b1, b2, b3, b4, b5, b6, b7, ?_, ?_, b10⟩
      · rw [upd_ne (fun y => by rw [y, hH] at b8; cases b8)]
        exact b8
      · rw [upd_ne (fun y => by rw [y, hH] at b9; cases b9)]
        exact b9
/-- given away: known to its object from now on -/
theorem Rep.frzT {o : Obj} (r : Rep K g B S σ W H) (h : S[i]? = some (some (.ownT kvs))) (e1 : σ[i]? = some (some (.ref p))) (hB : B p = none) (n : ¬ W.P p) (hI : W.I p = none) (hH : H p = some (.dT ws)) (d : Dnt K W.I kvs ws) :
    Rep K g B (S.set i (some (.val (.dcT kvs)))) σ (W.new p (.frz o (.dT ws))) (upd H p (.frz o (.dT ws))) := by
  have lt : i < S.length := (List.getElem?_eq_some_iff.mp h).1
  have key : ∀ {c : Nat} {m : List D}, (S.set i (some (.val (.dcT kvs))))[c]? = some (some (Sl.own m)) → S[c]? = some (some (Sl.own m)) := fun {c m} ec => by
    by_cases q2 : i = c
    · subst q2
      rw [List.getElem?_set_self lt] at ec
      cases ec
    · rw [List.getElem?_set_ne q2] at ec
      exact ec
  have ok0 : Ok g W (upd H p (.frz o (.dT ws))) := ok_upd r.ok n hI
  have ok1 := ok0.frz (p := p) upd_same n fun z => r.gb _ z hB
  refine ⟨ok1, r.gb, by simpa using r.len, fun j s ej => ?_, fun a b la lb q ne e2 e3 e4 => r.dist a b la lb q ne (key e2) (key e3) e4, r.distT.setS i fun l z => by cases z⟩
  by_cases q : i = j
  · subst q
    rw [List.getElem?_set_self lt] at ej
    cases ej
    exact ⟨_, e1, .dcT (o := o) (show upd W.I p _ p = _ from upd_same) (d.mono (Ex.new hI))⟩
  · rw [List.getElem?_set_ne q] at ej
    obtain ⟨v2, e2, h2⟩ := r.sl j s ej
    refine ⟨v2, e2, ?_⟩
    cases s with
    | val d2 => exact Dn.mono (Ex.new hI) h2
    | pot => exact h2
    | own m =>
      obtain ⟨p2, ys, rfl, b1, b2, b3, b4, b5⟩ := h2
      have ne : p2 ≠ p := fun y => by rw [y, hH] at b4; cases b4
      refine ⟨p2, ys, rfl, b1, b2, ?_, by rw [upd_ne ne]; exact b4, b5.mono (Ex.new hI)⟩
      show upd W.I p _ p2 = none
      rw [upd_ne ne]
      exact b3
    | ownT m =>
      obtain ⟨p2, ys, rfl, b1, b2, b3, b4, b5⟩ := h2
      have ne : p2 ≠ p := fun y => by
        rw [y] at e2
        exact r.distT i j kvs m p q h ej e1 e2
      refine ⟨p2, ys, rfl, b1, b2, ?_, by rw [upd_ne ne]; exact b4, b5.mono (Ex.new hI)⟩
      show upd W.I p _ p2 = none
      rw [upd_ne ne]
      exact b3
    | inst C p2 dx fs =>
      obtain ⟨vs, rfl, b1, b2, b3, b4, b5, b6, b7, b8, b9, b10⟩ := h2
      have ne : p2 ≠ p := fun y => by rw [y, hH] at b8; cases b8
      have ne2 : dx ≠ p := fun y => by rw [y, hH] at b9; cases b9
      refine ⟨vs, rfl, b1, b2, b3, b4, b5, ?_, ?_, by rw [upd_ne ne]; exact b8, by rw [upd_ne ne2]; exact b9, b10.mono (Ex.new hI)⟩
      · show upd W.I p _ p2 = none
        rw [upd_ne ne]
        exact b6
      · show upd W.I p _ dx = none
        rw [upd_ne ne2]
        exact b7
theorem stp_frzT {W0 : Wd} {o : HO} (z : Stp W0 B W H) (hB : B p = none) (hI : W.I p = none) : Stp W0 B (W.new p o) (upd H p o) :=
  (stp_upd z hB).frz hB hI
end
section
variable {X : Cx} {B : Hp} {W0 : Wd} {S : En} {pos px p1 : Pos} {Q : D → Prop} {a b c e value key : Expr} {E : Ends'} {x : Str} {st : Stmt} {sts : List Stmt}
/-- x = {} -/
theorem sd_newT {dp : Pos} (i : Nat) (hN : X.N.Nodup) (hi : X.N[i]? = some x) (q : E.nx (S.set i (some (.ownT [])))) (hx : Loc X.env.scope x := by first | exact Or.inl rfl | exact Or.inr rfl)
    (hs : swapsWith (.Dict [] [] dp) (some (.Name x px)) pos.line X.env = pure false := by rfl) (hf : X.fn x = true ∨ X.env.scope.names.lookup x = some .local := by first | exact .inl rfl | exact .inr rfl) : SD X B W0 S (.Assign [.Name x px] (.Dict [] [] dp) pos) E := fun σ W H r z D' k =>
  PS.w (ps_set hN hi hx pe_dnewT hs hf) fun p hp => k.nx _ _ W _ ((r.step (Stp.own hp) (r.ok.own hp)).newT (z.free r.ok hp) (r.ok.notP hp) (r.ok.free hp) upd_same .nil fun j m e1 e2 => by
    obtain ⟨v, e3, p2, ys, e4, _, _, _, h4, _⟩ := r.sl j _ e1
    rw [e2] at e3
    cases e3
    cases e4
    rw [hp] at h4
    cases h4) (z.trans r.ok (Stp.own hp)) (Ex.refl _) q
/-- x[k] = v, x the owner of its dict -/
theorem sd_putT (i : Nat) (kvs : List (List Key × D)) (hu : X.A.units + 1 < cLine) (hN : X.N[i]? = some x) (h : S[i]? = some (some (.ownT kvs))) (hl : kvs.length < 50000) (he : ED X B S value fun d => ED X B S key fun y => ∃ k, y = tD k ∧ E.nx (S.set i (some (.ownT (putE kvs k d)))))
    (hv : Vis X.env.scope x := by first | exact Or.inl rfl | exact Or.inr (Or.inl rfl) | exact Or.inr (Or.inr rfl)) (hd : (x == ("__debug__" : Str)) = false := by decide) (hcd : (x == ("__classdict__" : Str)) = false := by decide)
    (hs : swapsWith value (some (.Subscript (.Name x px) key p1)) pos.line X.env = pure false := by rfl) : SD X B W0 S (.Assign [.Subscript (.Name x px) key p1] value pos) E := fun σ W H r z D' k0 => by
  refine PS.w (ps_dput hu (pe_var hN hv hd hcd) we_pe we_pe hs) ?_
  obtain ⟨v0, e1, p, ws, rfl, hB, n, hI, hH, d0⟩ := r.sl i _ h
  refine he σ W H r _ fun d v W1 H1 s1 ok1 n1 q1 => ⟨_, e1, ?_⟩
  refine q1 σ W1 H1 (r.step s1 ok1) _ fun y u W2 H2 s2 ok2 n2 q2 => ?_
  obtain ⟨ks, rfl, q⟩ := q2
  obtain ⟨bq, rfl, hb⟩ := dn_tupkey ok2 n2
  have st := s1.trans ok1 s2
  have hH2 : H2 p = some (.dT ws) := st.keep _ _ hH n
  have nP : ¬ W2.P p := fun q => n (st.oldP p _ hH q)
  have hI2 : W2.I p = none := st.old p _ hH (fun _ z => by cases z) hI
  refine ⟨p, _, rfl, DPut.t hH2 hb (Nat.lt_of_lt_of_le (show ws.length < 60000 by rw [← d0.length]; omega) (by decide)), ?_⟩
  exact k0.nx _ σ W2 _ ((r.step st ok2).putT h e1 hB nP hI2 hH2 ((d0.mono st.I).put (n1.mono s2.I))) (stp_upd (z.trans r.ok st) hB) st.I q
/-- what a name owns is given away -/
theorem sds_frzT (i : Nat) (kvs : List (List Key × D)) (h : S[i]? = some (some (.ownT kvs))) (k : SDs X B W0 (S.set i (some (.val (.dcT kvs)))) sts E) : SDs X B W0 S sts E := fun σ W H r z D' q => by
  obtain ⟨v, e1, p, ws, rfl, hB, n, hI, hH, d0⟩ := r.sl i _ h
  intro pins s J
  obtain ⟨od, J'⟩ := J.lock hH True.intro
  exact k σ _ _ (r.frzT (o := od) h e1 hB n hI hH d0) (stp_frzT z hB hI) D' (q.mono (Ex.new hI)) pins s J'
/-- a new dict, not yet part of what never changes -/
def ContT (K : PySem.W.Frag) (g : List Code) (W : Wd) (H : Hp) (Q : List (List Key × D) → Prop) (R : VK) : Prop := ∀ kvs p ws W' H', Stp W H W' H' → Ok g W' H' → H p = none → ¬ W'.P p → W'.I p = none → H' p = some (.dT ws) → Dnt K W'.I kvs ws → Q kvs → R (.ref p) H'
def FT (X : Cx) (B : Hp) (S : En) (e : Expr) (Q : List (List Key × D) → Prop) : Prop := ∀ σ W H, Rep X.K (gOf X) B S σ W H → ∀ R, ContT X.K (gOf X) W H Q R → WE X e σ H R
theorem we_lock {σ : L2.St} {H : Hp} {R : VK} (h : WE X e σ H fun v H' => ∃ p ws, v = .ref p ∧ H' p = some (.dT ws) ∧ ∀ od, R (.ref p) (upd H' p (.frz od (.dT ws)))) : WE X e σ H R := fun pins s I => by
  refine wpAny_mono (h pins s I) (fun u s' hq => ?_) fun _ _ q => q
  obtain ⟨v, H', I', rv, p, ws, rfl, hp, q⟩ := hq
  obtain ⟨od, J⟩ := I'.lock hp True.intro
  exact ⟨.ref p, _, J, rv, q od⟩
theorem ed_ft (h : FT X B S e fun kvs => Q (.dcT kvs)) : ED X B S e Q := fun σ W H r R k => we_lock (by
  refine h σ W H r _ fun kvs p ws W' H' st ok hp n i hl d q => ⟨p, ws, rfl, hl, fun od => ?_⟩
  have ok0 : Ok (gOf X) W' (upd H' p (.frz od (.dT ws))) := ok_upd ok n i
  have ok1 := ok0.frz (p := p) upd_same n fun z => (r.ok.gd _ z).2.1 hp
  exact k (.dcT kvs) (.ref p) _ _ ((stp_upd st hp).frz hp i) ok1 (.dcT (o := od) (show upd W'.I p _ p = _ from upd_same) (d.mono (Ex.new i))) q)
end
end DL

set_option Elab.async false
set_option linter.all false
set_option maxRecDepth 100000
set_option maxHeartbeats 4000000
/-! dicts that are data: walked, told as lists, sorted -/
namespace DL
open PySem PySem.Spec PyProof.Rows L2
section
variable {g : List Code} {W : Wd} {H : Hp}
/-- a tuple of plain things that stands in the heap may be told as data -/
theorem ext1 {q : Addr} {ks : List Key} (ok : Ok g W H) (h : H q = some (.tup (ks.map kV))) : ∃ W', Stp W H W' H ∧ Ok g W' H ∧ W'.I q = some (.tup (ks.map kV)) := by
  cases e : W.I q with
  | some o =>
    have := ok.ex q o e
    rw [h] at this
    cases this
    exact ⟨W, Stp.refl, ok, e⟩
  | none =>
    have nP : ¬ W.P q := fun z => by
      obtain ⟨x, y, e2, _⟩ := (ok.pot q z).2
      rw [h] at e2
      cases e2
    have ng : ¬ InG g q := fun z => (ok.gd q z).2.2 ks h
    refine ⟨W.new q (.tup (ks.map kV)), ⟨Ex.new e, fun _ z => z, fun _ _ hb _ => hb, fun b u hb t n => ?_, fun _ _ _ z => z⟩, ok.frz h nP ng, show upd W.I q _ q = _ from upd_same⟩
    show upd W.I q _ b = none
    rw [upd_ne (fun y => by
      subst y
      rw [h] at hb
      exact t _ (Option.some.inj hb).symm)]
    exact n
theorem extN {kvs : List (List Key × V)} {bs : List Addr} (hk : IsKeys H kvs bs) (ok : Ok g W H) : ∃ W', Stp W H W' H ∧ Ok g W' H ∧ Paired (fun p b => W'.I b = some (.tup (p.1.map kV))) kvs bs := by
  unfold IsKeys at hk
  induction hk generalizing W with
  | nil => exact ⟨W, Stp.refl, ok, .nil⟩
  | @cons p b kvs bs h t ih =>
    obtain ⟨W1, s1, ok1, e1⟩ := ext1 ok h
    obtain ⟨W2, s2, ok2, e2⟩ := ih ok1
    exact ⟨W2, s1.trans ok1 s2, ok2, .cons (s2.I _ _ e1) e2⟩
end
/-- the keys, as tuples -/
def keysD (kvs : List (List Key × D)) : List D := kvs.map fun p => tD p.1
theorem dns_keysOf {K : PySem.W.Frag} {I : Hp} : ∀ {kvs : List (List Key × D)} {ws : List (List Key × V)} {bs : List Addr}, Dnt K I kvs ws → Paired (fun p b => I b = some (.tup (p.1.map kV))) ws bs → Dns K I (keysD kvs) (bs.map V.ref)
  | _, _, _, .nil, .nil => .nil
  | _, _, _, .cons (f := f) _ r, .cons h t => .cons (.tup h (keys_dns f)) (dns_keysOf r t)
section
variable {X : Cx} {B : Hp} {W0 : Wd} {S : En} {pos px p1 p : Pos} {Q : D → Prop} {a b c e : Expr} {E : Ends'} {x : Str} {st : Stmt} {sts : List Stmt} {kvs : List (List Key × D)}
/-- [elt for g in d] -/
theorem fd_lcK {elt tg iter : Expr} {scope : Scope} {own : List (Str × Nat)} {g : TG} {Q : List D → Prop} (J : Nat → List D → Prop) (S' : D → En) (hc : X.calm = true) (hN : X.N.Nodup) (ok : BlkOk X.N X.env.scope scope own)
    (hg : ∀ (s : Shared) (H : Hp) (C : Addr) (cl : List (Str × Addr)) (fp : List Addr), PG (X.blk s H scope (compEnvC scope cl C X.env) fp) tg g)
    (h : ED X B S iter fun d => d = .dcT kvs ∧ kvs.length ≤ 50000 ∧ J 0 []) (hp : ∀ d, Pat X.K g (own.map (·.2)) S d (S' d))
    (he : ∀ (i : Nat) k d acc, kvs[i]? = some (k, d) → acc.length = i → J i acc → ∀ (s : Shared) (H0 : Hp) (C : Addr) (cl : List (Str × Addr)) (fp : List Addr), ED (X.blk s H0 scope (compEnvC scope cl C X.env) fp) B (S' (tD k)) elt fun y => J (i + 1) (acc ++ [y]))
    (hd : ∀ acc, acc.length = kvs.length → J kvs.length acc → Q acc) (hs : ∀ x, foldedSetIterable iter X.env x = pure x := by intro _; rfl) : FD X B S (.ListComp elt [⟨tg, iter, [], 0⟩] scope pos) Q := fun σ W H r R k => by
  refine PE.w (pe_lc (te := WEb X scope elt) hc hN (pi_keys we_pe) ok hg (fun _ _ _ _ _ => pts_nil) web_pe hs) ?_
  refine h σ W H r _ fun d v W1 H1 s1 ok1 n1 q1 => ?_
  obtain ⟨rfl, hz, j0⟩ := q1
  cases n1 with
  | @dcT _ a o ws ha m =>
    have hlw := m.length
    refine ⟨a, o, rfl, .inr ⟨ws, ok1.ex _ _ ha, fun p hp0 => ?_⟩⟩
    have r1 := r.step s1 ok1
    refine lc_it walk_keysT (fun i H' => ∃ acc W', Mid X.K (gOf X) W1 H1 p acc W' H' ∧ acc.length = i ∧ J i acc) ⟨[], W1, ⟨Stp.own hp0, ok1.own hp0, ok1.notP hp0, ok1.free hp0, [], upd_same, .nil⟩, rfl, j0⟩
      (fun i H' _ ⟨acc, W', mm, _⟩ => mm.ok.ex _ _ (mm.st.I _ _ ha)) ?_ ?_
    · rintro i y H' H2 hi ⟨acc, W', mm, hl, j⟩ ⟨rfl, k1, v1, q, hw, rfl, hq⟩
      obtain ⟨d, hd', nd⟩ := m.get hw
      obtain ⟨W2, s2, ok2, hI⟩ := ext1 mm.ok hq
      have mm2 := mm.step s2 ok2
      have r2 := r1.step mm2.st mm2.ok
      refine hp (tD k1) (gOf X) B σ W2 H2 _ r2 (.tup hI (keys_dns k1)) _ fun σ2 e2 r3 => ⟨e2, ?_⟩
      show WEb X scope elt σ2 H2 _
      intro s H0 C cl fp
      refine he i k1 d acc hd' hl j s H0 C cl fp σ2 W2 H2 r3 _ fun y W3v W3 H3 s3 ok3 n3 q3 => ?_
      obtain ⟨xs', e1, e3, m3⟩ := (mm2.step s3 ok3).more hp0 n3 (by omega)
      exact ⟨xs', e1, e3, _, W3, m3, by simp [hl], q3⟩
    · rintro H' ⟨acc, W', mm, hl, j⟩
      obtain ⟨ys, hH, ds⟩ := mm.h
      rw [← hlw] at hl j
      exact k acc p ys W' H' (s1.trans ok1 mm.st) mm.ok (s1.free ok1 hp0) mm.n mm.i hH ds (hd acc hl j)
/-- len(d) -/
theorem call_len_dTr : CallR X (.builtin "len") (fun xs H Q => ∃ a ws, xs = [V.ref a] ∧ Rd H a (.dT ws) ∧ Q (.int (ws.length : Int)) H) := by
  intro pins t τ H xs us Q J r q
  obtain ⟨a, ws, rfl, ha, q⟩ := q
  rw [Vals.ref1 r]
  obtain ⟨z, hd, ys, rel, dd⟩ := dt_rd J.hok ha
  have e : ws.length = ys.length := Paired.length rel
  have z' : ys.length ≤ sizeLine := e ▸ z
  refine call_len_dictH hd dd (by rw [sizeLine_eq] at z'; omega) ?_
  rw [← e]
  exact ⟨.int (ws.length : Int), H, J.tok _, ⟨_, rfl⟩, q⟩
theorem cd_lenT (q : Q (.int (kvs.length : Int))) : CD X (.builtin "len") [.val (.dcT kvs)] Q := cd_of call_len_dTr fun vs W H ok ha R c => by
  obtain ⟨v, rfl, m⟩ := one_arg ha
  cases m with
  | @dcT _ a o ws hp m =>
    refine ⟨a, ws, rfl, .inr ⟨o, ok.ex _ _ hp⟩, ?_⟩
    rw [← m.length]
    exact c.now ok (.int _) q
end
end DL

set_option Elab.async false
set_option linter.all false
set_option maxRecDepth 100000
set_option maxHeartbeats 4000000
/-! {k: v for ..}, the keys tuples; lists of tuples of ints sorted -/
namespace DL
open PySem PySem.Spec PyProof.Rows L2
section
variable {X : Cx}
/-- one entry more, by a comprehension -/
theorem put_dT {pins : List (Addr × Obj)} {τ : L2.St} {G : Hp} {t : Shared} {E : Value → Shared → Prop} {D b : Addr} {ws : List (List Key × V)} {ks : List Key} {z : V} {u : Value} {R : Unit → Shared → Prop} (hu : X.A.units + 1 < cLine) (J : Inv X pins τ G t) (hD : G D = some (.dT ws)) (hw : ws.length < sizeLine)
    (hb : G b = some (.tup (ks.map kV))) (rz : RelV z u) (k : ∀ t', Inv X pins τ (upd G D (.dT (putK ws ks z))) t' → R () t') : wpAny (model X.prog X.w) X.A (dictSet D (.ref b) u) R E t := by
  obtain ⟨le, ns, ys, rel, at_⟩ := dt_of J.hok hD
  have le2 : ys.length ≤ sizeLine := (Paired.length rel) ▸ le
  have fit : (putK ws ks z).length ≤ sizeLine := Nat.le_trans (length_putK ws ks z) hw
  refine wpAny_dictSet_heap (hsz := le2) (Nat.lt_of_succ_lt hu) (key_of J.hok hb) at_ fun h' at2 same => k _ ?_
  obtain ⟨oD, es, ep, gD, x1, x2, x3, _, x5⟩ := at2
  refine d_write J (by rw [hD]; trivial) same ⟨oD, gD⟩ ⟨fit, ns, _, KT.keeps (rel.put ks hb rz) (fun c zs ec => ?_), oD, es, ep, gD, x1, x2, x3, x5⟩
  have : c ≠ D := fun e => by rw [e, hD] at ec; cases ec
  rw [upd_ne this, ec]
/-- {k: v for g in ..}: D the new dict -/
def tDcT (wi : TI) (g : TG) (tk tv : TE) (vs : List Nat) : TE := fun σ H Q => wi σ H fun Y H1 => ∀ D, H1 D = none → ∃ Z : Nat → Nat → Hp → Prop, (∃ m, Z 0 m (upd H1 D (.dT []))) ∧ ∀ i m G, Z i m G →
  (Y.stop i G ∧ Q (.ref D) G) ∨ (Y.go i G ∧ ∃ Nx : Hp → Prop, (∀ G', Nx G' → ∃ m', m' < m ∧ Z (i + 1) m' G') ∧ ∀ x G', Y.yld i G x G' → g x (wipe σ vs) G' fun τ G2 => wipe τ vs = wipe σ vs ∧
    tk τ G2 fun y G3 => tv τ G3 fun z G4 => ∃ ws ks b, y = .ref b ∧ G4 b = some (.tup (ks.map kV)) ∧ G4 D = some (.dT ws) ∧ ws.length < sizeLine ∧ Nx (upd G4 D (.dT (putK ws ks z))))
theorem pe_dcT {kx vx tg iter : Expr} {scope : Scope} {own : List (Str × Nat)} {pos : Pos} {wi : TI} {g : TG} {tk tv : TE} (hc : X.calm = true) (hu : X.A.units + 1 < cLine) (hN : X.N.Nodup) (hi : PI X tg iter wi) (ok : BlkOk X.N X.env.scope scope own) (hg : AllBlk X scope fun Y => PG Y tg g)
    (hk : AllBlk X scope fun Y => PE Y kx tk) (hv : AllBlk X scope fun Y => PE Y vx tv) (hs : ∀ x, foldedSetIterable iter X.env x = pure x := by intro _; rfl) : PE X (.DictComp kx vx [⟨tg, iter, [], 0⟩] scope pos) (tDcT wi g tk tv (own.map (·.2))) := by
  refine ⟨fun pins t σ H Q J h => ?_⟩
  rw [arm_eval_DictComp]
  have known : ∀ y ∈ scope.names, y.2 = .free → ∃ c, X.env.cells.lookup y.1 = some c := fun y my e => (ok.free y my e).elim (fun k => J.ok.has _ (Or.inl k)) (fun k => J.ok.has _ (Or.inr k))
  refine wpAny_comprehension_free rfl hs (closure_ok known) ok.kind (fun y my e => (ok.uniq y my).trans (congrArg some e)) (thn (hi.run pins t σ H _ J h) fun xv t1 hx => thn hx fun itv t2 hit => ?_)
  obtain ⟨it, fp, tn, Y, H2, rfl, J2, T, stay, fpOk, turns⟩ := hit
  refine wpAny_newObj_type (newEnv_comp ?_)
  generalize eD : t2.heap.objs.size = D
  obtain ⟨Z, ⟨m0, z0⟩, turn⟩ := turns D (J2.hok.fresh (Nat.le_of_eq eD))
  generalize e3 : ({ t2 with heap := t2.heap.push { cls := .type "dict", data := .dict #[] } } : Shared) = t3
  have hp3 : t3.heap = t2.heap.push { cls := .type "dict", data := .dict #[] } := by rw [← e3]
  have J3 : Inv X pins σ (upd H2 D (.dT [])) t3 := by
    subst e3 eD
    exact J2.laid (t' := t2.toks) (fun b o e => Heap.get?_push_of_some _ e) (Nat.le_refl _) (dt_empty t2.heap J2.big)
  have below : ∀ b ∈ fp, b < D := fun b mb => by
    obtain ⟨o, e, _⟩ := T.obj _ _ stay b mb
    exact eD ▸ Heap.lt_size e
  generalize eG : upd H2 D (.dT []) = G0 at J3 z0
  have fp3 : ∀ b ∈ fp, FpOk X pins G0 b ∧ b < t3.heap.objs.size := fun b mb => by
    have lt := below b mb
    refine ⟨⟨?_, (fpOk b mb).2⟩, by rw [hp3, Heap.size_push, eD]; exact Nat.lt_succ_of_lt lt⟩
    rw [← eG, upd_ne (Nat.ne_of_lt lt)]
    exact (fpOk b mb).1
  have stay3 : tn 0 t3.heap := T.keep _ _ _ stay fun b _ o e => hp3 ▸ Heap.get?_push_of_some _ e
  have J4 := block_start J3 ok hN fp3
  generalize eC : cellsFrom (t3.heap.objs.size + 1) scope.names (cloFrom X.env.cells scope.names []) = cs at J4
  have pg := hg t3 G0 t3.heap.objs.size cs fp
  have pk := hk t3 G0 t3.heap.objs.size cs fp
  have pv := hv t3 G0 t3.heap.objs.size cs fp
  generalize eE : compEnvC scope cs t3.heap.objs.size X.env = ce at J4 pg pk pv
  have loc : ce.locals = t3.heap.objs.size := by rw [← eE]; rfl
  have start : codeAny (model X.prog X.w) X.A (.compStart (.DictComp kx vx [⟨tg, iter, [], 0⟩] scope pos) 0 (.ref it) (.ref D) ce) (compPost (model X.prog X.w) X.A X.xe none (EP X pins σ Q) (.ref D) t3.heap.objs.size)
      { t3 with heap := pushCells (t3.heap.push { cls := .type "dict", data := .dict #[] }) scope.names } := by
    generalize e4 : ({ t3 with heap := pushCells (t3.heap.push { cls := .type "dict", data := .dict #[] }) scope.names } : Shared) = t4 at J4
    have stay4 : tn 0 t4.heap := T.keep _ _ _ stay3 fun b _ o e => by rw [← e4]; exact pushCells_keeps _ _ _ _ (Heap.get?_push_of_some _ e)
    have fpS : ∀ {τ : L2.St} {G : Hp} {u : Shared}, Inv (X.blk t3 G0 scope ce fp) [] τ G u → (∀ b ∈ fp, G b = none) → ∀ b ∈ fp, FpOk (X.blk t3 G0 scope ce fp) [] G b := fun {τ G u} I' no b mb =>
      ⟨no b mb, (I'.ok.exf b mb).1, I'.ok.exfs b mb, .inl mb, fun x c e => (I'.ok.exf b mb).2 x c e, fun p mp => absurd (show p ∈ ([] : List (Addr × Obj)) ++ [] from mp) (by simp)⟩
    have goes : codeAny (model X.prog X.w) X.A (.compLoop (.DictComp kx vx [⟨tg, iter, [], 0⟩] scope pos) 0 (.ref it) (.ref D) ce) (compPost (model X.prog X.w) X.A X.xe none (EP X pins σ Q) (.ref D) t3.heap.objs.size) t4 := by
      refine compLoop_anyD (fun n u => ∃ i G, Inv (X.blk t3 G0 scope ce fp) [] (wipe σ (own.map (·.2))) G u ∧ tn i u.heap ∧ (∀ b ∈ fp, G b = none) ∧ Z i n G) ?_ m0 ⟨0, G0, J4, stay4, fun b mb => (fp3 b mb).1.1, z0⟩
      rintro n t5 ⟨i, G5, J5, stay5, no5, z5⟩
      rcases turn i n G5 z5 with ⟨stop, fin⟩ | ⟨go, Nx, less, step⟩
      · refine thnF (T.done (X.blk t3 G0 scope ce fp) rfl rfl rfl hc i [] t5 _ G5 (fun _ _ => False) J5 (fpS J5 no5) stay5 stop) fun r t6 ⟨er, J6⟩ => ?_
        subst er
        have J7 : Inv X pins σ G5 t6 := J3.call' (ch := fp) J6.os J6.base J6.hok J6.bare fun b mb => by
          obtain ⟨_, a1, a2, a3, a4, a5⟩ := (fp3 b mb).1
          exact ⟨a3, a1, a4, a5⟩
        obtain ⟨m, ns, _⟩ := J6.loc
        have ns' : t6.heap.Ns ce.locals m := ns
        rw [loc] at ns'
        have noC : G5 t3.heap.objs.size = none := by
          have := J6.free
          rw [show (X.blk t3 G0 scope ce fp).env.locals = ce.locals from rfl, loc] at this
          exact this
        obtain ⟨f0, f1, f2, f3, f4, f5⟩ := J3.fpOk (H' := G5) (Nat.le_refl _) noC
        exact ⟨m, ns', fun h'' sb => ⟨.ref D, G5, J7.turned (t' := t6.toks) (fun b o nb e => (sb.2 b nb).trans e) f0 f1 f3 f4 f5, rfl, fin⟩⟩
      · refine thnF (T.item (X.blk t3 G0 scope ce fp) rfl rfl rfl hc i [] t5 _ G5 (fun _ _ => False) J5 (fpS J5 no5) stay5 go) fun r t6 ⟨u, er, goes6⟩ => ?_
        subst er
        refine thnF goes6 fun _ t7 ⟨x, G7, J7, r7, y7, stay7, no7⟩ => ?_
        refine thnF (pg.run _ t7 _ G7 x u _ (J7.pinned (fpS J7 no7) (T.obj _ _ stay7)) r7 (step x G7 y7)) fun _ t8 ⟨τ, G8, J8, wiped, q8⟩ => ?_
        refine thnF ((pts_nil (X := X.blk t3 G0 scope ce fp)).run _ t8 τ G8 (fun b G => b = true ∧ G = G8) J8 ⟨rfl, rfl⟩) fun b t9 ⟨G9, J9, eb, eG9⟩ => ?_
        subst eb eG9
        show wpAny _ _ (eval kx ce) _ _ t9
        refine thnF (pk.run _ t9 τ G9 _ J9 q8) fun kv ta ⟨y, Ga, Ja, ry, qa⟩ => ?_
        refine thnF (pv.run _ ta τ Ga _ Ja qa) fun vv tb ⟨w', Gb, Jb, rw', ws, ks, q, ey, hq, hD, hw, nx⟩ => ?_
        subst ey
        cases (show kv = Value.ref q from ry)
        refine put_dT (X := X.blk t3 G0 scope ce fp) hu Jb hD hw hq rw' fun tc Jc => ?_
        obtain ⟨m', lt, z6⟩ := less _ nx
        have same : ∀ b ∈ fp, ∀ o, t7.heap.get? b = some o → tc.heap.get? b = some o ∧ upd Gb D (.dT (putK ws ks w')) b = none := fun b mb o e => by
          have z := Jc.pin (b, o) (List.mem_append_right _ (List.mem_append_right _ (mem_pinsAt mb e)))
          exact ⟨z.1, z.2.1⟩
        have hl : (wipe σ (own.map (·.2))).length = τ.length := by rw [← wiped, wipe_length]
        refine ⟨m', lt, i + 1, _, (Jc.unpinned (pins := [])).weak hl (fun j v e => ?_), T.keep _ _ _ stay7 fun b mb o e => (same b mb o e).1, fun b mb => ?_, z6⟩
        · rw [← wiped] at e
          exact (wipe_some e).1
        · obtain ⟨o, e, _⟩ := T.obj _ _ stay7 b mb
          exact (same b mb o e).2
    exact codeAny_compStart_dict goes (T.self X.A 0 _ _ _ stay4 goes)
  rw [← eE] at start
  exact start
end
end DL

set_option Elab.async false
set_option linter.all false
set_option maxRecDepth 100000
set_option maxHeartbeats 4000000
/-! {k: v for .. in a list}; sorted of tuples of ints, as data -/
namespace DL
open PySem PySem.Spec PyProof.Rows L2
theorem putE_len (kvs : List (List Key × D)) (k : List Key) (d : D) : (putE kvs k d).length ≤ kvs.length + 1 := by
  unfold putE
  split
  · rw [List.length_map]; omega
  · simp
theorem dct_it {J : It} {n : Nat} {G : Hp → Prop} {Y : Nat → Hp → V → Hp → Prop} (w : Walk J n G Y) {g : TG} {tk tv : TE} {vs : List Nat} {σ : L2.St} {H1 : Hp} {D : Addr} {Qd : Hp → Prop} (Pv : Nat → Hp → Prop) (h0 : Pv 0 (upd H1 D (.dT []))) (hG : ∀ i H, i ≤ n → Pv i H → G H)
    (hs : ∀ i x H H', i < n → Pv i H → Y i H x H' → g x (wipe σ vs) H' fun σ2 H2 => wipe σ2 vs = wipe σ vs ∧ tk σ2 H2 fun y H3 => tv σ2 H3 fun z H4 => ∃ ws ks b, y = .ref b ∧ H4 b = some (.tup (ks.map kV)) ∧ H4 D = some (.dT ws) ∧ ws.length < sizeLine ∧ Pv (i + 1) (upd H4 D (.dT (putK ws ks z)))) (hd : ∀ H, Pv n H → Qd H) :
    ∃ Z : Nat → Nat → Hp → Prop, (∃ m, Z 0 m (upd H1 D (.dT []))) ∧ ∀ i m H, Z i m H → (J.stop i H ∧ Qd H) ∨ (J.go i H ∧ ∃ Nx : Hp → Prop, (∀ H', Nx H' → ∃ m', m' < m ∧ Z (i + 1) m' H') ∧ ∀ x H', J.yld i H x H' → g x (wipe σ vs) H' fun σ2 H2 => wipe σ2 vs = wipe σ vs ∧
      tk σ2 H2 fun y H3 => tv σ2 H3 fun z H4 => ∃ ws ks b, y = .ref b ∧ H4 b = some (.tup (ks.map kV)) ∧ H4 D = some (.dT ws) ∧ ws.length < sizeLine ∧ Nx (upd H4 D (.dT (putK ws ks z)))) := by
  refine ⟨fun i m H => m = n - i ∧ i ≤ n ∧ Pv i H, ⟨n, rfl, Nat.zero_le _, h0⟩, fun i m H ⟨em, hi, p⟩ => ?_⟩
  have hg := hG i H hi p
  rcases Nat.lt_or_ge i n with lt | ge
  · exact .inr ⟨w.goes i H lt hg, Pv (i + 1), fun H' p' => ⟨n - (i + 1), by omega, rfl, lt, p'⟩, fun x H' y => hs i x H H' lt p (w.yields i H x H' lt hg y)⟩
  · have : i = n := by omega
    subst this
    exact .inl ⟨w.stops H hg, hd H p⟩
/-- at an address of one's own: the dict so far -/
structure MidT (K : PySem.W.Frag) (g : List Code) (W1 : Wd) (H1 : Hp) (p : Addr) (l : List (List Key × D)) (W : Wd) (H : Hp) : Prop where
  st : Stp W1 H1 W H
  ok : Ok g W H
  n : ¬ W.P p
  i : W.I p = none
  h : ∃ ws, H p = some (.dT ws) ∧ Dnt K W.I l ws
theorem MidT.step {K : PySem.W.Frag} {g : List Code} {W1 W W2 : Wd} {H1 H H2 : Hp} {p : Addr} {l : List (List Key × D)} (m : MidT K g W1 H1 p l W H) (a : Stp W H W2 H2) (ok : Ok g W2 H2) : MidT K g W1 H1 p l W2 H2 := by
  obtain ⟨ws, hp, d⟩ := m.h
  exact ⟨m.st.trans m.ok a, ok, fun z => m.n (a.oldP p _ hp z), a.old p _ hp (fun _ z => by cases z) m.i, ws, a.keep p _ hp m.n, d.mono a.I⟩
theorem MidT.more {K : PySem.W.Frag} {g : List Code} {W1 W : Wd} {H1 H : Hp} {p : Addr} {l : List (List Key × D)} {k : List Key} {d : D} {v : V} (hp0 : H1 p = none) (m : MidT K g W1 H1 p l W H) (hd : Dn K W.I d v) (hl : l.length < 60000) :
    ∃ ws, H p = some (.dT ws) ∧ ws.length < sizeLine ∧ MidT K g W1 H1 p (putE l k d) W (upd H p (.dT (putK ws k v))) := by
  obtain ⟨ws, hp, ds⟩ := m.h
  exact ⟨ws, hp, Nat.lt_of_lt_of_le (ds.length ▸ hl) (by decide), stp_upd m.st hp0, ok_upd m.ok m.n m.i, m.n, m.i, _, upd_same, ds.put hd⟩
section
variable {X : Cx} {B : Hp} {W0 : Wd} {S : En} {pos px p1 p : Pos} {Q : D → Prop} {a b c e : Expr} {E : Ends'} {x : Str} {kvs : List (List Key × D)}
/-- {kx: vx for g in a list} -/
theorem ft_dcL {kx vx tg iter : Expr} {scope : Scope} {own : List (Str × Nat)} {g : TG} {l : List D} {Q : List (List Key × D) → Prop} (J : Nat → List (List Key × D) → Prop) (S' : D → En) (hc : X.calm = true) (hu : X.A.units + 1 < cLine) (hN : X.N.Nodup) (ok : BlkOk X.N X.env.scope scope own)
    (hg : AllBlk X scope fun Y => PG Y tg g) (h : ED X B S iter fun d => d = .lst l ∧ l.length ≤ 50000 ∧ J 0 []) (hp : ∀ d ∈ l, Pat X.K g (own.map (·.2)) S d (S' d))
    (he : ∀ (i : Nat) d acc, l[i]? = some d → J i acc → AllBlk X scope fun Y => ED Y B (S' d) kx fun y => ∃ k, y = tD k ∧ AllBlk X scope fun Y => ED Y B (S' d) vx fun z => J (i + 1) (putE acc k z))
    (hd : ∀ acc, J l.length acc → Q acc) (hs : ∀ x, foldedSetIterable iter X.env x = pure x := by intro _; rfl) : FT X B S (.DictComp kx vx [⟨tg, iter, [], 0⟩] scope pos) Q := fun σ W H r R k => by
  refine PE.w (pe_dcT (tk := WEb X scope kx) (tv := WEb X scope vx) hc hu hN (pi_list we_pe) ok hg web_pe web_pe hs) ?_
  refine h σ W H r _ fun d v W1 H1 s1 ok1 n1 q1 => ?_
  obtain ⟨rfl, hz, j0⟩ := q1
  cases n1 with
  | @lst _ a xs ha m =>
    refine ⟨a, rfl, ⟨xs, SqL.of (ok1.ex _ _ ha)⟩, fun p hp0 => ?_⟩
    have r1 := r.step s1 ok1
    have hlx := m.length
    refine dct_it walk_list (fun i H' => ∃ acc W', MidT X.K (gOf X) W1 H1 p acc W' H' ∧ acc.length ≤ i ∧ J i acc) ⟨[], W1, ⟨Stp.own hp0, ok1.own hp0, ok1.notP hp0, ok1.free hp0, [], upd_same, .nil⟩, Nat.le_refl _, j0⟩
      (fun i H' _ ⟨acc, W', mm, _⟩ => SqL.of (mm.ok.ex _ _ (mm.st.I _ _ ha))) ?_ ?_
    · rintro i y H' H2 hi ⟨acc, W', mm, hl, j⟩ ⟨rfl, hx⟩
      obtain ⟨d, hd', nd⟩ := m.get hx
      have r2 := r1.step mm.st mm.ok
      refine hp d (List.mem_of_getElem? hd') (gOf X) B σ W' H2 y r2 (nd.mono mm.st.I) _ fun σ2 e2 r3 => ⟨e2, ?_⟩
      show WEb X scope kx σ2 H2 _
      intro s H0 C cl fp
      refine he i d acc hd' j s H0 C cl fp σ2 W' H2 r3 _ fun y W3v W3 H3 s3 ok3 n3 q3 => ?_
      obtain ⟨k1, rfl, q3⟩ := q3
      obtain ⟨bq, rfl, hb⟩ := dn_tupkey ok3 n3
      show WEb X scope vx σ2 H3 _
      intro s' H0' C' cl' fp'
      refine q3 s' H0' C' cl' fp' σ2 W3 H3 (r3.step s3 ok3) _ fun z W4v W4 H4 s4 ok4 n4 q4 => ?_
      have st := s3.trans ok3 s4
      obtain ⟨ws, e1, e3, m4⟩ := (mm.step st ok4).more (k := k1) hp0 n4 (by omega)
      have hb4 : H4 bq = some (.tup (k1.map kV)) := s4.keep _ _ hb fun z => by
        obtain ⟨x1, x2, e, _⟩ := (ok3.pot bq z).2
        rw [hb] at e
        cases e
      exact ⟨ws, k1, bq, rfl, hb4, e1, e3, _, W4, m4, Nat.le_trans (putE_len _ _ _) (by omega), q4⟩
    · rintro H' ⟨acc, W', mm, hl, j⟩
      obtain ⟨ys, hH, ds⟩ := mm.h
      rw [← hlx] at j
      exact k acc p ys W' H' (s1.trans ok1 mm.st) mm.ok (s1.free ok1 hp0) mm.n mm.i hH ds (hd acc j)
end
/-! ### sorted -/
abbrev tI (l : List Int) : D := .tup (l.map D.int)
abbrev ik (l : List Int) : List Key := l.map Sum.inl
theorem tD_ik (l : List Int) : tD (ik l) = tI l := by simp [tD, tI, ik, kD, Function.comp_def]
section
variable {K : PySem.W.Frag} {I : Hp}
theorem dns_perm {ys xs : List V} (p : ys.Perm xs) : ∀ {ls : List (List Int)}, Dns K I (ls.map tI) xs → ∃ ls' : List (List Int), ls'.Perm ls ∧ Dns K I (ls'.map tI) ys := by
  induction p with
  | nil =>
    intro ls h
    exact ⟨ls, .refl _, h⟩
  | cons x _ ih =>
    intro ls h
    match ls, h with
    | l :: ls, .cons h1 h2 =>
      obtain ⟨ls', q, h3⟩ := ih h2
      exact ⟨l :: ls', q.cons l, .cons h1 h3⟩
  | swap x y zs =>
    intro ls h
    match ls, h with
    | a :: b :: ls, .cons h1 (.cons h2 h3) => exact ⟨b :: a :: ls, .swap a b ls, .cons h2 (.cons h1 h3)⟩
  | trans _ _ ih1 ih2 =>
    intro ls h
    obtain ⟨l1, q1, h1⟩ := ih2 h
    obtain ⟨l2, q2, h2⟩ := ih1 h1
    exact ⟨l2, q2.trans q1, h2⟩
theorem dn_tupI {W : Wd} {H : Hp} {g : List Code} (ok : Ok g W H) {l : List Int} {v : V} (n : Dn K W.I (tI l) v) : TupI K H v l := by
  cases n with
  | tup h m =>
    rw [Dns.ints m] at h
    exact ⟨_, rfl, SqT.of (ok.ex _ _ h)⟩
theorem dns_pair {W : Wd} {H : Hp} {g : List Code} (ok : Ok g W H) {R : List Int → List Int → Prop} : ∀ {ls : List (List Int)} {ys : List V}, Dns K W.I (ls.map tI) ys → ys.Pairwise (fun x y => ∀ n m, TupI K H x n → TupI K H y m → R n m) → ls.Pairwise R
  | [], _, _, _ => .nil
  | l :: ls, _, .cons h1 h2, p => by
    rw [List.pairwise_cons] at p
    refine .cons (fun l' hl' => ?_) (dns_pair ok h2 p.2)
    obtain ⟨j, hj, e⟩ := List.getElem_of_mem hl'
    obtain ⟨v, hv, nv⟩ := h2.get' (i := j) (d := tI l') (by rw [List.getElem?_map, List.getElem?_eq_getElem hj, e]; rfl)
    exact p.1 v (List.mem_of_getElem? hv) l l' (dn_tupI ok h1) (dn_tupI ok nv)
end
end DL

set_option Elab.async false
set_option linter.all false
set_option maxRecDepth 100000
set_option maxHeartbeats 4000000
/-! sorted(d), the keys tuples of ints -/
namespace DL
open PySem PySem.Spec PyProof.Rows L2
theorem keyPairs {H : Hp} {P : Program} {w : World} {h : Heap} (ok : HOk P w H h) : ∀ {kvs : List (List Key × V)} {ks : List (List Key × Addr × Value)}, KT H kvs ks → IsKeys H kvs (ks.map fun x => x.2.1)
  | _, _, .nil => .nil
  | _, _, .cons h t => .cons h.2.1 (keyPairs ok t)
theorem accKeys {ks : List (List Key × Addr × Value)} {es : Array DictEntry} {acc : List Value} {P : Program} {w : World} (he : es.toList = ks.map (entryOfKey (tupleKind (mixKind P w)))) (hl : acc.length = ks.length) (hi : ∀ (j : Nat) v, acc[j]? = some v → ∃ en : DictEntry, es[j]? = some en ∧ v = en.key) :
    acc = (ks.map fun x => x.2.1).map Value.ref := by
  apply List.ext_getElem?
  intro j
  rw [List.getElem?_map, List.getElem?_map]
  rcases Nat.lt_or_ge j ks.length with lt | ge
  · have ej : acc[j]? = some (acc[j]'(hl ▸ lt)) := List.getElem?_eq_getElem _
    obtain ⟨en, e1, e2⟩ := hi j _ ej
    have e3 := entry_at he j
    rw [e1, List.getElem?_eq_getElem lt] at e3
    rw [ej, e2, List.getElem?_eq_getElem lt, Option.some.inj e3]
    rfl
  · rw [List.getElem?_eq_none (by omega), List.getElem?_eq_none ge]
    rfl
theorem Itemz {H : Hp} {kvs : List (List Key × V)} {bs : List Addr} (h : IsKeys H kvs bs) (j : Nat) (hj : j < kvs.length) : ∃ b, bs[j]? = some b ∧ H b = some (.tup (kvs[j].1.map kV)) := by
  obtain ⟨b, e, r⟩ := paired_get h (List.getElem?_eq_getElem hj)
  exact ⟨b, e, r⟩
theorem keysD_ik {kvs : List (List Key × D)} {ls : List (List Int)} (h : kvs.map (·.1) = ls.map ik) : keysD kvs = ls.map tI := by
  have : keysD kvs = (kvs.map (·.1)).map tD := by unfold keysD; rw [List.map_map]; rfl
  rw [this, h, List.map_map]
  exact List.map_congr_left fun l _ => tD_ik l
end DL

set_option Elab.async false
set_option linter.all false
set_option maxRecDepth 100000
set_option maxHeartbeats 4000000
/-! dict(l), l a list of pairs (tuple, value) -/
namespace DL
open PySem PySem.Spec PyProof.Rows L2
/-- one pair after another is put -/
def putAll (kvs more : List (List Key × D)) : List (List Key × D) := more.foldl (fun acc p => putE acc p.1 p.2) kvs
def putAllV (kvs more : List (List Key × V)) : List (List Key × V) := more.foldl (fun acc p => putK acc p.1 p.2) kvs
theorem putE_new {kvs : List (List Key × D)} {k : List Key} {d : D} (h : k ∉ kvs.map (·.1)) : putE kvs k d = kvs ++ [(k, d)] := by
  unfold putE
  rw [if_neg]
  intro z
  obtain ⟨p, hp, e⟩ := List.any_eq_true.mp z
  exact h (List.mem_map.mpr ⟨p, hp, of_decide_eq_true e⟩)
abbrev prD (p : List Key × D) : D := .tup [tD p.1, p.2]
section
variable {X : Cx} {B : Hp} {S : En} {pos p : Pos} {e : Expr}
end
end DL

set_option Elab.async false
set_option linter.all false
set_option maxRecDepth 100000
set_option maxHeartbeats 4000000
/-! == inside built-in sequences and dicts, by an own == where there is one: where all is equal -/
namespace DL
open PySem PySem.Spec PyProof.Rows L2
section
variable {prog : Program} {w : World} {A : Around} {E : Value → Shared → Prop}
theorem same_own {nm : String} {a b : Addr} {oa ob : Obj} {es es' : Array DictEntry} {ep ep' : Nat} {R : Bool → Shared → Prop} (na : (a == sysModules) = false) (nb : (b == sysModules) = false) (da : oa.data = .dict es ep) (db : ob.data = .dict es' ep') (hsz : es.size = es'.size) (Z : Nat → Shared → Prop)
    (get : ∀ i t, Z i t → t.heap.get? a = some oa ∧ t.heap.get? b = some ob)
    (turn : ∀ i (h : i < es.size) t, Z i t → ∃ j, ∃ hj : j < es'.size, (∀ Q : Option Nat → Shared → Prop, Q (some j) t → wpAny (model prog w) A (dictFind b es[i].key es[i].hash) Q E t) ∧ wpAny (model prog w) A (eqBool es[i].val es'[j].val) (fun r t' => r = true ∧ Z (i + 1) t') E t)
    (fin : ∀ t, Z es.size t → R true t) {t : Shared} (z : Z 0 t) : wpAny (model prog w) A (Builtin.Dict.samePairs nm a b) R E t := by
  obtain ⟨ga, gb⟩ := get 0 t z
  unfold Builtin.Dict.samePairs Builtin.Dict.showsAll
  rw [if_neg (by rw [na]; exact Bool.false_ne_true), if_neg (by rw [nb]; exact Bool.false_ne_true)]
  refine wpAny_bind (wpAny_pure (wpAny_bind (wpAny_pure (wpAny_bind (wpAny_dictEntries ga da ?_)))))
  dsimp only
  refine wpAny_bind (wpAny_dictEntries gb db ?_)
  rw [if_neg (by rw [hsz]; simp)]
  refine wpAny_bind (wpAny_dictEpoch ga da (wpAny_bind ?_))
  rw [Std.Legacy.Range.forIn_eq_forIn_range']
  simp only [Std.Legacy.Range.size, Nat.sub_zero, Nat.add_sub_cancel, Nat.div_one]
  refine wpAny_forIn_list _ (fun rest q t' => q = (none, ()) ∧ ∃ i, rest = List.range' i (es.size - i) ∧ i ≤ es.size ∧ Z i t') _ ?_ ?_ _ _ ⟨rfl, 0, by simp, Nat.zero_le _, z⟩
  · rintro x rest q t' ⟨rfl, i, er, le, z'⟩
    have lt : i < es.size := Nat.lt_of_not_le fun ge => by
      rw [Nat.sub_eq_zero_of_le ge] at er
      simp at er
    rw [show es.size - i = (es.size - (i + 1)) + 1 by omega, List.range'_succ] at er
    injection er with e1 e2
    subst e1
    obtain ⟨ga, gb⟩ := get x t' z'
    obtain ⟨j, hj, find, eq⟩ := turn x lt t' z'
    refine wpAny_bind (wpAny_dictEntries ga da ?_)
    rw [Array.getElem?_eq_getElem lt]
    show wpAny _ _ (holding [es[x].key, es[x].val] _ >>= _) _ _ _
    refine wpAny_bind (wpAny_holding (wpAny_bind (find _ ?_)))
    refine wpAny_bind (wpAny_dictEntries gb db ?_)
    rw [Array.getElem?_eq_getElem hj]
    refine wpAny_holding (wpAny_mono eq (fun r t2 hr => ?_) fun _ _ h => h)
    obtain ⟨rfl, z2⟩ := hr
    show wpAny _ _ (if (!true) = true then _ else _) _ _ _
    rw [if_neg (by decide)]
    refine wpAny_bind (wpAny_dictEpoch (get _ _ z2).1 da ?_)
    rw [if_neg (by simp)]
    exact wpAny_pure ⟨rfl, x + 1, e2, lt, z2⟩
  · rintro q t' ⟨rfl, i, er, le, z'⟩
    have : i = es.size := Nat.le_antisymm le (Nat.le_of_not_lt fun lt => by
      rw [show es.size - i = (es.size - (i + 1)) + 1 by omega, List.range'_succ] at er
      cases er)
    subst this
    exact wpAny_pure (fin t' z')
end
/-- behind what is compared: later worlds -/
def Later (X : Cx) (pins : List (Addr × Obj)) (τ : L2.St) (W : Wd) (H : Hp) (t : Shared) : Prop := ∃ W' H', Inv X pins τ H' t ∧ Stp W H W' H' ∧ Ok (gOf X) W' H'
def EqR (X : Cx) (n : Nat) (x y : D) : Prop := ∀ (A : Around) (pins : List (Addr × Obj)) (t : Shared) (τ : L2.St) (W : Wd) (H : Hp) (v u : V) (v' u' : Value), L2.Sub X n A → A.guards = some (gOf X) → Inv X pins τ H t → Ok (gOf X) W H → Dn X.K W.I x v → Dn X.K W.I y u → RelV v v' → RelV u u' →
  wpAny (model X.prog X.w) A (eqBool v' u') (fun r t' => r = true ∧ Later X pins τ W H t') X.xe t
def RcR (X : Cx) (n : Nat) (x y : D) : Prop := ∀ (A : Around) (pins : List (Addr × Obj)) (t : Shared) (τ : L2.St) (W : Wd) (H : Hp) (v u : V) (v' u' : Value), L2.Sub X n A → A.guards = some (gOf X) → Inv X pins τ H t → Ok (gOf X) W H → Dn X.K W.I x v → Dn X.K W.I y u → RelV v v' → RelV u u' →
  wpAny (model X.prog X.w) A (richCompare .Eq v' u') (fun r t' => r = .bool true ∧ Later X pins τ W H t') X.xe t
section
variable {X : Cx} {n m : Nat} {x y : D}
def refD : D → Bool
  | .tup _ | .lst _ | .obj _ _ | .dcT _ => true
  | _ => false
theorem Dn.ref {K : PySem.W.Frag} {I : Hp} {v : V} (h : refD x = true) (d : Dn K I x v) : ∃ a, v = .ref a := by
  cases d <;> first | exact ⟨_, rfl⟩ | cases h
theorem RcR.eq (h : RcR X n x y) (hx : refD x = true) (hy : refD y = true) : EqR X n x y := fun A pins t τ W H v u v' u' sb hG J ok dx dy rv ru => by
  obtain ⟨a, rfl⟩ := dx.ref hx
  obtain ⟨b, rfl⟩ := dy.ref hy
  cases rv
  cases ru
  by_cases e : a = b
  · subst e
    exact SeqAt.EqAt.same (A := A) (s := t) (.ref a) X.prog X.w X.xe _ ⟨rfl, W, H, J, Stp.refl, ok⟩
  · exact GQ.eqBool_refG e (wpAny_mono (h A pins t τ W H (.ref a) (.ref b) _ _ sb hG J ok dx dy rfl rfl) (fun r t' ⟨er, l⟩ => ⟨true, er, rfl, l⟩) fun _ _ q => q)
theorem eqR_int {i : Int} : EqR X 0 (.int i) (.int i) := fun A pins t τ W H v u v' u' sb hG J ok dx dy rv ru => by
  cases dx
  cases dy
  have q := eqAt_V (A := A) (s := t) rv ru rfl rfl
  have e : eqV (.int i) (.int i) = true := by simp [eqV]
  rw [e] at q
  exact q X.prog X.w X.xe _ ⟨rfl, W, H, J, Stp.refl, ok⟩
/-- instances, by their own == -/
theorem rcR_ins {C : Addr} {k : Nat} {sp : SpD} {fs gs : List (Str × D)} (N : Num X.K C) (F : Sm X.prog X.w X.K X.mg X.base C "__eq__" k sp) (q : sp [.val (.obj C fs), .val (.obj C gs)] fun d => d = .bl true) : RcR X k (.obj C fs) (.obj C gs) := fun A pins t τ W H v u v' u' sb hG J ok dx dy rv ru => by
  have aa := args2 dx dy
  have rr := vals2 rv ru
  cases id dx with
  | obj a1 _ => cases id dy with
    | obj a2 _ =>
      cases rv
      cases ru
      obtain ⟨ox, od, I1⟩ := inst_at J (ok.ex _ _ a1)
      obtain ⟨oy, oe, I2⟩ := inst_at J (ok.ex _ _ a2)
      obtain ⟨f, fd, ps, F, hf, hi, hb⟩ := F.ex
      obtain ⟨mm, hF⟩ := J.fr
      have e0 : Env0 X.prog X.w X.K X.mg X.base A X.stack t H := by
        have e := J.env0
        exact ⟨by rw [sb.fr]; exact e.frames, e.mod, e.bs, e.bsz, e.funs, e.frf, e.hok, e.bare⟩
      refine PySem.W.cmp_K (op := .Eq) (tb := .ref C) sb.room.units0 hF J.ok.mod.kin I1 I2.type N.nf hf hi ?_
      refine wpAny_call (run_gn (A := A) F sb.room hG e0 hb .nil J rr (Q := fun v H' => v = .bl true ∧ ∃ W', Stp W H W' H' ∧ Ok (gOf X) W' H') ?_ fun v t' hv => ?_)
      · rw [List.append_nil]
        exact ⟨_, W, _, ok, aa, q, fun d v W' H' st ok' dn e => by subst e; cases dn; exact ⟨rfl, W', st, ok'⟩⟩
      · obtain ⟨z, H', J', rz, rfl, W', st, ok'⟩ := hv
        cases rz
        exact ⟨rfl, W', H', J', st, ok'⟩
theorem later_item {pins : List (Addr × Obj)} {τ : L2.St} {W : Wd} {H : Hp} {A : Around} {l m : List D} {xs ys : List V} {its its2 : List Value} (sb : L2.Sub X (n + 1) A) (hG : A.guards = some (gOf X)) (d1 : Dns X.K W.I l xs) (d2 : Dns X.K W.I m ys) (r1 : Vals xs its) (r2 : Vals ys its2)
    (h : ∀ (i : Nat) d e, l[i]? = some d → m[i]? = some e → EqR X n d e) (i : Nat) (h1 : i < its.toArray.size) (h2 : i < its2.toArray.size) (t : Shared) (lt : Later X pins τ W H t) :
    wpAny (model X.prog X.w) A.in1 (eqBool its.toArray[i] its2.toArray[i]) (fun r t' => r = true ∧ Later X pins τ W H t') X.xe t := by
  obtain ⟨W', H', J, st, ok⟩ := lt
  have k1 : i < its.length := by simpa using h1
  have k2 : i < its2.length := by simpa using h2
  have x1 : xs[i]? = some (xs[i]'(by rw [r1.length]; exact k1)) := List.getElem?_eq_getElem _
  have x2 : ys[i]? = some (ys[i]'(by rw [r2.length]; exact k2)) := List.getElem?_eq_getElem _
  obtain ⟨u1, a1, b1⟩ := r1.get x1
  obtain ⟨u2, a2, b2⟩ := r2.get x2
  rw [List.getElem?_eq_getElem k1] at a1
  rw [List.getElem?_eq_getElem k2] at a2
  have c1 : its.toArray[i] = u1 := by simpa using Option.some.inj a1
  have c2 : its2.toArray[i] = u2 := by simpa using Option.some.inj a2
  obtain ⟨d, e1, n1⟩ := d1.get x1
  obtain ⟨e, e2, n2⟩ := d2.get x2
  rw [c1, c2]
  refine wpAny_mono (h i d e e1 e2 A.in1 pins t τ W' H' _ _ u1 u2 sb.in1 hG J ok (n1.mono st.I) (n2.mono st.I) b1 b2) (fun r t' ⟨er, W2, H2, J2, st2, ok2⟩ => ⟨er, W2, H2, J2, st.trans ok st2, ok2⟩) fun _ _ q => q
theorem rcR_lst {l m : List D} (hl : l.length = m.length) (h : ∀ (i : Nat) d e, l[i]? = some d → m[i]? = some e → EqR X n d e) : RcR X (n + 1) (.lst l) (.lst m) := fun A pins t τ W H v u v' u' sb hG J ok dx dy rv ru => by
  cases dx with
  | @lst _ a xs ha d1 => cases dy with
    | @lst _ b ys hb d2 =>
      cases rv
      cases ru
      refine GQ.rc_listG (N := l.length) sb.room.units0 (fun _ t' => Later X pins τ W H t') (fun i t' lt => ?_) (fun t' lt => ⟨rfl, lt⟩) ⟨W, H, J, Stp.refl, ok⟩
      obtain ⟨W', H', J', st, ok'⟩ := id lt
      obtain ⟨z1, its, k, r1, e1⟩ := J'.hok a _ (ok'.ex _ _ (st.I _ _ ha))
      obtain ⟨z2, its2, k2, r2, e2⟩ := J'.hok b _ (ok'.ex _ _ (st.I _ _ hb))
      exact ⟨its.toArray, its2.toArray, k, k2, e1, e2, by rw [List.size_toArray, ← r1.length, d1.length], by rw [List.size_toArray, ← r2.length, ← d2.length, hl], fun h1 h2 => later_item sb hG d1 d2 r1 r2 h i h1 h2 t' lt⟩
theorem rcR_tup {l m : List D} (hl : l.length = m.length) (h : ∀ (i : Nat) d e, l[i]? = some d → m[i]? = some e → EqR X n d e) : RcR X (n + 1) (.tup l) (.tup m) := fun A pins t τ W H v u v' u' sb hG J ok dx dy rv ru => by
  cases dx with
  | @tup _ a xs ha d1 => cases dy with
    | @tup _ b ys hb d2 =>
      cases rv
      cases ru
      obtain ⟨its, r1, e1, z1⟩ := J.tuple (SqT.of (ok.ex _ _ ha))
      obtain ⟨its2, r2, e2, z2⟩ := J.tuple (SqT.of (ok.ex _ _ hb))
      have hsz : its.toArray.size = its2.toArray.size := by rw [List.size_toArray, List.size_toArray, ← r1.length, ← r2.length, ← d1.length, ← d2.length, hl]
      exact GQ.rc_tupG hsz sb.room.units0 (fun _ t' => Later X pins τ W H t') e1 e2 (fun i h1 h2 t' lt => later_item sb hG d1 d2 r1 r2 h i h1 h2 t' lt) (fun t' lt => ⟨rfl, lt⟩) ⟨W, H, J, Stp.refl, ok⟩
theorem rcR_dct {kvs kvs' : List (List Key × D)} (hl : kvs.length = kvs'.length) (h : ∀ k d, (k, d) ∈ kvs → ∃ e, look kvs' k = some e ∧ EqR X n d e) : RcR X (n + 1) (.dcT kvs) (.dcT kvs') := fun A pins t τ W H v u v' u' sb hG J ok dx dy rv ru => by
  cases dx with
  | @dcT _ a oa ws ha d1 => cases dy with
    | @dcT _ b ob us hb d2 =>
      cases rv
      cases ru
      obtain ⟨ga, z1, n1, rows, pr, o1, es, ep, g1, x1, da, he, nd⟩ := (show ObjOk X.prog X.w H t.heap a (.frz oa (.dT ws)) from J.hok a _ (ok.ex _ _ ha))
      rw [ga] at g1
      cases g1
      obtain ⟨gb, z2, n2, rows2, pr2, o2, es', ep', g2, x2, db, he2, nd2⟩ := (show ObjOk X.prog X.w H t.heap b (.frz ob (.dT us)) from J.hok b _ (ok.ex _ _ hb))
      rw [gb] at g2
      cases g2
      have l1 : es.size = rows.length := size_of_entries he
      have l2 : es'.size = rows2.length := size_of_entries he2
      have l3 : ws.length = rows.length := Paired.length pr
      have l4 : us.length = rows2.length := Paired.length pr2
      have l5 := d1.length
      have l6 := d2.length
      have ta : ∀ s : Shared, s.heap.get? a = some oa → s.TypeIs (.ref a) "dict" := fun s g => ⟨oa, g, x1.1⟩
      have tb : ∀ s : Shared, s.heap.get? b = some ob → s.TypeIs (.ref b) "dict" := fun s g => ⟨ob, g, x2.1⟩
      have get : ∀ (i : Nat) t', Later X pins τ W H t' → t'.heap.get? a = some oa ∧ t'.heap.get? b = some ob := by
        rintro i t' ⟨W', H', J', st, ok'⟩
        exact ⟨(J'.hok a _ (ok'.ex _ _ (st.I _ _ ha))).1, (J'.hok b _ (ok'.ex _ _ (st.I _ _ hb))).1⟩
      have turn : ∀ i (h : i < es.size) t', Later X pins τ W H t' → ∃ j, ∃ hj : j < es'.size, (∀ Q : Option Nat → Shared → Prop, Q (some j) t' → wpAny (model X.prog X.w) A.in1 (dictFind b es[i].key es[i].hash) Q X.xe t') ∧ wpAny (model X.prog X.w) A.in1 (eqBool es[i].val es'[j].val) (fun r t2 => r = true ∧ Later X pins τ W H t2) X.xe t' := by
        rintro i lt t' ⟨W', H', J', st, ok'⟩
        obtain ⟨ga', _, _, rows3, pr3, o3, es3, ep3, g3, _, da3, he3, _⟩ := (show ObjOk X.prog X.w H' t'.heap a (.frz oa (.dT ws)) from J'.hok a _ (ok'.ex _ _ (st.I _ _ ha)))
        rw [ga'] at g3
        cases g3
        rw [da] at da3
        cases da3
        obtain ⟨_, _, rows4, pr4, o4, es4, ep4, g4, _, db4, he4, his4, nd4⟩ := dt_rd J'.hok (show Rd H' b (.dT us) from .inr ⟨ob, ok'.ex _ _ (st.I _ _ hb)⟩)
        have gb' := (J'.hok b _ (ok'.ex _ _ (st.I _ _ hb))).1
        rw [gb'] at g4
        cases g4
        rw [db] at db4
        cases db4
        have hi : i < ws.length := by omega
        obtain ⟨⟨k, w1⟩, hw⟩ : ∃ p, ws[i]? = some p := ⟨_, List.getElem?_eq_getElem hi⟩
        obtain ⟨d, hd, nd1⟩ := d1.get hw
        obtain ⟨e, he', hEq⟩ := h k d (List.mem_of_getElem? hd)
        obtain ⟨⟨k1, b1, v1⟩, hr3, e1, e2, e3⟩ := paired_get pr3 hw
        simp only at e1 e2 e3
        subst e1
        have en := entry_at he3 i
        rw [hr3, Array.getElem?_eq_getElem lt] at en
        have en' : es[i] = ⟨tupleKeyHash (mixKind X.prog X.w) k, .ref b1, v1⟩ := Option.some.inj en
        obtain ⟨w2, hw2, nd2'⟩ := (dnt_look d2).1 e he'
        obtain ⟨p4, hp4, rp4⟩ := RelO.some_of (v := w2) (o := (atKey rows4 k).map (·.2)) (by rw [← hw2]; exact KT.val pr4 k)
        obtain ⟨q4, hq4, eq4⟩ := Option.map_eq_some_iff.mp hp4
        obtain ⟨j, hj4⟩ : ∃ j, rows4[j]? = some (k, q4) := by
          unfold atKey at hq4
          obtain ⟨x, hx, ex⟩ := Option.map_eq_some_iff.mp hq4
          have hm := List.mem_of_find?_eq_some hx
          have hk := List.find?_some hx
          obtain ⟨j, hj⟩ := List.mem_iff_getElem?.mp hm
          exact ⟨j, by rw [hj, ← ex, ← of_decide_eq_true hk]⟩
        have hjl : j < es'.size := by
          rw [size_of_entries he4]
          exact (List.getElem?_eq_some_iff.mp hj4).1
        have en4 := entry_at he4 j
        rw [hj4, Array.getElem?_eq_getElem hjl] at en4
        have en4' : es'[j].val = q4.2 := by rw [Option.some.inj en4]; rfl
        refine ⟨j, hjl, fun Q hQ => ?_, ?_⟩
        · rw [en']
          refine wpAny_dictFind_heap (knd := tupleKind (mixKind X.prog X.w)) (k := k) (show A.in1.units < cLine from sb.room.in1.units0) (key_of J'.hok e2) gb' db he4 his4 nd4 (fun hno => absurd hj4 (hno j q4)) fun j' p' hj' => ?_
          have : j' = j := idxH_unique nd4 hj' hj4
          rw [this]
          exact hQ
        · rw [en', en4']
          show wpAny _ _ (eqBool v1 q4.2) _ _ _
          rw [eq4]
          exact wpAny_mono (hEq A.in1 pins t' τ W' H' w1 w2 v1 p4 sb.in1 hG J' ok' (nd1.mono st.I) (nd2'.mono st.I) e3 rp4) (fun r t2 ⟨er, W2, H2, J2, st2, ok2⟩ => ⟨er, W2, H2, J2, st.trans ok' st2, ok2⟩) fun _ _ q => q
      refine wpAny_richCompare_same_room (op := .Eq) (ta t ga) (tb t gb) PySem.F.slot_dict_eq (wpAny_call_entry PySem.F.slot_dict_eq (ta t ga) PySem.F.entry_dict_eq ?_ (PySem.F.args_dict_eq_2 _ _)) sb.room.units0
      show wpAny _ _ (Builtin.Dict.dictSlotArgs "__eq__" ⟨[.ref a, .ref b], []⟩ >>= _) _ _ t
      refine wpAny_bind ?_
      unfold Builtin.Dict.dictSlotArgs
      refine wpAny_bind (wpAny_notOrdered_dict (ta t ga) ?_)
      show wpAny _ _ (pure (Value.ref a, Value.ref b)) _ _ t
      refine wpAny_pure (wpAny_bind (wpAny_isInstance (T := "dict") (tb t gb) PySem.F.sub_dict_dict ?_))
      simp only [Bool.not_true, Bool.false_eq_true, if_false]
      refine wpAny_bind (wpAny_pure (wpAny_bind (wpAny_pure ?_)))
      refine wpAny_bind (wpAny_mono (same_own (R := fun r t' => r = true ∧ Later X pins τ W H t') n1 n2 da db (by omega) (fun _ t' => Later X pins τ W H t') get turn (fun t' l => ⟨rfl, l⟩) ⟨W, H, J, Stp.refl, ok⟩) (fun r t' hr => ?_) fun _ _ q => q)
      obtain ⟨rfl, l⟩ := hr
      exact wpAny_pure ⟨_, rfl, (fun x => nomatch x), rfl, l⟩
end
section
variable {X : Cx} {n : Nat} {x y : D} {Q : D → Prop}
theorem od_eqR (h : RcR X n x y) (hr : Room n X.A) (hG : X.A.guards = some (gOf X)) (q : Q (.bl true)) : OD X (compareOp .Eq) x y Q := fun v u W H ok h1 h2 R c pins t τ v' u' J r1 r2 => by
  show wpAny _ _ (richCompare .Eq _ _) _ _ _
  refine wpAny_mono (h X.A pins t τ W H v u v' u' ⟨hr, rfl⟩ hG J ok h1 h2 r1 r2) (fun r t' ⟨er, W', H', J', st, ok'⟩ => ?_) fun _ _ q => q
  subst er
  exact ⟨.bl true, H', J', rfl, c _ _ W' H' st ok' (.bl true) q⟩
end
end DL

set_option Elab.async false
set_option linter.all false
set_option maxRecDepth 100000
set_option maxHeartbeats 4000000
/-! != of lists that are equal -/
namespace NQ
open PySem PySem.SeqAt
open AutoSeq1 (wpAny_loadPart')
open MeetsSeq MeetsSeq2 MeetsSeq3 SeqRoads2
section
variable {prog : Program} {w : World} {A : Around} {R : Result → Shared → Prop}
theorem ne_loop (l b : Addr) (n : Nat) (Z : Nat → Shared → Prop) (hl : GQ.ListI prog w A (fun e t => R (.error e) t) l b n Z) (fin : ∀ t, Z n t → R (.ok (.ret (.bool false))) t) : ∀ (k i : Nat), n - i = k → i ≤ n → ∀ t, Z i t →
    wpAny (model prog w) A.in1 (Builtin.«list.__eq__.loop» ⟨[.ref l, .ref b, rawInt i, rawInt 3], []⟩) (GQ.FinOf prog w A R) (fun e t => R (.error e) t) t
  | 0, i, hk, hi, t, z => by
    obtain ⟨xs, ys, c, c2, gl, gb, lx, ly, _⟩ := hl _ _ z
    have e : i = n := by omega
    have last : R (.ok (.ret (.bool false))) t := fin t (e ▸ z)
    obtain ⟨h0, g0, d0, k0, o0⟩ := t
    wp_walk using wpAny_loadPart' gl, wpAny_loadPart' gb
    rw [show xs[((i : Nat) : Int).toNat]? = none by simp; omega, show ys[((i : Nat) : Int).toNat]? = none by simp; omega]
    wp_walk using wpAny_loadPart' gl, wpAny_loadPart' gb
    show R (.ok (.ret (.bool (xs.size != ys.size)))) _
    rw [lx, ly]
    simpa using last
  | k + 1, i, hk, hi, t, z => by
    obtain ⟨xs, ys, c, c2, gl, gb, lx, ly, turn⟩ := hl _ _ z
    have ax : i < xs.size := by omega
    have ay : i < ys.size := by omega
    have one := turn ax ay
    obtain ⟨h0, g0, d0, k0, o0⟩ := t
    wp_walk using wpAny_loadPart' gl, wpAny_loadPart' gb
    rw [show xs[((i : Nat) : Int).toNat]? = some xs[i] by simp [ax], show ys[((i : Nat) : Int).toNat]? = some ys[i] by simp [ay]]
    refine wpAny_bind (wpAny_mono one (fun r t2 ⟨er, z2⟩ => ?_) fun _ _ x => x)
    subst er
    have next := ne_loop l b n Z hl fin k (i + 1) (by omega) (by omega) t2 z2
    obtain ⟨h1, g1, d1, k1, o1⟩ := t2
    wp_walk
    rw [show ((i : Int) + 1) = ((i + 1 : Nat) : Int) by omega]
    exact ⟨plainId_quiet plain_eq_loop _, codeAny_builtin entry_eq_loop (by rw [Around.under_plainId plain_eq_loop _]; exact next)⟩
theorem list_ne (l b : Addr) (n : Nat) (Z : Nat → Shared → Prop) (hl : GQ.ListI prog w A (fun e t => R (.error e) t) l b n Z) (fin : ∀ t, Z n t → R (.ok (.ret (.bool false))) t) {t : Shared} (z : Z 0 t) :
    wpAny (model prog w) A.in1 (Builtin.«list.__ne__» ⟨[.ref l, .ref b], []⟩) (GQ.FinOf prog w A R) (fun e t => R (.error e) t) t := by
  obtain ⟨xs, ys, c, c2, gl, gb, lx, ly, _⟩ := hl _ _ z
  have next := ne_loop (A := A) (R := R) l b n Z hl fin _ 0 rfl (Nat.zero_le _) t z
  obtain ⟨h0, g0, d0, k0, o0⟩ := t
  have f3 := AutoSeq1.sub_list_list
  have same : ¬ (xs.size != ys.size) = true := by simp [lx, ly]
  wp_walk using wpAny_loadPart' gl, wpAny_loadPart' gb
  exact ⟨plainId_quiet plain_eq_loop _, codeAny_builtin entry_eq_loop (by rw [Around.under_plainId plain_eq_loop _]; exact next)⟩
end
theorem rc_ne {prog : Program} {w : World} {A : Around} {E : Value → Shared → Prop} {t : Shared} {l b : Addr} {n : Nat} {Q : Value → Shared → Prop} (hu : A.units < cLine) (Z : Nat → Shared → Prop) (hl : GQ.ListI prog w A E l b n Z) (fin : ∀ t, Z n t → Q (.bool false) t) (z : Z 0 t) :
    wpAny (model prog w) A (richCompare .NotEq (.ref l) (.ref b)) Q E t := by
  obtain ⟨xs, ys, c, c2, gl, gb, _, _, _⟩ := hl _ _ z
  have tl : t.TypeIs (.ref l) "list" := ⟨_, gl, rfl⟩
  have tb : t.TypeIs (.ref b) "list" := ⟨_, gb, rfl⟩
  exact wpAny_richCompare_same_room (op := .NotEq) tl tb F.slot_list_ne (GQ.call_here F.slot_list_ne tl F.entry_list_ne (F.args_list_ne_2 _ _) (list_ne (R := wants (fun v t => v ≠ .notImplemented ∧ Q v t) E) l b n Z hl (fun t q => ⟨(fun x => nomatch x), fin t q⟩) z)) hu
end NQ
namespace DL
open PySem PySem.Spec PyProof.Rows L2
section
variable {X : Cx} {n : Nat} {Q : D → Prop}
theorem od_neL {l m : List D} (hl : l.length = m.length) (h : ∀ (i : Nat) d e, l[i]? = some d → m[i]? = some e → EqR X n d e) (hr : Room (n + 1) X.A) (hG : X.A.guards = some (gOf X)) (q : Q (.bl false)) : OD X (compareOp .NotEq) (.lst l) (.lst m) Q := fun v u W H ok dx dy R c pins t τ v' u' J rv ru => by
  show wpAny _ _ (richCompare .NotEq _ _) _ _ _
  cases dx with
  | @lst _ a xs ha d1 => cases dy with
    | @lst _ b ys hb d2 =>
      cases rv
      cases ru
      refine NQ.rc_ne (n := l.length) hr.units0 (fun _ t' => Later X pins τ W H t') (fun i t' lt => ?_) (fun t' lt => ?_) ⟨W, H, J, Stp.refl, ok⟩
      · obtain ⟨W', H', J', st, ok'⟩ := id lt
        obtain ⟨z1, its, k, r1, e1⟩ := J'.hok a _ (ok'.ex _ _ (st.I _ _ ha))
        obtain ⟨z2, its2, k2, r2, e2⟩ := J'.hok b _ (ok'.ex _ _ (st.I _ _ hb))
        exact ⟨its.toArray, its2.toArray, k, k2, e1, e2, by rw [List.size_toArray, ← r1.length, d1.length], by rw [List.size_toArray, ← r2.length, ← d2.length, hl], fun h1 h2 => later_item ⟨hr, rfl⟩ hG d1 d2 r1 r2 h i h1 h2 t' lt⟩
      · obtain ⟨W', H', J', st, ok'⟩ := lt
        exact ⟨.bl false, H', J', rfl, c _ _ W' H' st ok' (.bl false) q⟩
end
end DL

set_option Elab.async false
set_option linter.all false
set_option maxRecDepth 100000
set_option maxHeartbeats 4000000
/-! zip of two texts -/
namespace TZ
open PySem PySem.Spec PyProof.Rows
abbrev tio (x : Str) (t : Tok) : Obj := { cls := .type "str_ascii_iterator", data := .fields #[.str x t, .int 0 0] }
abbrev m1 (h : Heap) (x : Str) (t : Tok) : Heap := h.push (tio x t)
abbrev m2 (h : Heap) (x y : Str) (t u : Tok) : Heap := (m1 h x t).push (tio y u)
abbrev m3 (h : Heap) (x y : Str) (t u : Tok) : Heap := (m2 h x y t u).push { cls := .type "tuple", data := .seq #[.ref h.objs.size, .ref (m1 h x t).objs.size] }
abbrev m4 (h : Heap) (x y : Str) (t u : Tok) : Heap := (m3 h x y t u).push { cls := .type "tuple", data := .seq #[.none, .none] }
abbrev m5 (h : Heap) (x y : Str) (t u : Tok) : Heap := (m4 h x y t u).push { cls := .type "zip", data := .fields #[.none, .bool false, .bool false, .ref (m2 h x y t u).objs.size, .ref (m3 h x y t u).objs.size] }
theorem new_ss (x y : Str) (t u : Tok) (hx : x.cps.all (· < 128) = true) (hy : y.cps.all (· < 128) = true) : Meets (Builtin.«zip.__new__» ⟨[.type "zip", .str x t, .str y u], []⟩) (fun _ R s => R (.ok (.ret (.ref (m4 s.heap x y t u).objs.size))) { s with heap := m5 s.heap x y t u }) :=
  .of_wp fun prog w A R s h => by
    obtain ⟨hp, g, d, tk, os⟩ := s
    have hsub := sub_zip
    wp_walk using wpAny_pyIter_ascii hx, wpAny_pyIter_ascii hy
    exact ⟨_, rfl, h⟩
section
variable {p : Program} {w : World} {A : Around} {E : Value → Shared → Prop} {s : Shared}
/-- how the zip stands ahead of turn i -/
structure St2 (x y : Str) (t u : Tok) (z TI TO i1 i2 : Addr) (i : Nat) (h : Heap) : Prop where
  z : IsZip h z TI TO .none
  ti : IsTupOf2 h TI (.ref i1) (.ref i2)
  to : ∃ a b, IsTupOf2 h TO a b
  f : h.IsStrIter i1 "str_ascii_iterator" x t i
  g : h.IsStrIter i2 "str_ascii_iterator" y u i
theorem zip_ss {x y : Str} {t u : Tok} (hx : x.cps.all (· < 128) = true) (hy : y.cps.all (· < 128) = true) {Q : Value → Shared → Prop}
    (h : ∀ h', St2 x y t u (s.heap.objs.size + 4) (s.heap.objs.size + 2) (s.heap.objs.size + 3) s.heap.objs.size (s.heap.objs.size + 1) 0 h' → (∀ c o, s.heap.get? c = some o → h'.get? c = some o) → Q (.ref (s.heap.objs.size + 4)) { s with heap := h' }) :
    wpAny (model p w) A (call (.type "zip") [.str x t, .str y u]) Q E s := by
  refine callType_new F.called_zip (by decide) (F.typeCall_zip_2 _ _) (F.newCall_zip_2 _ _) (fun obj => F.args_object_init_3 obj _ _) F.entry_zip_new (new_ss x y t u hx hy) ?_
  have c1 : (m1 s.heap x t).objs.size = s.heap.objs.size + 1 := Heap.size_push ..
  have c2 : (m2 s.heap x y t u).objs.size = s.heap.objs.size + 2 := by rw [Heap.size_push, c1]
  have c3 : (m3 s.heap x y t u).objs.size = s.heap.objs.size + 3 := by rw [Heap.size_push, c2]
  have c4 : (m4 s.heap x y t u).objs.size = s.heap.objs.size + 4 := by rw [Heap.size_push, c3]
  have d5 : (m5 s.heap x y t u).get? (m4 s.heap x y t u).objs.size = some _ := Heap.get?_push_size _ rfl
  have d4 : (m5 s.heap x y t u).get? (m3 s.heap x y t u).objs.size = some _ := Heap.get?_push_of_some _ (Heap.get?_push_size _ rfl)
  have d3 : (m5 s.heap x y t u).get? (m2 s.heap x y t u).objs.size = some _ := Heap.get?_push_of_some _ (Heap.get?_push_of_some _ (Heap.get?_push_size _ rfl))
  have d2 : (m5 s.heap x y t u).get? (m1 s.heap x t).objs.size = some _ := Heap.get?_push_of_some _ (Heap.get?_push_of_some _ (Heap.get?_push_of_some _ (Heap.get?_push_size _ rfl)))
  have d1 : (m5 s.heap x y t u).get? s.heap.objs.size = some _ := Heap.get?_push_of_some _ (Heap.get?_push_of_some _ (Heap.get?_push_of_some _ (Heap.get?_push_of_some _ (Heap.get?_push_size _ rfl))))
  show _ ∧ _
  rw [c2, c3, c4] at d5
  rw [c1, c2] at d3
  rw [c3] at d4
  rw [c1] at d2
  rw [c4]
  exact ⟨⟨_, d5, rfl⟩, h _ ⟨d5, d3, ⟨_, _, d4⟩, ⟨_, d1, rfl, rfl⟩, ⟨_, d2, rfl, rfl⟩⟩ fun c o e => Heap.get?_push_of_some _ (Heap.get?_push_of_some _ (Heap.get?_push_of_some _ (Heap.get?_push_of_some _ (Heap.get?_push_of_some _ e))))⟩
end
end TZ
namespace DL
open PySem PySem.Spec PyProof.Rows L2 TZ
/-- the signs of both, two by two -/
def Itss (x y : Str) : It := ⟨fun i _ => i < x.cps.size ∧ i < y.cps.size, fun i H v H' => ∃ T c d, x.cps[i]? = some c ∧ y.cps[i]? = some d ∧ v = .ref T ∧ H T = none ∧ H' = upd H T (.tup [.str ⟨#[c]⟩, .str ⟨#[d]⟩]),
  fun i _ => i ≤ x.cps.size ∧ i ≤ y.cps.size ∧ (i = x.cps.size ∨ i = y.cps.size)⟩
theorem turn_ss {P : Program} {w : World} {K : PySem.W.Frag} {elts : List Expr} {kk : Nat} {tpos : Pos} {x y : Str} {t u : Tok} {z TI TO i1 i2 : Addr} (D : ZipSep2 z TI TO i1 i2 [i1] [i2]) : Turn P w K (.Tuple elts kk tpos) (Itss x y) [z, TI, TO, i1, i2] z (St2 x y t u z TI TO i1 i2) where
  mem := by simp
  obj := fun i h st c hc => by
    obtain ⟨a, b, hTO⟩ := st.to
    have e : c = z ∨ c = TI ∨ c = TO ∨ c = i1 ∨ c = i2 := by simpa using hc
    rcases e with q | q | q | q | q <;> subst q
    · exact ⟨_, st.z, fun v q => nomatch q⟩
    · exact ⟨_, st.ti, fun v q => nomatch q⟩
    · exact ⟨_, hTO, fun v q => nomatch q⟩
    · obtain ⟨o, e, _, d⟩ := st.f
      exact ⟨o, e, fun v q => by rw [d] at q; cases q⟩
    · obtain ⟨o, e, _, d⟩ := st.g
      exact ⟨o, e, fun v q => by rw [d] at q; cases q⟩
  keep := fun i h h' st k => by
    obtain ⟨a, b, hTO⟩ := st.to
    obtain ⟨o1, e1, r1⟩ := st.f
    obtain ⟨o2, e2, r2⟩ := st.g
    exact ⟨k z (by simp) _ st.z, k TI (by simp) _ st.ti, ⟨a, b, k TO (by simp) _ hTO⟩, ⟨o1, k i1 (by simp) _ e1, r1⟩, ⟨o2, k i2 (by simp) _ e2, r2⟩⟩
  item := by
    intro X hP hw hK hc i pins s σ H E J hf st hg
    subst hP hw hK
    obtain ⟨a, b, hTO⟩ := st.to
    have zlt : z < s.heap.objs.size := Heap.lt_size st.z
    have hd : X.A.in1.handled = none := J.ok.hd hc
    refine wpAny_pyNext_zipD2_item D (Draws.strAscii hd i1 x t) (Draws.strAscii hd i2 y u) st.z st.ti hTO st.f st.g hg.1 hg.2 fun v1 v2 h' tk y1 y2 z' t' f' g' T' size' keep => ?_
    obtain ⟨c1, u1, hc1, rfl⟩ := y1
    obtain ⟨c2, u2, hc2, rfl⟩ := y2
    refine ⟨_, rfl, wpAny_letOwnedTupleGo_zip (s := { s with heap := h', toks := tk }) z' fun h'' z'' sb => ?_⟩
    have T2 : h''.get? s.heap.objs.size = some { cls := .type "tuple", data := .seq #[.str ⟨#[c1]⟩ u1, .str ⟨#[c2]⟩ u2] } := (sb.2 _ (Nat.ne_of_gt zlt)).trans T'
    have new : ObjOk X.prog X.w (upd H s.heap.objs.size (.tup [.str ⟨#[c1]⟩, .str ⟨#[c2]⟩])) h'' s.heap.objs.size (.tup [.str ⟨#[c1]⟩, .str ⟨#[c2]⟩]) := ⟨by show 2 ≤ sizeLine; decide, [_, _], .cons ⟨u1, rfl⟩ (.cons ⟨u2, rfl⟩ .nil), ⟨_, T2, rfl, _, rfl⟩⟩
    have far : ∀ c, c ∉ [z, TI, TO, i1, i2] → c ≠ z ∧ c ≠ TO ∧ c ≠ i1 ∧ c ≠ i2 := fun c hb => ⟨fun q => hb (by simp [q]), fun q => hb (by simp [q]), fun q => hb (by simp [q]), fun q => hb (by simp [q])⟩
    have J1 : Inv X pins σ (upd H s.heap.objs.size (.tup [.str ⟨#[c1]⟩, .str ⟨#[c2]⟩])) { s with heap := h'', toks := tk } :=
      J.turnedNew (t' := tk) (ch := [z, TI, TO, i1, i2]) (fun c o hb q => let ⟨q1, q2, q3, q4⟩ := far c hb; (sb.2 c q1).trans (keep c o q1 q2 q3 q4 q)) hf (Nat.le_refl _) new
    have s1 : ∀ k, k ≠ z → ∀ o, h'.get? k = some o → h''.get? k = some o := fun k n o e => (sb.2 _ n).trans e
    refine ⟨.ref s.heap.objs.size, _, J1, rfl, ⟨_, c1, c2, hc1, hc2, rfl, J.hok.fresh (Nat.le_refl _), rfl⟩, ⟨z'', s1 _ D.TIz _ (keep _ _ D.TIz D.TITO D.TIi1 D.TIi2 st.ti), ⟨_, _, s1 _ D.TOz _ t'⟩, ?_, ?_⟩, fun c hcm => ?_⟩
    · obtain ⟨o1, e1, r1⟩ := f'
      exact ⟨o1, s1 _ D.zi1.symm _ e1, r1⟩
    · obtain ⟨o1, e1, r1⟩ := g'
      exact ⟨o1, s1 _ D.zi2.symm _ e1, r1⟩
    · have lt : c < s.heap.objs.size := by
        have e' : c = z ∨ c = TI ∨ c = TO ∨ c = i1 ∨ c = i2 := by simpa using hcm
        rcases e' with q | q | q | q | q <;> rw [q]
        · exact zlt
        · exact Heap.lt_size st.ti
        · exact Heap.lt_size hTO
        · exact Heap.lt_size st.f.choose_spec.1
        · exact Heap.lt_size st.g.choose_spec.1
      rw [upd_ne (Nat.ne_of_lt lt)]
      exact (hf c hcm).1
  done := by
    intro X hP hw hK hc i pins s σ H E J hf st hg
    subst hP hw hK
    obtain ⟨a, b, hTO⟩ := st.to
    have hd : X.A.in1.handled = none := J.ok.hd hc
    exact wpAny_pyNext_zipD2_end D (Draws.strAscii hd i1 x t) (Draws.strAscii hd i2 y u) st.z st.ti hTO st.f st.g hg.1 hg.2.1 hg.2.2 fun h' tk keep =>
      ⟨rfl, J.turnedL (t' := tk) (ch := [z, TI, TO, i1, i2]) (fun c o hb q => keep c o (fun q' => hb (by simp [q'])) (fun q' => hb (by simp [q'])) (fun q' => hb (by simp [q'])) (fun q' => hb (by simp [q'])) q) hf⟩
  self := fun A i s Q E st h => wpAny_pyIter_zip st.z h
theorem sep_ss (n : Nat) : ZipSep2 (n + 4) (n + 2) (n + 3) n (n + 1) [n] [n + 1] := by
  constructor <;> simp
def iZss (ta : TA) : TI := fun σ H R => ta σ H fun vs H1 => ∃ x y, vs = [.str x, .str y] ∧ x.cps.all (· < 128) = true ∧ y.cps.all (· < 128) = true ∧ R (Itss x y) H1
theorem pi_ss {X : Cx} {e e2 : Expr} {ta : TA} {p pos tpos : Pos} {elts : List Expr} {kk : Nat} (hg : Gl X "zip") (hm : X.mg "zip" = none) (ha : PA X [e, e2] ta)
    (hs : starEach [e, e2] X.env = (false, eval e X.env) :: starEach [e2] X.env) (hpl : (backTo pos (starEach [e2] X.env)).any (·.1) = false) : PI X (.Tuple elts kk tpos) (.Call (.Name "zip" p) [e, e2] [] pos) (iZss ta) := by
  refine ⟨fun pins s σ H R J h => Call_ (ld_blt J hg hm PyProof.Rows.boot_zip (PyProof.Rows.callWith_type1 (thn (ha.run pos pins s σ H _ J h) fun us s1 ⟨vs, H1, J1, rv, q1⟩ => ?_) hs hpl))⟩
  obtain ⟨x, y, rfl, hx, hy, q⟩ := q1
  obtain ⟨v1, v2, rfl, r1, r2⟩ := (show ∃ v1 v2, us = [v1, v2] ∧ RelV (.str x) v1 ∧ RelV (.str y) v2 from by
    cases rv with
    | cons r rr => cases rr with
      | cons r' rr => cases rr; exact ⟨_, _, rfl, r, r'⟩)
  obtain ⟨t, rfl⟩ := r1
  obtain ⟨u, rfl⟩ := r2
  refine zip_ss hx hy fun h' st hk => wpAny_pyIter_zip st.z ?_
  have J2 : Inv X pins σ H1 { s1 with heap := h' } := J1.kept (t' := s1.toks) hk
  refine ⟨s1.heap.objs.size + 4, [s1.heap.objs.size + 4, s1.heap.objs.size + 2, s1.heap.objs.size + 3, s1.heap.objs.size, s1.heap.objs.size + 1], _, _, H1, rfl, J2, turn_ss (sep_ss _), st, fun c hc => ?_, q⟩
  have le : s1.heap.objs.size ≤ c := by
    have e : c = s1.heap.objs.size + 4 ∨ c = s1.heap.objs.size + 2 ∨ c = s1.heap.objs.size + 3 ∨ c = s1.heap.objs.size ∨ c = s1.heap.objs.size + 1 := by simpa using hc
    rcases e with q | q | q | q | q <;> rw [q]
    · exact Nat.le_add_right _ _
    · exact Nat.le_add_right _ _
    · exact Nat.le_add_right _ _
    · exact Nat.le_refl _
    · exact Nat.le_add_right _ _
  exact J1.fpOk le (J1.hok.fresh le)
end DL

set_option Elab.async false
set_option linter.all false
set_option maxRecDepth 100000
set_option maxHeartbeats 4000000
/-! texts, sign by sign -/
namespace DL
open PySem PySem.Spec PyProof.Rows L2
abbrev sg (c : Nat) : Str := ⟨#[c]⟩
def signs (s : Str) : List D := s.cps.toList.map fun c => .str (sg c)
section
variable {X : Cx} {B : Hp} {W0 : Wd} {S : En} {pos px p1 p apos cpos : Pos} {Q : D → Prop} {QB : Bool → Prop} {a b c e e2 o elt iter : Expr} {es : List Expr} {E : Ends'} {x : Str} {s : Str}
theorem od_ltS {i j : Str} (q : Q (.bl (decide (i.cps.toList < j.cps.toList)))) : OD X (compareOp .Lt) (.str i) (.str j) Q := od_of op_lt_str fun v u W H ok h1 h2 R c => by
  cases h1; cases h2
  exact ⟨i, j, rfl, rfl, c.now ok (.bl _) q⟩
theorem od_leS {i j : Str} (q : Q (.bl (!decide (j.cps.toList < i.cps.toList)))) : OD X (compareOp .LtE) (.str i) (.str j) Q := od_of op_le_str fun v u W H ok h1 h2 R c => by
  cases h1; cases h2
  exact ⟨i, j, rfl, rfl, c.now ok (.bl _) q⟩
theorem od_inS {c : Nat} {z : Str} (q : Q (.bl (decide (c ∈ z.cps.toList)))) : OD X (compareOp .In) (.str (sg c)) (.str z) Q := od_of op_in_sign fun v u W H ok h1 h2 R k => by
  cases h1; cases h2
  exact ⟨c, z, rfl, rfl, k.now ok (.bl _) q⟩
theorem cd_lenS {z : Str} (hz : z.length ≤ 50000) (q : Q (.int (z.length : Int))) : CD X (.builtin "len") [.val (.str z)] Q := cd_of call_len fun vs W H ok ha R c => by
  obtain ⟨v, rfl, m⟩ := one_arg ha
  cases m
  exact ⟨.str z, z.length, rfl, ⟨Nat.le_trans hz (by decide), rfl⟩, c.now ok (.int _) q⟩
end
end DL

set_option Elab.async false
set_option linter.all false
set_option maxRecDepth 100000
set_option maxHeartbeats 4000000
/-! sum, min of tuples; factorial, perm; the signs of a text as a list, sorted -/
namespace DL
open PySem PySem.Spec PyProof.Rows L2
section
variable {prog : Program} {w : World} {A : Around} {E : Value → Shared → Prop} {s : Shared} {l : Addr}
theorem past {h' : Heap} {o : Obj} (hk : ∀ b u, b ∉ [s.heap.objs.size] → (s.heap.push o).get? b = some u → h'.get? b = some u) (b : Addr) (u : Obj) (e : s.heap.get? b = some u) : h'.get? b = some u :=
  hk b u (fun hm => Nat.lt_irrefl _ (by have := Heap.lt_size e; rw [List.mem_singleton.mp hm] at this; exact this)) (Heap.get?_push_of_some _ e)
theorem sum_tup {its : List Value} {ns : List Int} {Q : Value → Shared → Prop} (hh : A.handled = none) (hl : s.heap.IsTuple l its.toArray) (hi : IntsAre its ns) (k : ∀ h' tk t', (∀ b o, s.heap.get? b = some o → h'.get? b = some o) → Q (.int ns.sum t') { s with heap := h', toks := tk }) :
    wpAny (model prog w) A (call (.builtin "sum") [.ref l]) Q E s := by
  obtain ⟨xs, e⟩ := hi.allInts.items
  have en : numsOf (intItems xs).toList = ns := by rw [← e]; exact hi.numsOf
  rw [nums_intItems] at en
  rw [e] at hl
  have lt : l < s.heap.objs.size := by obtain ⟨_, g, _⟩ := hl; exact Heap.lt_size g
  refine call_sum_walkG (wpAny_pyIter_tuple hl ?_)
  refine ⟨_, _, _, _, _, _, numAt xs, rfl, Walks.tuple (A := A.in1) hh s.heap.objs.size l (Nat.ne_of_lt lt) (intItems xs), ⟨⟨_, Heap.get?_push_size _ rfl, rfl, rfl⟩, hl.push _⟩, fun b hb => ?_, (fun _ _ => intItems_at), fun h' tk t' hk => ?_⟩
  · show b < (s.heap.push _).objs.size
    rw [Heap.size_push]
    rcases List.mem_cons.mp hb with z | hb
    · rw [z]; exact Nat.lt_succ_self _
    · rw [List.mem_singleton.mp hb]; exact Nat.lt_succ_of_lt lt
  · have := k h' tk t' fun b u e => past hk b u e
    rw [preSum_eq, List.take_of_length_le (by simp [intItems]), en]
    exact this
theorem min_tup {its : List Value} {ns : List Int} {Q : Value → Shared → Prop} (hh : A.handled = none) (hl : s.heap.IsTuple l its.toArray) (hi : IntsAre its ns) (hne : 0 < ns.length) (k : ∀ h' tk M t', (∀ b o, s.heap.get? b = some o → h'.get? b = some o) → M ∈ ns → (∀ a, a ∈ ns → M ≤ a) → Q (.int M t') { s with heap := h', toks := tk }) :
    wpAny (model prog w) A (call (.builtin "min") [.ref l]) Q E s := by
  obtain ⟨xs, e⟩ := hi.allInts.items
  have en : numsOf (intItems xs).toList = ns := by rw [← e]; exact hi.numsOf
  rw [nums_intItems] at en
  subst en
  rw [e] at hl
  have hsz : 0 < xs.size := by simpa using hne
  have lt : l < s.heap.objs.size := by obtain ⟨_, g, _⟩ := hl; exact Heap.lt_size g
  refine call_min_walk (wpAny_pyIter_tuple hl ?_)
  refine ⟨_, _, _, _, _, _, _, rfl, Walks.tuple (A := A.in1) hh s.heap.objs.size l (Nat.ne_of_lt lt) (intItems xs), ⟨⟨_, Heap.get?_push_size _ rfl, rfl, rfl⟩, hl.push _⟩, fun b hb => ?_, by simpa [intItems] using hsz, CmpOf.ints_lt (numAt xs) (fun _ _ => intItems_at), fun v h' tk hv hk => ?_⟩
  · show b < (s.heap.push _).objs.size
    rw [Heap.size_push]
    rcases List.mem_cons.mp hb with z | hb
    · rw [z]; exact Nat.lt_succ_self _
    · rw [List.mem_singleton.mp hb]; exact Nat.lt_succ_of_lt lt
  · have hv : (intItems xs)[argBest (fun i j => decide (numAt xs i < numAt xs j)) (xs.size - 1)]? = some v := by simpa [intItems] using hv
    obtain ⟨t, rfl⟩ := intItems_at hv
    obtain ⟨h1, h2⟩ := argBest_lt (numAt xs) (xs.size - 1)
    refine k h' tk _ t (fun b u e => past hk b u e) ?_ fun a ha => ?_
    · rw [numAt_eq]
      exact PySem.getD_mem (by rw [List.length_map, Array.length_toList]; omega)
    · obtain ⟨j, hj, rfl⟩ := mem_getD ha
      rw [List.length_map, Array.length_toList] at hj
      rw [← numAt_eq]
      exact h2 j (by omega)
end
section
variable {X : Cx} {Q : D → Prop}
theorem cr_sumT (hc : X.calm = true) : CallR X (.builtin "sum") (fun vs H Q => ∃ (a : Addr) (ns : List Int), vs = [V.ref a] ∧ SqT X.K H a (ns.map V.int) ∧ Q (.int ns.sum) H) := by
  intro pins t τ H vs us Q J r q
  obtain ⟨a, ns, rfl, hs, q⟩ := q
  obtain ⟨its, rv, hl, _⟩ := J.tuple hs
  rw [Vals.ref1 r]
  exact sum_tup (J.ok.hd hc) hl rv.ints fun h' tk t' keep => ⟨.int _, H, J.kept keep, ⟨_, rfl⟩, q⟩
theorem cr_minT (hc : X.calm = true) : CallR X (.builtin "min") (fun vs H Q => ∃ (a : Addr) (ns : List Int), vs = [V.ref a] ∧ SqT X.K H a (ns.map V.int) ∧ 0 < ns.length ∧ ∀ m, m ∈ ns → (∀ y, y ∈ ns → m ≤ y) → Q (.int m) H) := by
  intro pins t τ H vs us Q J r q
  obtain ⟨a, ns, rfl, hs, hne, q⟩ := q
  obtain ⟨its, rv, hl, _⟩ := J.tuple hs
  rw [Vals.ref1 r]
  exact min_tup (J.ok.hd hc) hl rv.ints hne fun h' tk m t' keep g1 g2 => ⟨.int _, H, J.kept keep, ⟨_, rfl⟩, q m g1 g2⟩
theorem cd_sumT {l : List Int} (hc : X.calm = true) (q : Q (.int l.sum)) : CD X (.builtin "sum") [.val (tI l)] Q := cd_of (cr_sumT hc) fun vs W H ok ha R c => by
  obtain ⟨v, rfl, m⟩ := one_arg ha
  cases m with
  | @tup _ a xs hp m =>
    rw [Dns.ints m] at hp
    exact ⟨a, l, rfl, SqT.of (ok.ex _ _ hp), c.now ok (.int _) q⟩
theorem cd_sumL {l : List Int} (hc : X.calm = true) (q : Q (.int l.sum)) : CD X (.builtin "sum") [.val (.lst (l.map D.int))] Q := cd_of (cr_sum hc) fun vs W H ok ha R c => by
  obtain ⟨v, rfl, m⟩ := one_arg ha
  cases m with
  | @lst _ a xs hp m =>
    rw [Dns.ints m] at hp
    exact ⟨a, l, rfl, SqL.of (ok.ex _ _ hp), c.now ok (.int _) q⟩
theorem cd_minT {l : List Int} (hc : X.calm = true) (hl : 0 < l.length) (q : ∀ m, m ∈ l → (∀ y ∈ l, m ≤ y) → Q (.int m)) : CD X (.builtin "min") [.val (tI l)] Q := cd_of (cr_minT hc) fun vs W H ok ha R c => by
  obtain ⟨v, rfl, m⟩ := one_arg ha
  cases m with
  | @tup _ a xs hp m =>
    rw [Dns.ints m] at hp
    exact ⟨a, l, rfl, SqT.of (ok.ex _ _ hp), hl, fun x g1 g2 => c.now ok (.int _) (q x g1 g2)⟩
/-- n! -/
def fac : Nat → Nat
  | 0 => 1
  | n + 1 => fac n * (n + 1)
/-- perm(n, 0) and perm(n, 1) -/
theorem cd_perm {n j : Nat} (hj : j ≤ 1) (hn : n ≤ 1000) (hjn : j ≤ n) (q : Q (.int (if j = 0 then 1 else (n : Int)))) : CD X (.builtin "math.perm") [.val (.int (n : Int)), .val (.int (j : Int))] Q := fun vs W H ok ha R c pins t τ us J rv => by
  obtain ⟨v, v2, rfl, m, m2⟩ := two_args ha
  cases m; cases m2
  obtain ⟨u, u2, rfl⟩ := Vals.int2 rv
  refine PySem.W.mc_perm (by omega) (by omega) (by omega) (by omega) fun _ => ⟨.int _, H, J.tok _, ⟨t.toks, ?_⟩, c.now ok (.int _) q⟩
  rw [PySem.W.mcPerm_at (by omega)]
  match j, hj with
  | 0, _ => rfl
  | 1, _ => rw [if_neg (by decide)]; exact congrArg (Value.int · _) (PySem.W.mc_fp_one _)
/-! ### the signs of a text -/
theorem strs_items {x : Str} {acc : Array Value} (it : ItemsOf (SignAt x) acc x.cps.size) : StrsAre acc.toList (x.cps.toList.map sg) := by
  refine strs_at (by rw [Array.length_toList, it.1, List.length_map, Array.length_toList]) fun j v e => ?_
  obtain ⟨c, u, hc, rfl⟩ := it.2 j v (by rw [← Array.getElem?_toList]; exact e)
  exact ⟨sg c, u, by rw [List.getElem?_map, Array.getElem?_toList, hc]; rfl, rfl⟩
theorem cr_listS (hc : X.calm = true) : CallR X (.type "list") (fun xs H Q => ∃ x : Str, xs = [V.str x] ∧ x.cps.size ≤ 50000 ∧ ∀ p, H p = none → Q (.ref p) (upd H p (.lst ((x.cps.toList.map sg).map V.str)))) := by
  intro pins t τ H xs us Q J r q
  obtain ⟨x, rfl, hx, q⟩ := q
  obtain ⟨u, rfl, ru⟩ := vals1 r
  obtain ⟨tk, rfl⟩ := ru
  refine call_list_str (hn := Nat.le_trans hx (by decide)) (J.ok.hd hc) x tk fun h' tk' acc c keep e it => ?_
  have sa := strs_items it
  have len : ((x.cps.toList.map sg).map V.str).length ≤ sizeLine := Nat.le_trans (by simpa using hx) (show 50000 ≤ sizeLine by decide)
  exact ⟨.ref t.heap.objs.size, upd H t.heap.objs.size (.lst ((x.cps.toList.map sg).map V.str)), J.laid (t' := tk') keep (Nat.le_refl _) ⟨len, acc.toList, c, vals_of_strs sa, by rw [Array.toArray_toList]; exact e⟩, rfl, q _ (J.hok.fresh (Nat.le_refl _))⟩
theorem cr_sortS (hc : X.calm = true) : CallR X (.builtin "sorted") (fun xs H Q => ∃ x : Str, xs = [V.str x] ∧ x.cps.size < 64 ∧ ∀ ys p, ys.Perm (x.cps.toList.map sg) → sortedS ys = true → H p = none → Q (.ref p) (upd H p (.lst (ys.map V.str)))) := by
  intro pins t τ H xs us Q J r q
  obtain ⟨x, rfl, hx, q⟩ := q
  obtain ⟨u, rfl, ru⟩ := vals1 r
  obtain ⟨tk, rfl⟩ := ru
  have small : x.cps.size ≤ sizeLine := Nat.le_trans (Nat.le_of_lt hx) (by decide)
  refine Calls.call_function_entry kind_sorted plain_sorted entry_sorted (args_sorted1 _) ?_
  unfold Builtin.«sorted»
  refine wpAny_bind (m := checkCount "sorted" 1 1 _) (wpAny_pure ?_)
  refine wpAny_bind (wpAny_collect_str (A := X.A.in1) (hn := small) (J.ok.hd hc) x tk fun t1 acc keep g1 g2 g3 it => ?_)
  have sa := strs_items it
  have hal : acc.toList.length = x.cps.size := by rw [Array.length_toList, it.1]
  have e1 : t1 = { t with heap := t1.heap, toks := t1.toks } := by
    cases t1
    cases t
    simp only at g1 g2 g3
    subst g1 g2 g3
    rfl
  rw [e1]
  generalize t1.heap = h' at keep
  have J1 : Inv X pins τ H { t with heap := h', toks := t1.toks } := J.kept keep
  refine wpAny_bind (wpAny_newList ?_ (by rw [hal]; exact small))
  have at_ : (h'.push (seqObj "list" acc.toList.toArray 0)).get? h'.objs.size = some (seqObj "list" acc.toList.toArray 0) := Heap.get?_push_size _ rfl
  show wpAny _ _ _ _ _ { t with heap := h'.push (seqObj "list" acc.toList.toArray 0), toks := t1.toks }
  refine wpAny_bind (wpAny_holding (wpAny_call_entry slot_list_sort ⟨_, at_, rfl⟩ entry_list_sort (list_sort_treeK strKind_oneLt (s := { t with heap := h'.push (seqObj "list" acc.toList.toArray 0), toks := t1.toks }) at_ sa.keysOf (fun v₁ v₂ rest e => keyKind_strs (by rw [← e]; exact sa)) (by rw [hal]; exact hx) fun st' hp hs => ⟨_, rfl, ?_⟩) (args_list_sort _)))
  obtain ⟨ys, y1, y2, y3⟩ := sorted_out_str sa hp hs
  obtain ⟨e', at2⟩ := sortedHeap_at (vs := acc.toList) (out := (arrOf st').map (·.2)) at_
  have len : (ys.map V.str).length ≤ sizeLine := by
    rw [List.length_map, y2.length_eq, List.length_map, Array.length_toList]
    exact small
  refine wpAny_pure ⟨_, rfl, .ref h'.objs.size, upd H h'.objs.size (.lst (ys.map V.str)), J1.laid (t' := t1.toks) (fun b u e => ?_) (Nat.le_refl _) ⟨len, ((arrOf st').map (·.2)).toList, e', vals_of_strs y1, by rw [Array.toArray_toList]; exact at2⟩, rfl, q ys _ y2 y3 (J1.hok.fresh (Nat.le_refl _))⟩
  have lt : b < h'.objs.size := Heap.lt_size e
  rw [sortedHeap_old (Nat.ne_of_lt lt) (by rw [size_push']; exact Nat.lt_succ_of_lt lt)]
  exact Heap.get?_push_of_some _ e
theorem strs_dns {K : PySem.W.Frag} {I : Hp} : ∀ ys : List Str, Dns K I (ys.map D.str) (ys.map V.str)
  | [] => .nil
  | y :: ys => .cons (.str y) (strs_dns ys)
theorem cd_listS {x : Str} (hc : X.calm = true) (hx : x.cps.size ≤ 50000) (q : Q (.lst ((x.cps.toList.map sg).map D.str))) : CD X (.type "list") [.val (.str x)] Q := cd_of (cr_listS hc) fun vs W H ok ha R c => by
  obtain ⟨v, rfl, m⟩ := one_arg ha
  cases m
  refine ⟨x, rfl, hx, fun p hp => ?_⟩
  have st := Stp.new (o := .lst ((x.cps.toList.map sg).map V.str)) ok hp
  exact c _ _ _ _ st (ok.new hp) (.lst (show upd W.I p _ p = _ from upd_same) (strs_dns _)) q
theorem cd_sortS {x : Str} (hc : X.calm = true) (hx : x.cps.size < 64) (q : ∀ ys : List Str, ys.Perm (x.cps.toList.map sg) → sortedS ys = true → Q (.lst (ys.map D.str))) : CD X (.builtin "sorted") [.val (.str x)] Q := cd_of (cr_sortS hc) fun vs W H ok ha R c => by
  obtain ⟨v, rfl, m⟩ := one_arg ha
  cases m
  refine ⟨x, rfl, hx, fun ys p p1 p2 hp => ?_⟩
  have st := Stp.new (o := .lst (ys.map V.str)) ok hp
  exact c _ _ _ _ st (ok.new hp) (.lst (show upd W.I p _ p = _ from upd_same) (strs_dns _)) (q ys p1 p2)
end
end DL

set_option Elab.async false
set_option linter.all false
set_option maxRecDepth 100000
set_option maxHeartbeats 4000000
/-! enumerate(()); texts and enumerations walked -/
namespace EZ
open PySem PySem.Spec PyProof.Rows
open AutoSeq1 (wpAny_loadPart')
abbrev tit (l : Addr) : Obj := { cls := .type "tuple_iterator", data := .fields #[.ref l, .int 0 0] }
theorem new_enum (l : Addr) (xs : Array Value) : Meets (Builtin.«enumerate.__new__» ⟨[.type "enumerate", .ref l], []⟩) (fun _ R s => s.heap.IsTuple l xs ∧
    R (.ok (.ret (.ref (s.heap.push (tit l)).objs.size))) { s with heap := (s.heap.push (tit l)).push { cls := .type "enumerate", data := .fields #[.none, .bool false, .ref s.heap.objs.size, rawInt 0, .none, .none] } }) :=
  .of_wp fun prog w A R s h => by
    obtain ⟨h0, g, d, tk, os⟩ := s
    obtain ⟨hl, h⟩ := h
    have hsub := sub_enumerate
    have at_ : Heap.IsTuple (Shared.heap ⟨h0, g, d, tk, os⟩) l xs := hl
    wp_walk
    refine wpAny_stack_any fun st => wpAny_pure ?_
    split
    · rename_i c _ _ _ _ _
      cases (c == Value.type "enumerate")
      · wp_walk using wpAny_pyIter_tuple at_
        exact ⟨_, rfl, h⟩
      · wp_walk using wpAny_pyIter_tuple at_
        exact ⟨_, rfl, h⟩
    · wp_walk using wpAny_pyIter_tuple at_
      exact ⟨_, rfl, h⟩
theorem call_enum {prog : Program} {w : World} {A : Around} {E : Value → Shared → Prop} {s : Shared} {l : Addr} {xs : Array Value} {Q : Value → Shared → Prop} (hl : s.heap.IsTuple l xs)
    (h : ∀ h', IsEnum h' (s.heap.objs.size + 1) s.heap.objs.size 0 .none → h'.IsTupleIter s.heap.objs.size l 0 → (∀ b o, s.heap.get? b = some o → h'.get? b = some o) → Q (.ref (s.heap.objs.size + 1)) { s with heap := h' }) :
    wpAny (model prog w) A (call (.type "enumerate") [.ref l]) Q E s := by
  refine callType_new F.called_enumerate (by decide) (F.typeCall_enumerate_1 _) (F.newCall_enumerate_1 _) (fun obj => F.args_object_init_2 obj _) F.entry_enumerate_new (new_enum l xs) ⟨hl, ?_⟩
  have sz : (s.heap.push (tit l)).objs.size = s.heap.objs.size + 1 := Heap.size_push ..
  show _ ∧ _
  rw [sz]
  have e := Heap.get?_push_size (s.heap.push (tit l)) (o := { cls := .type "enumerate", data := .fields #[.none, .bool false, .ref s.heap.objs.size, rawInt 0, .none, .none] }) rfl
  rw [sz] at e
  exact ⟨⟨_, e, rfl⟩, h _ e ⟨_, Heap.get?_push_of_some _ (Heap.get?_push_size _ rfl), rfl, rfl⟩ fun b o x => Heap.get?_push_of_some _ (Heap.get?_push_of_some _ x)⟩
end EZ
namespace DL
open PySem PySem.Spec PyProof.Rows L2
/-- nothing to walk -/
def Itn (K : PySem.W.Frag) (a : Addr) : It := ⟨fun _ _ => False, fun _ _ _ _ => False, fun i H => i = 0 ∧ SqT K H a []⟩
theorem turn_en {P : Program} {w : World} {K : PySem.W.Frag} {elts : List Expr} {kk : Nat} {tpos : Pos} (a e it : Addr) : Turn P w K (.Tuple elts kk tpos) (Itn K a) [e, it] e (fun _ h => IsEnum h e it 0 .none ∧ h.IsTupleIter it a 0 ∧ a ≠ it) where
  mem := by simp
  obj := fun i h st b hb => by
    obtain ⟨h1, ⟨o, h2, _, h3⟩, _⟩ := st
    have q : b = e ∨ b = it := by simpa using hb
    rcases q with q | q <;> subst q
    · exact ⟨_, h1, fun v z => nomatch z⟩
    · exact ⟨o, h2, fun v z => by rw [h3] at z; cases z⟩
  keep := fun i h h' st k => by
    obtain ⟨h1, ⟨o, h2, r⟩, ne⟩ := st
    exact ⟨k e (by simp) _ h1, ⟨o, k it (by simp) _ h2, r⟩, ne⟩
  item := fun X hP hw hK hc i pins s σ H E J hf st hg => hg.elim
  done := by
    intro X hP hw hK hc i pins s σ H E J hf st hg
    subst hP hw hK
    obtain ⟨h1, h2, ne⟩ := st
    obtain ⟨rfl, sq⟩ := hg
    obtain ⟨its, rv, tp, _⟩ := J.tuple sq
    cases rv
    obtain ⟨f0, f1, f2, f3, f4, f5⟩ := hf it (by simp)
    exact wpAny_pyNext_enum_endD (Draws.tuple (A := X.A.in1) (J.ok.hd hc) it a ne #[]) h1 ⟨h2, tp⟩ fun h' eb => ⟨rfl, J.turned (t' := s.toks) (fun b o nb q => eb b o nb q) f0 f1 f3 f4 f5⟩
  self := fun A i s Q E st h => wpAny_pyIter_enum st.1 h
def iEn (K : PySem.W.Frag) (ta : TA) : TI := fun σ H R => ta σ H fun vs H1 => ∃ a, vs = [.ref a] ∧ SqT K H1 a [] ∧ R (Itn K a) H1
theorem pi_en {X : Cx} {e : Expr} {ta : TA} {p pos tpos : Pos} {elts : List Expr} {kk : Nat} (hg : Gl X "enumerate") (hm : X.mg "enumerate" = none) (ha : PA X [e] ta) (hs : starEach [e] X.env = [(false, eval e X.env)] := by rfl) :
    PI X (.Tuple elts kk tpos) (.Call (.Name "enumerate" p) [e] [] pos) (iEn X.K ta) := by
  refine ⟨fun pins s σ H R J h => Call_ (ld_blt J hg hm boot_enumerate (PyProof.Rows.callWith_type1 (thn (ha.run pos pins s σ H _ J h) fun us s1 ⟨vs, H1, J1, r1, q1⟩ => ?_) hs rfl))⟩
  obtain ⟨a, rfl, sq, q⟩ := q1
  cases r1 with
  | cons r rr =>
    cases rr
    cases r
    obtain ⟨its, rv, tp, _⟩ := J1.tuple sq
    refine EZ.call_enum tp fun h' h1 h2 keep => wpAny_pyIter_enum h1 ?_
    have J2 : Inv X pins σ H1 { s1 with heap := h' } := J1.kept (t' := s1.toks) keep
    have lt : a < s1.heap.objs.size := by obtain ⟨_, g, _⟩ := tp; exact Heap.lt_size g
    refine ⟨s1.heap.objs.size + 1, [s1.heap.objs.size + 1, s1.heap.objs.size], _, _, H1, rfl, J2, turn_en a _ _, ⟨h1, h2, Nat.ne_of_lt lt⟩, fun b hb => ?_, q⟩
    have le : s1.heap.objs.size ≤ b := by
      have z : b = s1.heap.objs.size + 1 ∨ b = s1.heap.objs.size := by simpa using hb
      rcases z with z | z <;> rw [z]
      · exact Nat.le_add_right _ _
      · exact Nat.le_refl _
    exact J1.fpOk le (J1.hok.fresh le)
section
variable {X : Cx} {B : Hp} {W0 : Wd} {S : En} {pos px p1 p apos cpos : Pos} {Q : D → Prop} {a b c e e2 o elt iter value : Expr} {es : List Expr} {E : Ends'} {x : Str}
/-- for i, x in enumerate(a list) -/
theorem sd_forE {elts : List Expr} {kk : Nat} {tpos : Pos} {body : List Stmt} {l : List D} (hp : PassesOwn (model X.prog X.w) X.A X.env X.xe) (hc : X.calm = true) (hm : X.mg "enumerate" = none) (Inv : Nat → En → Prop) (h : AD X B S [e] fun as => as = [.val (.lst l)] ∧ Inv 0 S)
    (hs : ∀ (i : Nat) d S', l[i]? = some d → Inv i S' → GD X B W0 S' (.Tuple elts kk tpos) (.tup [.int (i : Int), d]) fun S2 => SDs X B W0 S2 body { nx := Inv (i + 1), rt := E.rt, bk := E.nx, ct := Inv (i + 1) })
    (hd : ∀ S', Inv l.length S' → E.nx S') (hg : Gl X "enumerate" := by rfl) (hst : starEach [e] X.env = [(false, eval e X.env)] := by rfl) (hf : ∀ x, foldedSetIterable (.Call (.Name "enumerate" p) [e] [] p1) X.env x = pure x := by intro _; rfl) :
    SD X B W0 S (.For (.Tuple elts kk tpos) (.Call (.Name "enumerate" p) [e] [] p1) body [] pos) E := fun σ W H r z D' k => by
  refine PS.w (ps_for hp hc (pi_enum hg hm wa_pa hst) wg_pg wss_pss hf) ?_
  refine h σ W H r _ fun as vs W1 H1 s1 ok1 n1 q1 => ?_
  obtain ⟨rfl, i0⟩ := q1
  obtain ⟨v, rfl, m⟩ := one_arg n1
  cases m with
  | @lst _ a xs ha m =>
    refine ⟨a, xs, rfl, SqL.of (ok1.ex _ _ ha), for_it walk_enum (fun i σ' H' => ∃ S' W', Rep X.K (gOf X) B S' σ' W' H' ∧ Stp W0 B W' H' ∧ Ex W1.I W'.I ∧ Inv i S') ⟨S, W1, r.step s1 ok1, z.trans r.ok s1, Ex.refl _, i0⟩
      (fun i σ' H' _ ⟨S', W', r', _, e', _⟩ => SqL.of (r'.ok.ex _ _ (e' _ _ ha))) ?_ ?_⟩
    · rintro i y σ' H' H2 hi ⟨S', W', r', z', e', i'⟩ ⟨T, x1, x2, rfl, hT, rfl, ex1, ex2⟩
      obtain ⟨d, hd', nd⟩ := m.get ex2
      cases ex1
      have st := Stp.new (o := .tup [.int (i : Nat), x2]) r'.ok hT
      have ok2 := r'.ok.new (o := .tup [.int (i : Nat), x2]) hT
      refine hs i d S' hd' i' σ' _ _ _ (r'.step st ok2) (z'.trans r'.ok st) (.tup (show upd W'.I T _ T = _ from upd_same) (.cons (.int _) (.cons ((nd.mono e').mono st.I) .nil))) _ fun S3 σ3 W3 H3 r3 z3 e3 q3 => ?_
      have e4 := (e'.trans st.I).trans e3
      exact q3 σ3 W3 H3 r3 z3 _ ⟨fun S5 σ5 W5 H5 r5 z5 e5 q5 => ⟨S5, W5, r5, z5, e4.trans e5, q5⟩, fun d5 v5 W5 H5 r5 z5 e5 n5 q5 => k.rt d5 v5 W5 H5 r5 z5 ((s1.I.trans e4).trans e5) n5 q5,
        fun S5 σ5 W5 H5 r5 z5 e5 q5 => k.nx S5 σ5 W5 H5 r5 z5 ((s1.I.trans e4).trans e5) q5, fun S5 σ5 W5 H5 r5 z5 e5 q5 => ⟨S5, W5, r5, z5, e4.trans e5, q5⟩⟩
    · rintro σ' H' ⟨S', W', r', z', e', i'⟩
      rw [← m.length] at i'
      exact k.nx S' σ' W' H' r' z' (s1.I.trans e') (hd S' i')
/-- [elt for x in a text] -/
theorem fd_relC {s : Str} {scope : Scope} {own : List (Str × Nat)} {Q : List D → Prop} (G : Nat → D → Prop) (j : Nat) (hc : X.calm = true) (hN : X.N.Nodup) (ok : BlkOk X.N X.env.scope scope own) (hg : AllBlk X scope fun Y => PG Y (.Name x px) (gName j)) (hl : s.cps.size ≤ 50000) (hit : ED X B S iter fun d => d = .str s) (hj : j ∈ own.map (·.2))
    (he : ∀ (i c : Nat), s.cps[i]? = some c → AllBlk X scope fun Y => ED Y B (itE S own j (.str (sg c))) elt (G c)) (hd : ∀ out, Paired G s.cps.toList out → Q out) (hs : ∀ x, foldedSetIterable iter X.env x = pure x := by intro _; rfl) : FD X B S (.ListComp elt [⟨.Name x px, iter, [], 0⟩] scope pos) Q := fun σ W H r R k => by
  refine PE.w (pe_lc (te := WEb X scope elt) hc hN (pi_str we_pe) ok hg (fun _ _ _ _ _ => pts_nil) web_pe hs) ?_
  refine hit σ W H r _ fun d v W1 H1 s1 ok1 n1 q1 => ?_
  subst q1
  cases n1
  refine ⟨s, rfl, fun p hp0 => ?_⟩
  have r1 := r.step s1 ok1
  refine lc_it (walk_str (z := s)) (fun i H' => ∃ acc W', Mid X.K (gOf X) W1 H1 p acc W' H' ∧ acc.length = i ∧ Paired G (s.cps.toList.take i) acc) ⟨[], W1, ⟨Stp.own hp0, ok1.own hp0, ok1.notP hp0, ok1.free hp0, [], upd_same, .nil⟩, rfl, .nil⟩ (fun _ _ _ _ => trivial) ?_ ?_
  · rintro i y H' H2 hi ⟨acc, W', mm, hl2, pr⟩ ⟨rfl, c, hc', rfl⟩
    have r2 := r1.step mm.st mm.ok
    refine pat_name j hj (gOf X) B σ W' H2 (.str (sg c)) r2 (.str (sg c)) _ fun σ2 e2 r3 => ⟨e2, ?_⟩
    show WEb X scope elt σ2 H2 _
    intro s' H0 C cl fp
    refine he i c hc' s' H0 C cl fp σ2 W' H2 r3 _ fun y W3v W3 H3 s3 ok3 n3 q3 => ?_
    obtain ⟨xs', e1, e3, m3⟩ := (mm.step s3 ok3).more hp0 n3 (by omega)
    refine ⟨xs', e1, e3, _, W3, m3, by simp [hl2], ?_⟩
    rw [List.take_add_one, Array.getElem?_toList, hc']
    exact Paired.snoc q3 pr
  · rintro H' ⟨acc, W', mm, hl2, pr⟩
    obtain ⟨ys, hH, ds⟩ := mm.h
    rw [List.take_of_length_le (by rw [Array.length_toList]; exact Nat.le_refl _)] at pr
    exact k acc p ys W' H' (s1.trans ok1 mm.st) mm.ok (s1.free ok1 hp0) mm.n mm.i hH ds (hd acc pr)
/-- [elt for x, y in zip(a text, a text)] -/
theorem fd_relCC {s t : Str} {y : Str} {py tpos pos1 : Pos} {kk : Nat} {scope : Scope} {own : List (Str × Nat)} {Q : List D → Prop} (G : Nat → Nat → D → Prop) (i j : Nat) (hc : X.calm = true) (hN : X.N.Nodup) (hm : X.mg "zip" = none) (ok : BlkOk X.N X.env.scope scope own) (hg : AllBlk X scope fun Y => PG Y (.Tuple [.Name x px, .Name y py] kk tpos) (gTup X.K 2 (gCons (gName i) (gCons (gName j) gNil))))
    (hs : s.cps.all (· < 128) = true) (ht : t.cps.all (· < 128) = true) (hl : s.cps.size ≤ 50000) (h : AD X B S [e, e2] fun as => as = [.val (.str s), .val (.str t)]) (hi : i ∈ own.map (·.2)) (hj : j ∈ own.map (·.2)) (he : ∀ (n c d : Nat), s.cps[n]? = some c → t.cps[n]? = some d → AllBlk X scope fun Y => ED Y B ((itE S own i (.str (sg c))).set j (some (.val (.str (sg d))))) elt (G c d))
    (hd : ∀ out, out.length = min s.cps.size t.cps.size → (∀ (n c d : Nat) z, s.cps[n]? = some c → t.cps[n]? = some d → out[n]? = some z → G c d z) → Q out) (hgl : Gl X "zip" := by rfl)
    (hst : starEach [e, e2] X.env = (false, eval e X.env) :: starEach [e2] X.env := by rfl) (hpl : (backTo pos1 (starEach [e2] X.env)).any (·.1) = false := by rfl)
    (hsf : ∀ x, foldedSetIterable (.Call (.Name "zip" p1) [e, e2] [] pos1) X.env x = pure x := by intro _; rfl) : FD X B S (.ListComp elt [⟨.Tuple [.Name x px, .Name y py] kk tpos, .Call (.Name "zip" p1) [e, e2] [] pos1, [], 0⟩] scope pos) Q := fun σ W H r R k => by
  refine PE.w (pe_lc (te := WEb X scope elt) hc hN (pi_ss hgl hm wa_pa hst hpl) ok hg (fun _ _ _ _ _ => pts_nil) web_pe hsf) ?_
  refine h σ W H r _ fun as vs W1 H1 s1 ok1 n1 q1 => ?_
  subst q1
  obtain ⟨v1, v2, rfl, m1, m2⟩ := two_args n1
  cases m1
  cases m2
  refine ⟨s, t, rfl, hs, ht, fun p hp0 => ?_⟩
  have r1 := r.step s1 ok1
  have wk : Walk (Itss s t) (min s.cps.size t.cps.size) (fun _ => True) (fun i H v H' => ∃ T c d, s.cps[i]? = some c ∧ t.cps[i]? = some d ∧ v = .ref T ∧ H T = none ∧ H' = upd H T (.tup [.str ⟨#[c]⟩, .str ⟨#[d]⟩])) :=
    ⟨fun i H hi _ => ⟨by omega, by omega⟩, fun H _ => ⟨by omega, by omega, by omega⟩, fun i H x H' _ _ y => y⟩
  refine lc_it wk (fun n H' => ∃ acc W', Mid X.K (gOf X) W1 H1 p acc W' H' ∧ acc.length = n ∧ ∀ (m c d : Nat) z, s.cps[m]? = some c → t.cps[m]? = some d → acc[m]? = some z → G c d z) ⟨[], W1, ⟨Stp.own hp0, ok1.own hp0, ok1.notP hp0, ok1.free hp0, [], upd_same, .nil⟩, rfl, fun m c d z _ _ e => by simp at e⟩ (fun _ _ _ _ => trivial) ?_ ?_
  · rintro n y H' H2 hn ⟨acc, W', mm, hl2, pr⟩ ⟨T, c, d, hc', hd', rfl, hT, rfl⟩
    have st := Stp.new (o := .tup [.str ⟨#[c]⟩, .str ⟨#[d]⟩]) mm.ok hT
    have ok2 := mm.ok.new (o := .tup [.str ⟨#[c]⟩, .str ⟨#[d]⟩]) hT
    have mm2 := mm.step st ok2
    have r2 := r1.step mm2.st mm2.ok
    refine pat_two i j hi hj (gOf X) B σ _ _ (.ref T) r2 (d := .str (sg c)) (d' := .str (sg d)) (.tup (show upd W'.I T _ T = _ from upd_same) (.cons (.str _) (.cons (.str _) .nil))) _ fun σ2 e2 r3 => ⟨e2, ?_⟩
    show WEb X scope elt σ2 _ _
    intro s' H0 C cl fp
    refine he n c d hc' hd' s' H0 C cl fp σ2 _ _ r3 _ fun y W3v W3 H3 s3 ok3 n3 q3 => ?_
    obtain ⟨xs', e1, e3, m3⟩ := (mm2.step s3 ok3).more hp0 n3 (by omega)
    refine ⟨xs', e1, e3, _, W3, m3, by simp [hl2], fun m c1 d1 z f1 f2 f3 => ?_⟩
    rcases Nat.lt_or_ge m n with lt | ge
    · rw [List.getElem?_append_left (by omega)] at f3
      exact pr m c1 d1 z f1 f2 f3
    · rw [List.getElem?_append_right (by omega)] at f3
      have : m = n := by
        rcases Nat.lt_or_ge n m with q | q
        · rw [List.getElem?_eq_none (show [y].length ≤ m - acc.length by show 1 ≤ _; omega)] at f3
          cases f3
        · omega
      subst this
      rw [hl2, Nat.sub_self] at f3
      cases f3
      rw [hc'] at f1
      rw [hd'] at f2
      cases f1
      cases f2
      exact q3
  · rintro H' ⟨acc, W', mm, hl2, pr⟩
    obtain ⟨ys, hH, ds⟩ := mm.h
    exact k acc p ys W' H' (s1.trans ok1 mm.st) mm.ok (s1.free ok1 hp0) mm.n mm.i hH ds (hd acc hl2 pr)
end
end DL

set_option Elab.async false
set_option linter.all false
set_option maxRecDepth 100000
set_option maxHeartbeats 2000000
/-! the law's own call, of a def whose promise asks that the guards are known -/
namespace DL
open PySem PySem.Spec PyProof.Rows L2
/-- what is tracked when the law is called: the script alone, and that only where it is no object of the module -/
def given (K : PySem.W.Frag) (a : Addr) (o : Obj) (ns : List Int) : Hp := fun b => if b = a ∧ K.lookup a = none then some (.frz o (.lst (ns.map V.int))) else none
theorem given_is {K : PySem.W.Frag} {a b : Addr} {o : Obj} {ns : List Int} {u : HO} (h : given K a o ns b = some u) : b = a ∧ K.lookup a = none ∧ u = .frz o (.lst (ns.map V.int)) := by
  unfold given at h
  by_cases c : b = a ∧ K.lookup a = none
  · rw [if_pos c] at h
    exact ⟨c.1, c.2, (Option.some.inj h).symm⟩
  · rw [if_neg c] at h
    cases h
theorem law_gn {P : Program} {w : World} {K : PySem.W.Frag} {mg mb : Str → Option Value} {k : Nat} {fa a : Addr} {fd : FuncData} {x : Str} {sp : SpG} {t : Shared} {vs : List Value} {ns : List Int}
    (kin : K.In t.heap) (glob : t.heap.Ns mainGlobals mg) (bl : t.heap.Ns builtinsNs mb) (boot : ∀ x : Str, x ≠ "__name__" → mb x = bootBuiltins x) (lim : t.heap.NoLimit) (gens : t.gens = #[])
    (script : t.heap.get? a = some { cls := .type "list", data := .seq vs.toArray }) (iv : IntsAre vs ns) (len : ns.length ≤ sizeLine) (room : Room k callerA)
    (F : ∀ base : Heap, K.In base → base.Ns mainGlobals mg → GnOk P w K mg base k fa fd [x] sp) (bind : ∀ (s : Shared) (u : Value), BindsTo s fd ⟨[u], []⟩ [(x, u)])
    (q : ∀ H : Hp, SqL K H a (ns.map V.int) → sp [] [.ref a] H fun v _ => v = .bl true) :
    codeAny (model P w) callerA (.call (.ref fa) ⟨[.ref a], []⟩) (fun r s' => r = .ok (.ret (.bool true)) ∧ OldK t.heap s'.heap ∧ s'.os = t.os ∧ AllBare s'.gens) t := by
  have rel : Vals (ns.map V.int) vs := vals_ints iv
  obtain ⟨H, eH⟩ : ∃ H, H = given K a { cls := .type "list", data := .seq vs.toArray } ns := ⟨_, rfl⟩
  have one : ∀ {b : Addr} {u : HO}, H b = some u → b = a ∧ K.lookup a = none ∧ u = .frz { cls := .type "list", data := .seq vs.toArray } (.lst (ns.map V.int)) := fun {b u} e => given_is (by rw [← eH]; exact e)
  -- what is tracked is no dict and nothing of the module
  have untracked : ∀ {b : Addr}, (b = a → K.lookup a = none → False) → H b = none := fun {b} n => by
    cases e : H b with
    | none => rfl
    | some u => exact (n (one e).1 (one e).2.1).elim
  have inBase : ∀ {b : Addr} {o : Obj}, t.heap.get? b = some o → (b = a → K.lookup a = none → False) → (hidT t.heap H).get? b = some o := fun e n => hidT_get e (untracked n)
  have dict : ∀ {b : Addr} {m : Str → Option Value}, t.heap.Ns b m → (hidT t.heap H).Ns b m := fun {b m} ⟨o, es, n, e, d, r⟩ => ⟨o, es, n, inBase e (fun z _ => by
    rw [z, script] at e
    cases e
    exact nomatch (show Data.seq vs.toArray _ = Data.dict es n from d)), d, r⟩
  have kin' : K.In (hidT t.heap H) := fun b o e => inBase (kin b o e) fun z n => by rw [z, n] at e; cases e
  have hold : HOk P w H t.heap := fun b u e => by
    obtain ⟨rfl, _, rfl⟩ := one e
    exact ⟨script, by rw [List.length_map]; exact len, vs, _, rel, script⟩
  have seq : SqL K H a (ns.map V.int) := by
    cases c : K.lookup a with
    | none => exact .inl (.inr ⟨{ cls := .type "list", data := .seq vs.toArray }, by rw [eH]; exact if_pos ⟨rfl, c⟩⟩)
    | some o =>
      have e := kin a o c
      rw [script] at e
      cases e
      exact .inr ⟨_, vs.toArray, _, c, rfl, rfl, rfl, by rw [List.size_toArray, iv.length]; exact len, rel⟩
  have md : Mod K mg (hidT t.heap H) := ⟨kin', dict glob, ⟨mb, dict bl, boot⟩, let ⟨mc, h1, h2⟩ := lim; ⟨mc, dict h1, h2⟩⟩
  have env : Env0 P w K mg (hidT t.heap H) callerA [] t H := ⟨rfl, md, fun b o e => of_hidT e, Nat.le_of_eq (hidT_size _ _), trivial, fun b z => absurd (show b ∈ ([] : List Addr) from z) List.not_mem_nil, hold, .of_eq gens⟩
  refine codeAny_mono ((F _ kin' (dict glob)).run callerA [] [] t H ⟨[.ref a], []⟩ [.ref a] [.ref a] _ room rfl env (bind t (.ref a)) (.cons rfl .nil) (q H seq)) fun r s' back => ?_
  match r, back with
  | .error e, back => exact back.elim
  | .ok (.ret u), ⟨v, H', os, bare, un, hold', ru, ev⟩ =>
    have ev' : v = .bl true := ev
    subst ev'
    obtain rfl : u = Value.bool true := ru
    refine ⟨rfl, OldK.of_keep fun b o e => ?_, os, bare⟩
    cases c : H b with
    | none => exact un.keep b o e c (fun z => absurd (show b ∈ ([] : List Addr) from z) List.not_mem_nil) List.not_mem_nil
    | some u =>
      obtain ⟨rfl, _, rfl⟩ := one c
      have after := (hold' _ _ (un.frzs _ _ _ c)).1
      rw [script] at e
      cases e
      exact after
/-- the goal that the head of an open law leaves, from the law's promise -/
theorem walk_gn {l : PySem.W.OpenLaw} {n k : Nat} {q : Program} {loose : List Str} {XP : (Str → Option Value) → Heap → Prop} {YP : World → Heap → Prop} {d : DefRec} {K : Params → PySem.W.Frag} {sp : World → SpG} {x : Str}
    (hn : l.most = some n) (hn2 : n ≤ sizeLine) (hdf : d.params.defaults = []) (hr : Room k callerA) (hY : ∀ (w : World) (h : Heap), YP w h → (K w.params).In h)
    (F : ∀ (w : World) (mg : Str → Option Value) (fa : Addr) (h : Heap), (K w.params).In h → h.Ns mainGlobals mg → mg d.name = some (.ref fa) →
      ∃ fd : FuncData, (∀ (s : Shared) (u : Value), BindsTo s fd ⟨[u], []⟩ [(x, u)]) ∧ ∀ base : Heap, (K w.params).In base → base.Ns mainGlobals mg → GnOk l.prog w (K w.params) mg base k fa fd [x] (sp w))
    (hsp : ∀ (w : World) (H : Hp) (a : Addr) (ns : List Int), ns.length ≤ n → SqL (K w.params) H a (ns.map V.int) → sp w [] [.ref a] H fun v _ => v = .bl true) :
    PySem.W.WalkO q loose XP YP l.row.toRowW d [] (fun f vs => PySem.call f vs) :=
  Att.attach_call hn hdf fun w s₀ s₁ mg mb fa o pm cd doc a vs ns G Y ho hd hcd hmg hobj hints hlen hg =>
    let ⟨fd, hb, hF⟩ := F w mg fa _ (hY w _ Y) G.T.g hmg
    law_gn (hY w _ Y) G.T.g G.T.b G.T.builtins G.T.nolimit hg hobj hints (Nat.le_trans hlen hn2) hr hF hb fun H hS => hsp w H a ns hlen hS
end DL

set_option Elab.async false
set_option linter.all false
set_option maxRecDepth 100000
set_option maxHeartbeats 2000000
/-! k15: the text by places, the data, the promises -/
namespace K15
open PySem L2 DL
def top (i : Nat) : Stmt := PySem.Challenge.pw_onecrest_k15_whole_worths_along_lines.main.body.getD i (.Pass ⟨0, 0, 0, 0⟩)
abbrev sIsInt : Stmt := top 3
abbrev sIsList : Stmt := top 5
abbrev sIsCount : Stmt := top 4
abbrev ble (j : Nat) : Stmt := inClass (top 33) j
abbrev rat (j : Nat) : Stmt := inClass (top 24) j
abbrev sIsNumber : Stmt := top 25
abbrev sRatioOf : Stmt := top 28
/-! ### fractions -/
abbrev Fr := Int × Int
/-- the common part, with the sign of the bottom -/
def gs (t b : Int) : Int := if b > 0 then (Nat.gcd t.natAbs b.natAbs : Int) else -(Nat.gcd t.natAbs b.natAbs : Int)
def low (t b : Int) : Fr := (t.fdiv (gs t b), b.fdiv (gs t b))
/-- a fraction as it is held: below 2 ^ n, the bottom above 0 -/
structure Bd (n : Nat) (p : Fr) : Prop where
  t : p.1.natAbs < 2 ^ n
  b : p.2.natAbs < 2 ^ n
  pos : 0 < p.2
theorem gs_ne {t b : Int} (h : b ≠ 0) : gs t b ≠ 0 := by
  have g : 0 < Nat.gcd t.natAbs b.natAbs := Nat.gcd_pos_of_pos_right _ (by omega)
  unfold gs
  split <;> omega
theorem gs_dvd_t {t b : Int} : gs t b ∣ t := by
  have h : ((Nat.gcd t.natAbs b.natAbs : Nat) : Int) ∣ t := Int.ofNat_dvd_left.mpr (Nat.gcd_dvd_left _ _)
  unfold gs
  split
  · exact h
  · exact Int.neg_dvd.mpr h
theorem gs_dvd_b {t b : Int} : gs t b ∣ b := by
  have h : ((Nat.gcd t.natAbs b.natAbs : Nat) : Int) ∣ b := Int.ofNat_dvd_left.mpr (Nat.gcd_dvd_right _ _)
  unfold gs
  split
  · exact h
  · exact Int.neg_dvd.mpr h
theorem fdiv_small {x d : Int} (h : d ∣ x) : (x.fdiv d).natAbs ≤ x.natAbs := by
  rw [Int.fdiv_eq_ediv_of_dvd h]
  obtain ⟨c, rfl⟩ := h
  by_cases z : d = 0
  · subst z; simp
  · rw [Int.mul_ediv_cancel_left _ z, Int.natAbs_mul]
    exact Nat.le_mul_of_pos_left _ (by omega)
theorem low_pos {t b : Int} (h : b ≠ 0) : 0 < (low t b).2 := by
  show 0 < b.fdiv (gs t b)
  have d := gs_dvd_b (t := t) (b := b)
  have n := gs_ne (t := t) h
  rw [Int.fdiv_eq_ediv_of_dvd d]
  obtain ⟨c, hc⟩ := d
  have e : b / gs t b = c := by
    conv => lhs; lhs; rw [hc]
    exact Int.mul_ediv_cancel_left _ n
  rw [e]
  have g : 0 < Nat.gcd t.natAbs b.natAbs := Nat.gcd_pos_of_pos_right _ (by omega)
  by_cases p : b > 0
  · have e2 : gs t b = (Nat.gcd t.natAbs b.natAbs : Int) := by unfold gs; rw [if_pos p]
    rw [e2] at hc
    by_cases q : 0 < c
    · exact q
    · have : (Nat.gcd t.natAbs b.natAbs : Int) * c ≤ 0 := Int.mul_nonpos_of_nonneg_of_nonpos (by omega) (by omega)
      omega
  · have e2 : gs t b = -(Nat.gcd t.natAbs b.natAbs : Int) := by unfold gs; rw [if_neg p]
    rw [e2] at hc
    by_cases q : 0 < c
    · exact q
    · have : 0 ≤ -(Nat.gcd t.natAbs b.natAbs : Int) * c := Int.mul_nonneg_of_nonpos_of_nonpos (by omega) (by omega)
      omega
theorem low_bd {n : Nat} {t b : Int} (h : b ≠ 0) (ht : t.natAbs < 2 ^ n) (hb : b.natAbs < 2 ^ n) : Bd n (low t b) :=
  ⟨Nat.lt_of_le_of_lt (fdiv_small gs_dvd_t) ht, Nat.lt_of_le_of_lt (fdiv_small gs_dvd_b) hb, low_pos h⟩
theorem low_gcd {t b : Int} (h : b ≠ 0) : Nat.gcd (low t b).1.natAbs (low t b).2.natAbs = 1 := by
  show Nat.gcd (t.fdiv (gs t b)).natAbs (b.fdiv (gs t b)).natAbs = 1
  have g : 0 < Nat.gcd t.natAbs b.natAbs := Nat.gcd_pos_of_pos_right _ (by omega)
  have e : (gs t b).natAbs = Nat.gcd t.natAbs b.natAbs := by
    unfold gs
    split <;> omega
  have key : ∀ x : Int, gs t b ∣ x → (x.fdiv (gs t b)).natAbs = x.natAbs / Nat.gcd t.natAbs b.natAbs := fun x hx => by
    rw [Int.fdiv_eq_ediv_of_dvd hx, ← e]
    obtain ⟨c, rfl⟩ := hx
    have n := gs_ne (t := t) h
    rw [Int.mul_ediv_cancel_left _ n, Int.natAbs_mul, Nat.mul_div_cancel_left _ (by omega)]
  rw [key t gs_dvd_t, key b gs_dvd_b]
  rw [Nat.gcd_div (Nat.gcd_dvd_left _ _) (Nat.gcd_dvd_right _ _)]
  exact Nat.div_self g
/-- what is in lowest terms stays -/
theorem low_id {t b : Int} (hb : 0 < b) (h : Nat.gcd t.natAbs b.natAbs = 1) : low t b = (t, b) := by
  have e : gs t b = 1 := by unfold gs; rw [if_pos hb, h]; rfl
  unfold low
  rw [e, Int.fdiv_one, Int.fdiv_one]
theorem low_one (n : Int) : low n 1 = (n, 1) := low_id (by decide) (Nat.gcd_one_right _)
theorem mul_bd {a b : Int} {m n : Nat} (h : a.natAbs < 2 ^ m) (k : b.natAbs < 2 ^ n) : (a * b).natAbs < 2 ^ (m + n) := by
  rw [Int.natAbs_mul, Nat.pow_add]
  exact Nat.mul_lt_mul'' h k
theorem add_bd {a b : Int} {m : Nat} (h : a.natAbs < 2 ^ m) (k : b.natAbs < 2 ^ m) : (a + b).natAbs < 2 ^ (m + 1) := by
  have := Int.natAbs_add_le a b
  rw [Nat.pow_succ]
  omega
theorem sub_bd {a b : Int} {m : Nat} (h : a.natAbs < 2 ^ m) (k : b.natAbs < 2 ^ m) : (a - b).natAbs < 2 ^ (m + 1) := by
  have := Int.natAbs_sub_le a b
  rw [Nat.pow_succ]
  omega
theorem bd_mono {a : Int} {m n : Nat} (h : a.natAbs < 2 ^ m) (k : m ≤ n) : a.natAbs < 2 ^ n := Nat.lt_of_lt_of_le h (Nat.pow_le_pow_right (by decide) k)
theorem Bd.mono {p : Fr} {m n : Nat} (h : Bd m p) (k : m ≤ n) : Bd n p := ⟨bd_mono h.t k, bd_mono h.b k, h.pos⟩
theorem cmul {a b : Int} {m n : Nat} (h : a.natAbs < 2 ^ m) (k : b.natAbs < 2 ^ n) (hm : m ≤ 60000000) (hn : n ≤ 60000000) : CMulX a b := by
  have e1 := intBits_le_iff.mpr h
  have e2 := intBits_le_iff.mpr k
  show (Builtin.Int.intBits a : Int) + (Builtin.Int.intBits b : Int) ≤ 134217728
  omega
theorem cdivg {a b : Int} {n : Nat} (h : b ≠ 0) (k : b.natAbs < 2 ^ n) (hn : n ≤ 9000) : CDivG a b :=
  ⟨h, Nat.lt_of_lt_of_le ((Nat.log2_lt (by omega)).mpr k) hn⟩
theorem gs_bd {t b : Int} {n : Nat} (h : b ≠ 0) (hb : b.natAbs < 2 ^ n) : (gs t b).natAbs < 2 ^ n := by
  have e : (gs t b).natAbs = Nat.gcd t.natAbs b.natAbs := by
    unfold gs
    split <;> omega
  rw [e]
  exact Nat.lt_of_le_of_lt (Nat.gcd_le_right _ (by omega)) hb
end K15

set_option Elab.async false
set_option linter.all false
set_option maxRecDepth 100000
set_option maxHeartbeats 2000000
/-! k15: the promises, the checks, Ratio -/
namespace K15
open PySem L2 DL
section
variable {X : Cx} {B : Hp} {S : En} {pos : Pos} {Q : D → Prop} {x : Str} {d : D}
theorem nm (i : Nat) (q : Q d) (hN : X.N[i]? = some x := by rfl) (h : S[i]? = some (some (.val d)) := by rfl) (hv : Vis X.env.scope x := by first | exact Or.inl rfl | exact Or.inr (Or.inl rfl) | exact Or.inr (Or.inr rfl))
    (hd : (x == ("__debug__" : Str)) = false := by decide) (hcd : (x == ("__classdict__" : Str)) = false := by decide) : ED X B S (.Name x pos) Q := ed_name i hN h q hv hd hcd
theorem sd_post {W0 : Wd} {st : Stmt} {E : Ends'} (QS : En → Prop) (h : SD X B W0 S st { E with nx := QS }) (k : ∀ S', QS S' → E.nx S') : SD X B W0 S st E := fun σ W H r z D' q => h σ W H r z D' ⟨fun S' σ' W' H' r' z' x' y => q.nx S' σ' W' H' r' z' x' (k S' y), q.rt, q.bk, q.ct⟩
theorem kB {QB : Bool → Prop} {b : Bool} (q : QB b) : ∃ k, D.bl b = .bl k ∧ QB k := ⟨b, rfl, q⟩
end
/-! ### data -/
def rf (p : Fr) : List (Str × D) := [("_top", .int p.1), ("_bottom", .int p.2)]
abbrev Ra (C : Addr) (p : Fr) : D := .obj C (rf p)
def pr (p : Fr) : D := .tup [.int p.1, .int p.2]
/-- what may be handed to a check -/
inductive Kn (C : Addr) : D → Prop
  | non : Kn C .non
  | bl (b) : Kn C (.bl b)
  | int (i) : Kn C (.int i)
  | str (s) : Kn C (.str s)
  | tup (l) : Kn C (.tup l)
  | lst (l) : Kn C (.lst l)
  | dct : Kn C .dct
  | rat (p) : Kn C (Ra C p)
def isI : D → Bool
  | .int _ => true
  | _ => false
def isB : D → Bool
  | .bl _ => true
  | _ => false
def isO : D → Bool
  | .obj _ _ => true
  | _ => false
structure Txt (K : PySem.W.Frag) (mg : Str → Option Value) (C : Addr) : Prop where
  nu : Num K C
  is : Isi K C
  nT : NoAttr K C "_top"
  nB : NoAttr K C "_bottom"
  ne : PySem.W.findIn K (.ref C) "__ne__" = some (some (.builtin "object.__ne__"))
  mC : mg "Ratio" = some (.ref C)
  gcd : mg "gcd" = some (.builtin "math.gcd")
  isi : mg "isinstance" = none
  int : mg "int" = none
  bool : mg "bool" = none
  list : mg "list" = none
  tuple : mg "tuple" = none
  abs : mg "abs" = none
  len : mg "len" = none
  max : mg "max" = none
  divmod : mg "divmod" = none
  str : mg "str" = none
  repr : mg "repr" = none
  range : mg "range" = none
  k1 : PySem.W.kitOne K (.type "NoneType") (.type "int") = some false
  k2 : PySem.W.kitOne K (.type "bool") (.type "int") = some true
  k3 : PySem.W.kitOne K (.type "str") (.type "int") = some false
  k4 : PySem.W.kitOne K (.type "tuple") (.type "int") = some false
  k5 : PySem.W.kitOne K (.type "list") (.type "int") = some false
  k6 : PySem.W.kitOne K (.ref C) (.type "int") = some false
  k7 : PySem.W.kitOne K (.type "int") (.type "bool") = some false
  r1 : PySem.W.kitOne K (.type "NoneType") (.ref C) = some false
  r2 : PySem.W.kitOne K (.type "bool") (.ref C) = some false
  r3 : PySem.W.kitOne K (.type "str") (.ref C) = some false
  r4 : PySem.W.kitOne K (.type "tuple") (.ref C) = some false
  r5 : PySem.W.kitOne K (.type "list") (.ref C) = some false
  r7 : PySem.W.kitOne K (.type "int") (.ref C) = some false
  k8 : PySem.W.kitOne K (.type "dict") (.type "int") = some false
  r8 : PySem.W.kitOne K (.type "dict") (.ref C) = some false
  l0 : ∀ T : String, T = "NoneType" ∨ T = "bool" ∨ T = "str" ∨ T = "int" ∨ T = "dict" → PySem.W.kitAny K (.type T) [.type "list", .type "tuple"] = some false
  l3 : PySem.W.kitAny K (.ref C) [.type "list", .type "tuple"] = some false
  all : mg "all" = none
  zip : mg "zip" = none
  l1 : PySem.W.kitAny K (.type "list") [.type "list", .type "tuple"] = some true
  l2 : PySem.W.kitAny K (.type "tuple") [.type "list", .type "tuple"] = some true
theorem same {K : PySem.W.Frag} {t : Value} (h : (t == t) = true) : PySem.W.kitOne K t t = some true := by
  unfold PySem.W.kitOne
  rw [if_pos h]
theorem Kn.ty {K : PySem.W.Frag} {mg : Str → Option Value} {C : Addr} (T : Txt K mg C) {d : D} (h : Kn C d) : ∃ t, TyD K d t ∧ PySem.W.kitOne K t (.type "int") = some (isI d || isB d) ∧ ((isI d || isB d) = true → PySem.W.kitOne K t (.type "bool") = some (isB d)) ∧ PySem.W.kitOne K t (.ref C) = some (isO d) := by
  cases h with
  | non => exact ⟨_, .non, T.k1, fun z => Bool.noConfusion z, T.r1⟩
  | bl b => exact ⟨_, .bl b, T.k2, fun _ => same (by decide +kernel), T.r2⟩
  | int i => exact ⟨_, .int i, same (by decide +kernel), fun _ => T.k7, T.r7⟩
  | str s => exact ⟨_, .str s, T.k3, fun z => Bool.noConfusion z, T.r3⟩
  | tup l => exact ⟨_, .tup l, T.k4, fun z => Bool.noConfusion z, T.r4⟩
  | dct => exact ⟨_, .dct, T.k8, fun z => Bool.noConfusion z, T.r8⟩
  | lst l => exact ⟨_, .lst l, T.k5, fun z => Bool.noConfusion z, T.r5⟩
  | rat p => exact ⟨_, .obj _ T.is, T.k6, fun z => Bool.noConfusion z, same (beq_self_eq_true _)⟩
/-! ### promises -/
abbrev spB (C : Addr) (f : D → Bool) : SpD := fun as Q => ∃ d, as = [.val d] ∧ Kn C d ∧ Q (.bl (f d))
section
variable {P : Program} {w : World} {K : PySem.W.Frag} {mg : Str → Option Value} {base : Heap} {C : Addr}
theorem sc_isint : FnScope ["value"] ["value"] (defScope sIsInt) := ⟨rfl, rfl, rfl, by decide +kernel, rfl, by decide +kernel, by decide +kernel⟩
theorem ok_isint {f : Addr} {fd : FuncData} (F : FunS K "is_integer" "is_integer" sIsInt f fd) (T : Txt K mg C) : GnOk P w K mg base 1 f fd ["value"] (lift K (spB C isI)) := by
  refine gn_dl F sc_isint (fun as Q h => by obtain ⟨d, rfl, _⟩ := h; rfl) (fun cdv A outer s H hr hG W as Q h => ?_)
  obtain ⟨d, rfl, kn, q⟩ := h
  obtain ⟨t, ty, h1, h2, _⟩ := kn.ty T
  refine sds_cons (sd_ret (ed_and (ed_callB T.isi (ad_cons (nm 0 (ad_cons (ed_ty T.int (ad_nil (cd_isi ty (.ty _) h1 (kB ?_))))))))))
  have e : isI d = ((isI d || isB d) && !isB d) := by cases d <;> rfl
  rw [e] at q
  cases c : (isI d || isB d) with
  | false =>
    rw [c] at q
    exact q
  | true =>
    rw [c] at q
    show ED _ _ _ _ _
    exact ed_one (ed_not (ed_callB T.isi (ad_cons (nm 0 (ad_cons (ed_ty T.bool (ad_nil (cd_isi ty (.ty _) (h2 c) (kB q)))))))))

/-- is_count: an int from 0 on -/
def isC : D → Bool
  | .int i => decide (0 ≤ i)
  | _ => false
theorem sc_iscount : FnScope ["value"] ["value"] (defScope sIsCount) := ⟨rfl, rfl, rfl, by decide +kernel, rfl, by decide +kernel, by decide +kernel⟩
theorem ok_iscount {f : Addr} {fd : FuncData} (F : FunS K "is_count" "is_count" sIsCount f fd) (T : Txt K mg C) (G : Df P w K mg base "is_integer" 1 1 (spB C isI)) : GnOk P w K mg base 2 f fd ["value"] (lift K (spB C isC)) := by
  refine gn_dl F sc_iscount (fun as Q h => by obtain ⟨d, rfl, _⟩ := h; rfl) (fun cdv A outer s H hr hG W as Q h => ?_)
  obtain ⟨d, rfl, kn, q⟩ := h
  refine sds_cons (sd_ret (ed_and (ed_call G hr hG (ad_cons (nm 0 (ad_nil ⟨d, rfl, kn, kB ?_⟩))))))
  cases kn with
  | int i => exact ed_one (show ED _ _ _ _ _ from ed_cmp (nm 0 (ed_int (od_ge q))))
  | _ => exact q
abbrev spL : SpD := fun as Q => ∃ d l, as = [.val d] ∧ (d = .lst l ∨ d = .tup l) ∧ Q (.bl true)
theorem sc_islist : FnScope ["value"] ["value"] (defScope sIsList) := ⟨rfl, rfl, rfl, by decide +kernel, rfl, by decide +kernel, by decide +kernel⟩
theorem ok_islist {f : Addr} {fd : FuncData} (F : FunS K "is_list" "is_list" sIsList f fd) (T : Txt K mg C) : GnOk P w K mg base 1 f fd ["value"] (lift K spL) := by
  refine gn_dl F sc_islist (fun as Q h => by obtain ⟨d, l, rfl, _⟩ := h; rfl) (fun cdv A outer s H hr hG W as Q h => ?_)
  obtain ⟨d, l, rfl, hd, q⟩ := h
  refine sds_cons (sd_ret (ed_callB T.isi (ad_cons (nm 0 (ad_cons (ed_tup (ad_cons (ed_ty T.list (ad_cons (ed_ty T.tuple (ad_nil ⟨[.ty "list", .ty "tuple"], rfl, by decide, ad_nil ?_⟩)))))))))))
  rcases hd with rfl | rfl
  · exact cd_isi2 (.lst l) (.ty _) (.ty _) T.l1 q
  · exact cd_isi2 (.tup l) (.ty _) (.ty _) T.l2 q
def isN (d : D) : Bool := isI d || isO d
theorem sc_isnumber : FnScope ["value"] ["value"] (defScope sIsNumber) := ⟨rfl, rfl, rfl, by decide +kernel, rfl, by decide +kernel, by decide +kernel⟩
theorem ok_isnumber {f : Addr} {fd : FuncData} (F : FunS K "is_number" "is_number" sIsNumber f fd) (T : Txt K mg C) (G : Df P w K mg base "is_integer" 1 1 (spB C isI)) : GnOk P w K mg base 2 f fd ["value"] (lift K (spB C isN)) := by
  refine gn_dl F sc_isnumber (fun as Q h => by obtain ⟨d, rfl, _⟩ := h; rfl) (fun cdv A outer s H hr hG W as Q h => ?_)
  obtain ⟨d, rfl, kn, q⟩ := h
  obtain ⟨t, ty, _, _, h3⟩ := kn.ty T
  refine sds_cons (sd_ret (ed_or (ed_call G hr hG (ad_cons (nm 0 (ad_nil ⟨d, rfl, kn, kB ?_⟩))))))
  unfold isN at q
  cases c : isI d with
  | true =>
    simp only [c, Bool.true_or] at q
    exact q
  | false =>
    simp only [c, Bool.false_or] at q
    exact ed_one (show ED _ _ _ _ _ from ed_callB T.isi (ad_cons (nm 0 (ad_cons (ed_cls T.mC (ad_nil (cd_isi ty (.cls _) h3 q)))))))
/-! ### Ratio(top, bottom) -/
abbrev sInit : Stmt := rat 0
abbrev spInit : SpI := fun as Q => ∃ t b, as = [.val (.int t), .val (.int b)] ∧ b ≠ 0 ∧ t.natAbs < 2 ^ 8000 ∧ b.natAbs < 2 ^ 8000 ∧ Q (rf (low t b))
theorem sc_init : FnScope ["self", "top", "bottom", "value", "shared"] ["self", "top", "bottom"] (defScope sInit) := ⟨rfl, rfl, rfl, by decide +kernel, rfl, by decide +kernel, by decide +kernel⟩
theorem ok_init {f : Addr} {fd : FuncData} (F : FunS K "__init__" "Ratio.__init__" sInit f fd) (T : Txt K mg C) (G : Df P w K mg base "is_integer" 1 1 (spB C isI)) : GnOk P w K mg base 2 f fd ["self", "top", "bottom"] (liftI K C spInit) := by
  refine init_dl F sc_init (fun as Q h => by obtain ⟨t, b, rfl, _⟩ := h; rfl) (fun cdv A outer s H hr hG W B as Q p dx h => ?_)
  obtain ⟨t, b, rfl, hb, bt, bb, q⟩ := h
  have nd := sc_init.nd
  refine sds_cons (sd_forT (l := [.int t, .int b]) PassesOwn.never rfl (fun _ S' => ∃ v, notInst v = true ∧ S' = [some (.inst C p dx []), some (.val (.int t)), some (.val (.int b)), v, none]) (ed_tup (ad_cons (nm 1 (ad_cons (nm 2 (ad_nil ⟨[.int t, .int b], rfl, by simp, rfl, none, rfl, rfl⟩)))))) ?_ ?_)
  · rintro i d S' hi ⟨v, nv, rfl⟩
    refine gd_name 3 nd rfl ?_
    refine sds_cons (sd_if (td_not (td_val (ed_call G hr hG (ad_cons (nm 3 (ad_nil ⟨d, rfl, ?_, kB ?_⟩)))))))
    · rcases i with _ | _ | i
      · cases hi; exact .int _
      · cases hi; exact .int _
      · simp at hi
    · have e : isI d = true := by
        rcases i with _ | _ | i
        · cases hi; rfl
        · cases hi; rfl
        · simp at hi
      rw [e]
      exact sds_nil (sds_nil ⟨_, rfl, rfl⟩)
  · rintro S' ⟨v, nv, rfl⟩
    refine sds_cons (sd_if (td_cmp (nm 2 (ed_int (od_eqi (kB ?_))))))
    rw [decide_eq_false hb]
    refine sds_nil ?_
    refine sds_cons (sd_set 4 nd rfl (ed_callM T.gcd (ad_cons (nm 1 (ad_cons (nm 2 (ad_nil (cd_gcd ?_))))))))
    refine sds_cons (sd_post (fun S' => S' = [some (.inst C p dx []), some (.val (.int t)), some (.val (.int b)), v, some (.val (.int (gs t b)))]) (sd_if (td_cmp (nm 2 (ed_int (od_lt (kB ?_)))))) ?_)
    · by_cases c : b < 0
      · rw [decide_eq_true c]
        refine sds_cons (sd_set 4 nd rfl (ed_neg (nm 4 ⟨_, rfl, sds_nil ?_⟩)))
        have e : gs t b = -(Nat.gcd t.natAbs b.natAbs : Int) := by unfold gs; rw [if_neg (by omega)]
        rw [e]
        rfl
      · rw [decide_eq_false c]
        refine sds_nil ?_
        have e : gs t b = (Nat.gcd t.natAbs b.natAbs : Int) := by unfold gs; rw [if_pos (by omega)]
        rw [e]
        rfl
    · rintro S' rfl
      have gb := gs_bd (t := t) hb bb
      have g0 := gs_ne (t := t) hb
      refine sds_cons (sd_fld 0 [] T.nu.cl T.nT rfl rfl (by decide) (by simp [notInst]; exact nv) (ed_bin (nm 1 (nm 4 (od_fdiv (cdivg g0 gb (by decide)) ?_)))))
      refine sds_cons (sd_fld 0 _ T.nu.cl T.nB rfl rfl (by simp [putD]) (by simp [notInst]; exact nv) (ed_bin (nm 2 (nm 4 (od_fdiv (cdivg g0 gb (by decide)) ?_)))))
      refine sds_nil ⟨_, rfl, ?_⟩
      have e : putD "_bottom" (D.int (b.fdiv (gs t b))) (putD "_top" (D.int (t.fdiv (gs t b))) []) = rf (low t b) := by
        show (if ("_top" : Str) = "_bottom" then _ else (("_top" : Str), D.int _) :: [(("_bottom" : Str), D.int _)]) = _
        rw [if_neg (by decide +kernel)]
        rfl
      rw [e]
      exact q
end
end K15

set_option Elab.async false
set_option linter.all false
set_option maxRecDepth 100000
set_option maxHeartbeats 2000000
/-! k15: what a Ratio does -/
namespace K15
open PySem L2 DL
theorem lookT (p : Fr) : (rf p).lookup ("_top" : Str) = some (.int p.1) := rfl
theorem lookB (p : Fr) : (rf p).lookup ("_bottom" : Str) = some (.int p.2) := by
  unfold rf
  rw [List.lookup_cons, show (("_bottom" : Str) == ("_top" : Str)) = false by decide +kernel]
  rfl
/-- a Ratio or an int, and the fraction it is -/
inductive Nr (C : Addr) (n : Nat) : D → Fr → Prop
  | rat (p) (h : Bd n p) : Nr C n (Ra C p) p
  | int (i : Int) (h : i.natAbs < 2 ^ n) (h1 : 1 < 2 ^ n) : Nr C n (.int i) (i, 1)
theorem Nr.bd {C : Addr} {n : Nat} {x : D} {p : Fr} (h : Nr C n x p) : Bd n p := by
  cases h with
  | rat p h => exact h
  | int i h h1 => exact ⟨h, h1, Int.one_pos⟩
def addF (p q : Fr) : Fr := low (p.1 * q.2 + q.1 * p.2) (p.2 * q.2)
def subF (p q : Fr) : Fr := low (p.1 * q.2 - q.1 * p.2) (p.2 * q.2)
def mulF (p q : Fr) : Fr := low (p.1 * q.1) (p.2 * q.2)
def overF (p q : Fr) : Fr := low (p.1 * q.2) (p.2 * q.1)
def sgF (p : Fr) : Int := if p.1 > 0 then 1 else if p.1 < 0 then -1 else 0
abbrev sp1 (C : Addr) (f : Fr → D) : SpD := fun as Q => ∃ p, as = [.val (Ra C p)] ∧ Q (f p)
/-- .. of a fraction that is not great -/
abbrev sp1b (C : Addr) (n : Nat) (f : Fr → D) : SpD := fun as Q => ∃ p, as = [.val (Ra C p)] ∧ Bd n p ∧ Q (f p)
abbrev spRat (C : Addr) : SpD := fun as Q => ∃ x p, as = [.val x] ∧ Nr C 3000 x p ∧ Q (Ra C p)
abbrev spOp (C : Addr) (f : Fr → Fr → D) : SpD := fun as Q => ∃ p x q, as = [.val (Ra C p), .val x] ∧ Bd 3000 p ∧ Nr C 3000 x q ∧ Q (f p q)
/-- what a Ratio's method stands on -/
structure Rt (P : Program) (w : World) (K : PySem.W.Frag) (mg : Str → Option Value) (base : Heap) (C : Addr) : Prop where
  T : Txt K mg C
  mk2 : Kl P w K mg base "Ratio" C 2 [] spInit
  mk1 : Kl P w K mg base "Ratio" C 2 [.int 1] spInit
  top : Pr P w K mg base C "top" 1 (sp1 C fun p => .int p.1)
  bot : Pr P w K mg base C "bottom" 1 (sp1 C fun p => .int p.2)
section
variable {P : Program} {w : World} {K : PySem.W.Frag} {mg : Str → Option Value} {base : Heap} {C : Addr}
section
variable {X : Cx} {B : Hp} {S : En} {pos : Pos} {Q : D → Prop} {o : Expr}
/-- o._top, o._bottom -/
theorem fT {p : Fr} (T : Txt X.K X.mg C) (h : ED X B S o fun x => x = Ra C p ∧ Q (.int p.1)) (hb : attributeBase o "_top" X.env (eval o X.env) = eval o X.env := by rfl) : ED X B S (.Attribute o "_top" pos) Q :=
  ed_fld T.nu.cl T.nT (fun σ W H r R c => h σ W H r R fun d v W' H' s ok n ⟨e, q⟩ => c d v W' H' s ok n ⟨rf p, .int p.1, e, lookT p, q⟩) hb
theorem fB {p : Fr} (T : Txt X.K X.mg C) (h : ED X B S o fun x => x = Ra C p ∧ Q (.int p.2)) (hb : attributeBase o "_bottom" X.env (eval o X.env) = eval o X.env := by rfl) : ED X B S (.Attribute o "_bottom" pos) Q :=
  ed_fld T.nu.cl T.nB (fun σ W H r R c => h σ W H r R fun d v W' H' s ok n ⟨e, q⟩ => c d v W' H' s ok n ⟨rf p, .int p.2, e, lookB p, q⟩) hb
/-- o.top, o.bottom -/
theorem pT {p : Fr} (V : Rt X.prog X.w X.K X.mg X.base C) (hr : Room 2 X.A) (hG : X.A.guards = some (gOf X)) (h : ED X B S o fun x => x = Ra C p ∧ Q (.int p.1)) (hb : attributeBase o "top" X.env (eval o X.env) = eval o X.env := by rfl) : ED X B S (.Attribute o "top" pos) Q :=
  ed_prop V.T.nu.cl V.top hr hG (fun σ W H r R c => h σ W H r R fun d v W' H' s ok n ⟨e, q⟩ => c d v W' H' s ok n ⟨rf p, e, p, by rw [e], q⟩) hb
theorem pB {p : Fr} (V : Rt X.prog X.w X.K X.mg X.base C) (hr : Room 2 X.A) (hG : X.A.guards = some (gOf X)) (h : ED X B S o fun x => x = Ra C p ∧ Q (.int p.2)) (hb : attributeBase o "bottom" X.env (eval o X.env) = eval o X.env := by rfl) : ED X B S (.Attribute o "bottom" pos) Q :=
  ed_prop V.T.nu.cl V.bot hr hG (fun σ W H r R c => h σ W H r R fun d v W' H' s ok n ⟨e, q⟩ => c d v W' H' s ok n ⟨rf p, e, p, by rw [e], q⟩) hb
end
theorem sc_top : FnScope ["self"] ["self"] (defScope (rat 1)) := ⟨rfl, rfl, rfl, by decide +kernel, rfl, by decide +kernel, by decide +kernel⟩
theorem ok_top {f : Addr} {fd : FuncData} (F : FunS K "top" "Ratio.top" (rat 1) f fd) (T : Txt K mg C) : GnOk P w K mg base 1 f fd ["self"] (lift K (sp1 C fun p => .int p.1)) := by
  refine gn_dl F sc_top (fun as Q h => by obtain ⟨d, rfl, _⟩ := h; rfl) (fun cdv A outer s H hr hG W as Q h => ?_)
  obtain ⟨p, rfl, q⟩ := h
  exact sds_cons (sd_ret (fT T (nm 0 ⟨rfl, q⟩)))
theorem sc_bot : FnScope ["self"] ["self"] (defScope (rat 2)) := ⟨rfl, rfl, rfl, by decide +kernel, rfl, by decide +kernel, by decide +kernel⟩
theorem ok_bot {f : Addr} {fd : FuncData} (F : FunS K "bottom" "Ratio.bottom" (rat 2) f fd) (T : Txt K mg C) : GnOk P w K mg base 1 f fd ["self"] (lift K (sp1 C fun p => .int p.2)) := by
  refine gn_dl F sc_bot (fun as Q h => by obtain ⟨d, rfl, _⟩ := h; rfl) (fun cdv A outer s H hr hG W as Q h => ?_)
  obtain ⟨p, rfl, q⟩ := h
  exact sds_cons (sd_ret (fB T (nm 0 ⟨rfl, q⟩)))
theorem sc_sign : FnScope ["self"] ["self"] (defScope (rat 3)) := ⟨rfl, rfl, rfl, by decide +kernel, rfl, by decide +kernel, by decide +kernel⟩
theorem ok_sign {f : Addr} {fd : FuncData} (F : FunS K "sign" "Ratio.sign" (rat 3) f fd) (T : Txt K mg C) : GnOk P w K mg base 1 f fd ["self"] (lift K (sp1 C fun p => .int (sgF p))) := by
  refine gn_dl F sc_sign (fun as Q h => by obtain ⟨d, rfl, _⟩ := h; rfl) (fun cdv A outer s H hr hG W as Q h => ?_)
  obtain ⟨p, rfl, q⟩ := h
  refine sds_cons (sd_if (td_cmp (fT T (nm 0 ⟨rfl, ed_int (od_gt (kB ?_))⟩))))
  have q : Q (.int (sgF p)) := q
  unfold sgF at q
  by_cases c : p.1 > 0
  · rw [if_pos c] at q
    rw [decide_eq_true (show 0 < p.1 from c)]
    exact sds_cons (sd_ret (ed_int q))
  · rw [if_neg c] at q
    rw [decide_eq_false (show ¬ 0 < p.1 from c)]
    refine sds_nil (sds_cons (sd_ret (ed_ifx (td_cmp (fT T (nm 0 ⟨rfl, ed_int (od_lt (kB ?_))⟩))))))
    by_cases e : p.1 < 0
    · rw [if_pos e] at q
      rw [decide_eq_true e]
      exact ed_neg (ed_int ⟨_, rfl, q⟩)
    · rw [if_neg e] at q
      rw [decide_eq_false e]
      exact ed_int q
theorem sc_ratof : FnScope ["value"] ["value"] (defScope sRatioOf) := ⟨rfl, rfl, rfl, by decide +kernel, rfl, by decide +kernel, by decide +kernel⟩
theorem ok_ratof {f : Addr} {fd : FuncData} (F : FunS K "ratio_of" "ratio_of" sRatioOf f fd) (V : Rt P w K mg base C) : GnOk P w K mg base 4 f fd ["value"] (lift K (spRat C)) := by
  refine gn_dl F sc_ratof (fun as Q h => by obtain ⟨d, _, rfl, _⟩ := h; rfl) (fun cdv A outer s H hr hG W as Q h => ?_)
  obtain ⟨x, p, rfl, n, q⟩ := h
  have T := V.T
  cases n with
  | rat p h =>
    obtain ⟨t, ty, _, _, h3⟩ := (Kn.rat (C := C) p).ty T
    refine sds_cons (sd_ret (ed_ifx (td_val (ed_callB T.isi (ad_cons (nm 0 (ad_cons (ed_cls T.mC (ad_nil (cd_isi ty (.cls _) h3 (kB ?_)))))))))))
    exact nm 0 q
  | int i h h1 =>
    obtain ⟨t, ty, _, _, h3⟩ := (Kn.int (C := C) i).ty T
    refine sds_cons (sd_ret (ed_ifx (td_val (ed_callB T.isi (ad_cons (nm 0 (ad_cons (ed_cls T.mC (ad_nil (cd_isi ty (.cls _) h3 (kB ?_)))))))))))
    refine ed_make V.mk1 hr hG (ad_cons (nm 0 (ad_nil ⟨i, 1, rfl, by decide, bd_mono h (by decide), bd_mono (m := 1) (by decide) (by decide), ?_⟩)))
    rw [low_one]
    exact q
end
end K15

set_option Elab.async false
set_option linter.all false
set_option maxRecDepth 100000
set_option maxHeartbeats 2000000
/-! k15: the operators, the comparisons, the texts of a Ratio -/
namespace K15
open PySem L2 DL
section
variable {P : Program} {w : World} {K : PySem.W.Frag} {mg : Str → Option Value} {base : Heap} {C : Addr}
theorem mk_ok {n : Nat} {t b : Int} {Q : List (Str × D) → Prop} (hb : b ≠ 0) (h1 : t.natAbs < 2 ^ n) (h2 : b.natAbs < 2 ^ n) (hn : n ≤ 8000) (q : Q (rf (low t b))) : spInit [.val (.int t), .val (.int b)] Q :=
  ⟨t, b, rfl, hb, bd_mono h1 hn, bd_mono h2 hn, q⟩
theorem mul_ne {a b : Int} (h : a ≠ 0) (k : b ≠ 0) : a * b ≠ 0 := Int.mul_ne_zero h k
theorem Bd.ne {n : Nat} {p : Fr} (h : Bd n p) : p.2 ≠ 0 := by have := h.pos; omega
theorem cm {m n : Nat} {a b : Int} (h : a.natAbs < 2 ^ m) (k : b.natAbs < 2 ^ n) (hm : m ≤ 3000 := by decide) (hn : n ≤ 3000 := by decide) : CMulX a b := cmul h k (by omega) (by omega)
theorem sc_add : FnScope ["self", "other", "right", "top"] ["self", "other"] (defScope (rat 5)) := ⟨rfl, rfl, rfl, by decide +kernel, rfl, by decide +kernel, by decide +kernel⟩
theorem ok_add {f : Addr} {fd : FuncData} (F : FunS K "__add__" "Ratio.__add__" (rat 5) f fd) (V : Rt P w K mg base C) (G : Df P w K mg base "ratio_of" 4 1 (spRat C)) : GnOk P w K mg base 5 f fd ["self", "other"] (lift K (spOp C fun p q => Ra C (addF p q))) := by
  refine gn_dl F sc_add (fun as Q h => by obtain ⟨_, _, _, rfl, _⟩ := h; rfl) (fun cdv A outer s H hr hG W as Q h => ?_)
  obtain ⟨p, x, q, rfl, hp, hx, k⟩ := h
  have T := V.T
  have hq := hx.bd
  have r2 := hr.mono (j := 2) (by decide)
  have nd := sc_add.nd
  refine sds_cons (sd_set 2 nd rfl (ed_call G hr hG (ad_cons (nm 1 (ad_nil ⟨x, q, rfl, hx, ?_⟩)))))
  refine sds_cons (sd_set 3 nd rfl (ed_bin (ed_bin (fT T (nm 0 ⟨rfl, pB V r2 hG (nm 2 ⟨rfl, od_mul (cm hp.t hq.b) (ed_bin (pT V r2 hG (nm 2 ⟨rfl, fB T (nm 0 ⟨rfl, od_mul (cm hq.t hp.b) (od_add ?_)⟩)⟩)))⟩)⟩)))))
  refine sds_cons (sd_ret (ed_makeA V.mk2 (hr.mono (by decide)) hG (ad_cons (nm 3 (ad_cons (ed_bin (fB T (nm 0 ⟨rfl, pB V r2 hG (nm 2 ⟨rfl, od_mul (cm hp.b hq.b) (ad_nil (mk_ok (n := 6001) (mul_ne hp.ne hq.ne) (add_bd (mul_bd hp.t hq.b) (mul_bd hq.t hp.b)) (bd_mono (mul_bd hp.b hq.b) (by decide)) (by decide) ?_))⟩)⟩))))))))
  exact k
theorem sc_mul : FnScope ["self", "other", "right"] ["self", "other"] (defScope (rat 9)) := ⟨rfl, rfl, rfl, by decide +kernel, rfl, by decide +kernel, by decide +kernel⟩
theorem ok_mul {f : Addr} {fd : FuncData} (F : FunS K "__mul__" "Ratio.__mul__" (rat 9) f fd) (V : Rt P w K mg base C) (G : Df P w K mg base "ratio_of" 4 1 (spRat C)) : GnOk P w K mg base 5 f fd ["self", "other"] (lift K (spOp C fun p q => Ra C (mulF p q))) := by
  refine gn_dl F sc_mul (fun as Q h => by obtain ⟨_, _, _, rfl, _⟩ := h; rfl) (fun cdv A outer s H hr hG W as Q h => ?_)
  obtain ⟨p, x, q, rfl, hp, hx, k⟩ := h
  have T := V.T
  have hq := hx.bd
  have r2 := hr.mono (j := 2) (by decide)
  have nd := sc_mul.nd
  refine sds_cons (sd_set 2 nd rfl (ed_call G hr hG (ad_cons (nm 1 (ad_nil ⟨x, q, rfl, hx, ?_⟩)))))
  refine sds_cons (sd_ret (ed_makeA V.mk2 (hr.mono (by decide)) hG (ad_cons (ed_bin (fT T (nm 0 ⟨rfl, pT V r2 hG (nm 2 ⟨rfl, od_mul (cm hp.t hq.t) (ad_cons (ed_bin (fB T (nm 0 ⟨rfl, pB V r2 hG (nm 2 ⟨rfl, od_mul (cm hp.b hq.b) (ad_nil (mk_ok (n := 6000) (mul_ne hp.ne hq.ne) (mul_bd hp.t hq.t) (mul_bd hp.b hq.b) (by decide) ?_))⟩)⟩))))⟩)⟩))))))
  exact k
/-! an int on the left -/
abbrev spOver (C : Addr) : SpD := fun as Q => ∃ p x q, as = [.val (Ra C p), .val x] ∧ Bd 3000 p ∧ Nr C 3000 x q ∧ q.1 ≠ 0 ∧ Q (Ra C (overF p q))
theorem sc_radd : FnScope ["self", "other"] ["self", "other"] (defScope (rat 6)) := ⟨rfl, rfl, rfl, by decide +kernel, rfl, by decide +kernel, by decide +kernel⟩
theorem ok_radd {f : Addr} {fd : FuncData} (F : FunS K "__radd__" "Ratio.__radd__" (rat 6) f fd) (V : Rt P w K mg base C) (G : Df P w K mg base "ratio_of" 4 1 (spRat C)) (M : Sm P w K mg base C "__add__" 5 (spOp C fun p q => Ra C (addF p q))) : GnOk P w K mg base 6 f fd ["self", "other"] (lift K (spOp C fun p q => Ra C (addF q p))) := by
  refine gn_dl F sc_radd (fun as Q h => by obtain ⟨_, _, _, rfl, _⟩ := h; rfl) (fun cdv A outer s H hr hG W as Q h => ?_)
  obtain ⟨p, x, q, rfl, hp, hx, k⟩ := h
  exact sds_cons (sd_ret (ed_bin (ed_call G (hr.mono (by decide)) hG (ad_cons (nm 1 (ad_nil ⟨x, q, rfl, hx, nm 0 (od_oo V.T.nu M hr hG ⟨q, _, p, rfl, hx.bd, .rat p hp, k⟩)⟩))))))
theorem sc_rmul : FnScope ["self", "other"] ["self", "other"] (defScope (rat 10)) := ⟨rfl, rfl, rfl, by decide +kernel, rfl, by decide +kernel, by decide +kernel⟩
theorem ok_rmul {f : Addr} {fd : FuncData} (F : FunS K "__rmul__" "Ratio.__rmul__" (rat 10) f fd) (V : Rt P w K mg base C) (G : Df P w K mg base "ratio_of" 4 1 (spRat C)) (M : Sm P w K mg base C "__mul__" 5 (spOp C fun p q => Ra C (mulF p q))) : GnOk P w K mg base 6 f fd ["self", "other"] (lift K (spOp C fun p q => Ra C (mulF q p))) := by
  refine gn_dl F sc_rmul (fun as Q h => by obtain ⟨_, _, _, rfl, _⟩ := h; rfl) (fun cdv A outer s H hr hG W as Q h => ?_)
  obtain ⟨p, x, q, rfl, hp, hx, k⟩ := h
  exact sds_cons (sd_ret (ed_bin (ed_call G (hr.mono (by decide)) hG (ad_cons (nm 1 (ad_nil ⟨x, q, rfl, hx, nm 0 (od_oo V.T.nu M hr hG ⟨q, _, p, rfl, hx.bd, .rat p hp, k⟩)⟩))))))
/-! of one -/
end
end K15

set_option Elab.async false
set_option linter.all false
set_option maxRecDepth 100000
set_option maxHeartbeats 2000000
/-! k15: Ratio.total, ==, the texts, the shares -/
namespace K15
open PySem L2 DL
section
variable {P : Program} {w : World} {K : PySem.W.Frag} {mg : Str → Option Value} {base : Heap} {C : Addr}
theorem addF_bd {m n : Nat} {p q : Fr} (hp : Bd m p) (hq : Bd n q) : Bd (m + n + 1) (addF p q) :=
  low_bd (mul_ne hp.ne hq.ne) (add_bd (mul_bd hp.t hq.b) (bd_mono (mul_bd hq.t hp.b) (by omega))) (bd_mono (mul_bd hp.b hq.b) (by omega))
/-! == -/
abbrev spEq (C : Addr) : SpD := fun as Q => ∃ p x, as = [.val (Ra C p), .val x] ∧ ((∃ q, x = Ra C q ∧ Q (.bl (decide (p.1 = q.1) && decide (p.2 = q.2)))) ∨ (∃ i, x = .int i ∧ Q (.bl false)))
theorem sc_eq : FnScope ["self", "other"] ["self", "other"] (defScope (rat 17)) := ⟨rfl, rfl, rfl, by decide +kernel, rfl, by decide +kernel, by decide +kernel⟩
theorem ok_eq {f : Addr} {fd : FuncData} (F : FunS K "__eq__" "Ratio.__eq__" (rat 17) f fd) (T : Txt K mg C) : GnOk P w K mg base 1 f fd ["self", "other"] (lift K (spEq C)) := by
  refine gn_dl F sc_eq (fun as Q h => by obtain ⟨_, _, rfl, _⟩ := h; rfl) (fun cdv A outer s H hr hG W as Q h => ?_)
  obtain ⟨p, x, rfl, h⟩ := h
  rcases h with ⟨q, rfl, k⟩ | ⟨i, rfl, k⟩
  · obtain ⟨t, ty, _, _, h3⟩ := (Kn.rat (C := C) q).ty T
    refine sds_cons (sd_ret (ed_and (ed_callB T.isi (ad_cons (nm 1 (ad_cons (ed_cls T.mC (ad_nil (cd_isi ty (.cls _) h3 (kB ?_))))))))))
    show ED _ _ _ _ _
    refine ed_and (ed_cmp (fT T (nm 0 ⟨rfl, fT T (nm 1 ⟨rfl, od_eqi (kB ?_)⟩)⟩)))
    by_cases c : p.1 = q.1
    · rw [decide_eq_true c] at k ⊢
      rw [Bool.true_and] at k
      show ED _ _ _ _ _
      exact ed_one (ed_cmp (fB T (nm 0 ⟨rfl, fB T (nm 1 ⟨rfl, od_eqi k⟩)⟩)))
    · rw [decide_eq_false c] at k ⊢
      exact k
  · obtain ⟨t, ty, _, _, h3⟩ := (Kn.int (C := C) i).ty T
    refine sds_cons (sd_ret (ed_and (ed_callB T.isi (ad_cons (nm 1 (ad_cons (ed_cls T.mC (ad_nil (cd_isi ty (.cls _) h3 (kB ?_))))))))))
    exact k
/-! texts -/
/-! shares -/
end
end K15

set_option Elab.async false
set_option linter.all false
set_option maxRecDepth 100000
set_option maxHeartbeats 4000000
/-! k15: fractions told by rational numbers -/
namespace K15
open PySem L2 DL
def fr (r : Rat) : Fr := (r.num, (r.den : Int))
theorem low_fr {t b : Int} (h : b ≠ 0) : low t b = fr (Rat.divInt t b) := by
  have dt := gs_dvd_t (t := t) (b := b)
  have db := gs_dvd_b (t := t) (b := b)
  have g0 := gs_ne (t := t) h
  obtain ⟨x, y, e⟩ : ∃ x y, low t b = (x, y) := ⟨_, _, rfl⟩
  have hp := low_pos (t := t) h
  have hg := low_gcd (t := t) h
  rw [e] at hp hg
  have ex : t.fdiv (gs t b) = x := congrArg Prod.fst e
  have ey : b.fdiv (gs t b) = y := congrArg Prod.snd e
  have tx : t = gs t b * x := by rw [← ex, Int.fdiv_eq_ediv_of_dvd dt, Int.mul_ediv_cancel' dt]
  have bx : b = gs t b * y := by rw [← ey, Int.fdiv_eq_ediv_of_dvd db, Int.mul_ediv_cancel' db]
  have hy : (y.natAbs : Int) = y := Int.natAbs_of_nonneg (Int.le_of_lt hp)
  have q : Rat.divInt t b = Rat.divInt x y := (Rat.divInt_eq_divInt_iff h (Int.ne_of_gt hp)).mpr (by
    generalize gs t b = k at tx bx
    rw [tx, bx, Int.mul_assoc, Int.mul_comm x (k * y), Int.mul_assoc, Int.mul_comm x y])
  have nz : y.natAbs ≠ 0 := by have : 0 < y := hp; omega
  have r := Rat.mk_eq_divInt (num := x) (den := y.natAbs) (nz := nz) (c := hg)
  rw [hy] at r
  rw [e, q, ← r]
  show (x, y) = (x, (y.natAbs : Int))
  rw [hy]
theorem fr_ne (r : Rat) : (fr r).2 ≠ 0 := by have := r.den_nz; show (r.den : Int) ≠ 0; omega
theorem fr_val (r : Rat) : Rat.divInt (fr r).1 (fr r).2 = r := Rat.num_divInt_den r
theorem addF_fr (r s : Rat) : addF (fr r) (fr s) = fr (r + s) := by
  unfold addF
  rw [low_fr (Int.mul_ne_zero (fr_ne r) (fr_ne s)), ← Rat.divInt_add_divInt _ _ (fr_ne r) (fr_ne s), fr_val, fr_val]
theorem mulF_fr (r s : Rat) : mulF (fr r) (fr s) = fr (r * s) := by
  unfold mulF
  rw [low_fr (Int.mul_ne_zero (fr_ne r) (fr_ne s)), ← Rat.divInt_mul_divInt, fr_val, fr_val]
theorem mulF_bd {m n : Nat} {p q : Fr} (hp : Bd m p) (hq : Bd n q) : Bd (m + n) (mulF p q) := low_bd (mul_ne hp.ne hq.ne) (mul_bd hp.t hq.t) (mul_bd hp.b hq.b)
abbrev Bq (n : Nat) (r : Rat) : Prop := Bd n (fr r)
theorem Bq.add {m n : Nat} {r s : Rat} (a : Bq m r) (b : Bq n s) : Bq (m + n + 1) (r + s) := by have := addF_bd a b; rw [addF_fr] at this; exact this
theorem Bq.mul {m n : Nat} {r s : Rat} (a : Bq m r) (b : Bq n s) : Bq (m + n) (r * s) := by have := mulF_bd a b; rw [mulF_fr] at this; exact this
theorem Bq.le {m n : Nat} {r : Rat} (a : Bq m r) (k : m ≤ n) : Bq n r := Bd.mono a k
theorem Bq.int {n : Nat} {i : Int} (h : i.natAbs < 2 ^ n) (h1 : 1 ≤ n) : Bq n (i : Rat) := ⟨h, by show (1 : Int).natAbs < 2 ^ n; exact Nat.lt_of_lt_of_le (by decide : 1 < 2 ^ 1) (Nat.pow_le_pow_right (by decide) h1), by show (0 : Int) < 1; decide⟩
/-- a Ratio or an int that is this number -/
inductive Nq (C : Addr) (n : Nat) : D → Rat → Prop
  | rat (r : Rat) (h : Bq n r) : Nq C n (Ra C (fr r)) r
  | int (i : Int) (h : Bq n (i : Rat)) : Nq C n (.int i) (i : Rat)
section
variable {C : Addr} {n m : Nat} {d : D} {r : Rat}
theorem Nq.b (h : Nq C n d r) : Bq n r := by cases h <;> assumption
theorem Nq.nr (h : Nq C n d r) : Nr C n d (fr r) := by
  cases h with
  | rat r h => exact .rat _ h
  | int i h => exact .int i h.t h.b
theorem Nq.mono (h : Nq C n d r) (k : n ≤ m) : Nq C m d r := by
  cases h with
  | rat r h => exact .rat _ (h.le k)
  | int i h => exact .int i (h.le k)
theorem Nq.kn (h : Nq C n d r) : Kn C d := by
  cases h with
  | rat r h => exact .rat _
  | int i h => exact .int i
theorem Nq.num (h : Nq C n d r) : isN d = true := by cases h <;> rfl
end
/-- numbers, each its own -/
def Nqs (C : Addr) (n : Nat) (l : List D) (rs : List Rat) : Prop := Paired (Nq C n) l rs
end K15

set_option Elab.async false
set_option linter.all false
set_option maxRecDepth 100000
set_option maxHeartbeats 2000000
/-! slices of tuples and texts; methods of texts; x[i] += j; tuple(tuple) -/
namespace DL
open PySem L2 PyProof.Rows
section
variable {X : Cx} {B : Hp} {W0 : Wd} {S : En} {pos p2 px p1 p apos cpos tpos : Pos} {Q : D → Prop} {a b c e e2 o : Expr} {es : List Expr} {E : Ends'} {x : Str}
/-- s[i:] of a text -/
theorem ed_slS (h : ED X B S e fun d => ED X B S b fun y => ∃ z : List Nat, ∃ j : Nat, d = .str (SX.S z) ∧ y = .int (j : Int) ∧ z.length ≤ 50000 ∧ Q (.str (SX.S (z.drop j)))) : ED X B S (.Subscript e (.Slice (some b) none none p2) pos) Q := fun σ W H r R k => by
  refine PE.w (pe_slice C8.sl_txt we_pe (po_some we_pe) po_none) ?_
  refine h σ W H r _ fun d v W1 H1 s1 ok1 n1 q1 => ?_
  show WE X b σ H1 _
  refine q1 σ W1 H1 (r.step s1 ok1) _ fun d2 u W2 H2 s2 ok2 n2 q2 => ?_
  obtain ⟨z, j, rfl, rfl, hz, q2⟩ := q2
  cases n1
  cases n2
  refine ⟨_, rfl, SX.S z, rfl, Nat.le_trans (by rw [SX.S_len]; exact hz) (by decide), ?_⟩
  rw [SX.slice_from (by omega), Int.toNat_natCast]
  exact ((k.step s1 ok1).step s2 ok2).now ok2 (.str _) q2
/-! methods of texts -/
section
variable {k0 : Nat}
theorem ed_count {s : Str} (h : ED X B S o fun d => d = .str s ∧ ED X B S e fun y => ∃ t, y = .str t ∧ Q (.int (Txt.count s t)))
    (hps : PE X (.Call (.Attribute o "count" apos) [e] [] cpos) (tBM X.K "str" (fun x xs H Q => ∃ a b, x = .str a ∧ xs = [.str b] ∧ Q (.int (Txt.count a b)) H) (WE X o) (tCons (WE X e) tNil)) := by
      exact pe_bm PySem.F.plainAttrs_str PySem.F.slot_str_count PySem.F.type_str_count mt_count DL.we_pe (pa_cons DL.we_pe pa_nil)) : ED X B S (.Call (.Attribute o "count" apos) [e] [] cpos) Q := fun σ W H r R k => by
  refine PE.w hps ?_
  refine h σ W H r _ fun d v W1 H1 s1 ok1 n1 q1 => ?_
  obtain ⟨rfl, q1⟩ := q1
  cases n1
  refine ⟨rfl, ?_⟩
  refine q1 σ W1 H1 (r.step s1 ok1) _ fun d2 u W2 H2 s2 ok2 n2 q2 => ?_
  obtain ⟨t, rfl, q2⟩ := q2
  cases n2
  exact ⟨s, t, rfl, rfl, ((k.step s1 ok1).step s2 ok2).now ok2 (.int _) q2⟩
end
/-- tuple(a tuple) -/
theorem cd_tupleT {l : List D} (q : Q (.tup l)) : CD X (.type "tuple") [.val (.tup l)] Q := cd_of call_tupleT fun vs W H ok ha R c => by
  obtain ⟨v, rfl, h⟩ := one_arg ha
  cases h with
  | tup h m => exact ⟨_, _, rfl, SqT.of (ok.ex _ _ h), c.now ok (.tup h m) q⟩
/-! x[i] += j, x the owner of its list -/
def rGetL (K : PySem.W.Frag) : V → V → Hp → VK → Prop := fun x y H Q => ∃ p xs, ∃ j : Nat, ∃ v, x = .ref p ∧ y = .int (j : Int) ∧ H p = some (.lst xs) ∧ j < 100000 ∧ xs[j]? = some v ∧ Q v H
end
end DL

set_option Elab.async false
set_option linter.all false
set_option maxRecDepth 100000
set_option maxHeartbeats 2000000
/-! k15: entries: keys of counts, amounts; sorted by the keys -/
namespace K15
open PySem L2 DL
abbrev Ent := List Int × Rat
theorem code_inj {B : Int} : ∀ {a b : List Int}, a.length = b.length → TS.Bd B a → TS.Bd B b → TS.code B a = TS.code B b → a = b
  | [], [], _, _, _, _ => rfl
  | x :: a, y :: b, hl, ha, hb, e => by
    have hl' : a.length = b.length := Nat.succ.inj hl
    have xy : x = y := by
      rcases Int.lt_trichotomy x y with h | h | h
      · have := TS.code_lt hl' ha.tail hb.tail h; omega
      · exact h
      · have := TS.code_lt hl'.symm hb.tail ha.tail h; omega
    subst xy
    have e' : TS.code B a = TS.code B b := by
      have e2 : x * B ^ a.length + TS.code B a = x * B ^ b.length + TS.code B b := e
      rw [hl'] at e2
      omega
    rw [code_inj hl' ha.tail hb.tail e']
theorem le_sum : ∀ {l : List Int}, (∀ c ∈ l, 0 ≤ c) → 0 ≤ l.sum ∧ ∀ c ∈ l, c ≤ l.sum
  | [], _ => ⟨Int.le_refl _, fun c h => by cases h⟩
  | x :: l, h => by
    obtain ⟨h0, h1⟩ := le_sum (l := l) fun c hc => h c (List.mem_cons_of_mem _ hc)
    have hx := h x (List.mem_cons_self ..)
    rw [List.sum_cons]
    refine ⟨by omega, fun c hc => ?_⟩
    rcases List.mem_cons.mp hc with rfl | hc
    · omega
    · have := h1 c hc; omega
/-- keys of m counts that make n, amounts above nought -/
structure GE (m n b : Nat) (es : List Ent) : Prop where
  len : ∀ e ∈ es, e.1.length = m
  nn : ∀ e ∈ es, ∀ c ∈ e.1, 0 ≤ c
  sum : ∀ e ∈ es, e.1.sum = (n : Int)
  pos : ∀ e ∈ es, 0 < e.2
  bq : ∀ e ∈ es, Bq b e.2
  nd : (es.map (·.1)).Nodup
  ln : es.length ≤ 200
theorem GE.nil {m n b : Nat} : GE m n b [] := ⟨nofun, nofun, nofun, nofun, nofun, .nil, by simp⟩
theorem GE.perm {m n b : Nat} {es fs : List Ent} (h : GE m n b es) (p : fs.Perm es) : GE m n b fs :=
  ⟨fun e he => h.len e (p.mem_iff.mp he), fun e he => h.nn e (p.mem_iff.mp he), fun e he => h.sum e (p.mem_iff.mp he), fun e he => h.pos e (p.mem_iff.mp he), fun e he => h.bq e (p.mem_iff.mp he), (p.map _).nodup_iff.mpr h.nd, by rw [p.length_eq]; exact h.ln⟩
theorem GE.cnt {m n b : Nat} {es : List Ent} (h : GE m n b es) {e : Ent} (he : e ∈ es) {c : Int} (hc : c ∈ e.1) : 0 ≤ c ∧ c ≤ n := ⟨h.nn e he c hc, by rw [← h.sum e he]; exact (le_sum (h.nn e he)).2 c hc⟩
theorem GE.bd {m n b : Nat} {es : List Ent} (h : GE m n b es) (hn : n ≤ 8) {e : Ent} (he : e ∈ es) : TS.Bd 9 e.1 := fun c hc => by have := h.cnt he hc; omega
theorem GE.mono {m n b c : Nat} {es : List Ent} (h : GE m n b es) (k : b ≤ c) : GE m n c es := ⟨h.len, h.nn, h.sum, h.pos, fun e he => (h.bq e he).le k, h.nd, h.ln⟩
def leE (a b : Ent) : Bool := decide (TS.code 9 a.1 ≤ TS.code 9 b.1)
def srt (es : List Ent) : List Ent := es.mergeSort leE
theorem srt_perm (es : List Ent) : (srt es).Perm es := List.mergeSort_perm _ _
theorem srt_pair (es : List Ent) : (srt es).Pairwise fun a b => TS.code 9 a.1 ≤ TS.code 9 b.1 := by
  have := List.pairwise_mergeSort (le := leE) (fun a b c h1 h2 => by unfold leE at *; simp at *; omega) (fun a b => by unfold leE; simp; omega) es
  exact this.imp fun h => by simpa [leE] using h
theorem nd_inj {es : List Ent} (h : (es.map (·.1)).Nodup) {a b : Ent} (ha : a ∈ es) (hb : b ∈ es) (e : a.1 = b.1) : a = b := by
  induction es with
  | nil => cases ha
  | cons x es ih =>
    rw [List.map_cons, List.nodup_cons] at h
    rcases List.mem_cons.mp ha with ha1 | ha1 <;> rcases List.mem_cons.mp hb with hb1 | hb1
    · rw [ha1, hb1]
    · exact absurd (by rw [← ha1, e]; exact List.mem_map_of_mem hb1) h.1
    · exact absurd (by rw [← hb1, ← e]; exact List.mem_map_of_mem ha1) h.1
    · exact ih h.2 ha1 hb1
theorem uniq {m n b : Nat} {es fs : List Ent} (h : GE m n b es) (hn : n ≤ 8) (p : fs.Perm es) (h1 : fs.Pairwise fun a b => TS.code 9 a.1 ≤ TS.code 9 b.1) (h2 : es.Pairwise fun a b => TS.code 9 a.1 ≤ TS.code 9 b.1) : fs = es :=
  List.Perm.eq_of_pairwise (fun a b ha hb l1 l2 => by
    have ha' := p.mem_iff.mp ha
    exact nd_inj h.nd ha' hb (code_inj (by rw [h.len a ha', h.len b hb]) (h.bd hn ha') (h.bd hn hb) (by omega))) h1 h2 p
theorem srt_eq {m n b : Nat} {es fs : List Ent} (h : GE m n b es) (hn : n ≤ 8) (p : fs.Perm es) (h1 : fs.Pairwise fun a b => TS.code 9 a.1 ≤ TS.code 9 b.1) : fs = srt es :=
  uniq (h.perm (srt_perm es)) hn (p.trans (srt_perm es).symm) h1 (srt_pair es)
theorem srt_congr {m n b : Nat} {es fs : List Ent} (h : GE m n b es) (hn : n ≤ 8) (p : fs.Perm es) : srt fs = srt es := srt_eq h hn ((srt_perm fs).trans p) (srt_pair fs)
theorem srt_srt {m n b : Nat} {es : List Ent} (h : GE m n b es) (hn : n ≤ 8) : srt (srt es) = srt es := srt_congr h hn (srt_perm es)
theorem srt_ge {m n b : Nat} {es : List Ent} (h : GE m n b es) : GE m n b (srt es) := h.perm (srt_perm es)
theorem srt_map {m n b : Nat} {es : List Ent} (h : GE m n b es) (hn : n ≤ 8) {c : Nat} (g : Ent → Ent) (hg : ∀ e, (g e).1 = e.1) (h' : GE m n c (es.map g)) : (srt es).map g = srt (es.map g) := by
  refine srt_eq h' hn ((srt_perm es).map g) ?_
  rw [List.pairwise_map]
  exact (srt_pair es).imp fun l => by rw [hg, hg]; exact l
theorem srt_nil : srt [] = [] := by simp [srt]
/-- the keys, sorted -/
theorem keys_srt {m n b : Nat} {es : List Ent} (h : GE m n b es) (hn : n ≤ 8) {ks : List (List Int)} (p : ks.Perm (es.map (·.1))) (h1 : ks.Pairwise fun a b => TS.code 9 a ≤ TS.code 9 b) : ks = (srt es).map (·.1) := by
  refine List.Perm.eq_of_pairwise (le := fun a b => TS.code 9 a ≤ TS.code 9 b) (fun a b ha hb l1 l2 => ?_) h1 (List.pairwise_map.mpr (srt_pair es)) (p.trans ((srt_perm es).map _).symm)
  obtain ⟨x, hx, rfl⟩ := List.mem_map.mp (p.mem_iff.mp ha)
  obtain ⟨y, hy, rfl⟩ := List.mem_map.mp hb
  have hy' := (srt_perm es).mem_iff.mp hy
  exact code_inj (by rw [h.len x hx, h.len y hy']) (h.bd hn hx) (h.bd hn hy') (by omega)
/-! as dicts, as lists -/
section
variable (C : Addr)
def kvD (es : List Ent) : List (List Key × D) := es.map fun e => (ik e.1, Ra C (fr e.2))
def enD (es : List Ent) : List D := es.map fun e => .tup [tI e.1, Ra C (fr e.2)]
end
section
variable {C : Addr}
theorem ik_inj {a b : List Int} (h : ik a = ik b) : a = b := by
  exact (List.map_inj_right (f := (Sum.inl : Int → Key)) fun x y e => by cases e; rfl).mp h
theorem kvD_keys {es : List Ent} : (kvD C es).map (·.1) = (es.map (·.1)).map ik := by unfold kvD; rw [List.map_map, List.map_map]; rfl
theorem kvD_len {es : List Ent} : (kvD C es).length = es.length := by unfold kvD; rw [List.length_map]
theorem look_kvD {es : List Ent} (h : (es.map (·.1)).Nodup) {e : Ent} (he : e ∈ es) : look (kvD C es) (ik e.1) = some (Ra C (fr e.2)) := by
  induction es with
  | nil => cases he
  | cons x es ih =>
    rw [List.map_cons, List.nodup_cons] at h
    show Option.map _ (List.find? _ ((ik x.1, Ra C (fr x.2)) :: kvD C es)) = _
    by_cases c : ik x.1 = ik e.1
    · rw [List.find?_cons_of_pos (by simpa using c)]
      have c' := ik_inj c
      rcases List.mem_cons.mp he with rfl | he'
      · rfl
      · exact absurd (by rw [c']; exact List.mem_map_of_mem he') h.1
    · rw [List.find?_cons_of_neg (by simpa using c)]
      rcases List.mem_cons.mp he with rfl | he'
      · exact absurd rfl c
      · exact ih h.2 he'
theorem look_no {es : List Ent} {k : List Int} (h : k ∉ es.map (·.1)) : look (kvD C es) (ik k) = none := by
  unfold look
  rw [List.find?_eq_none.mpr]
  · rfl
  · intro p hp
    unfold kvD at hp
    obtain ⟨e, he, rfl⟩ := List.mem_map.mp hp
    simp only [decide_eq_true_eq]
    exact fun z => h (by rw [← ik_inj z]; exact List.mem_map_of_mem he)
theorem put_kvD {es : List Ent} {k : List Int} {r : Rat} (h : k ∉ es.map (·.1)) : putE (kvD C es) (ik k) (Ra C (fr r)) = kvD C (es ++ [(k, r)]) := by
  rw [putE_new]
  · unfold kvD; rw [List.map_append]; rfl
  · rw [kvD_keys]
    intro z
    obtain ⟨x, hx, e⟩ := List.mem_map.mp z
    exact h (by rw [← ik_inj e]; exact hx)
end
/-! the weight of a key -/
def pK : List Int → Nat
  | [] => 1
  | c :: k => fac c.toNat * pK k
def divE (e : Ent) : Ent := (e.1, e.2 / (pK e.1 : Rat))
def mulE (e : Ent) : Ent := (e.1, e.2 * (pK e.1 : Rat))
theorem GE.keyed {m n b c : Nat} {es : List Ent} (h : GE m n b es) (g : Ent → Ent) (hg : ∀ e, (g e).1 = e.1) (hp : ∀ e ∈ es, 0 < (g e).2) (hb : ∀ e ∈ es, Bq c (g e).2) : GE m n c (es.map g) := by
  refine ⟨fun e he => ?_, fun e he => ?_, fun e he => ?_, fun e he => ?_, fun e he => ?_, ?_, by rw [List.length_map]; exact h.ln⟩
  · obtain ⟨x, hx, rfl⟩ := List.mem_map.mp he; rw [hg]; exact h.len x hx
  · obtain ⟨x, hx, rfl⟩ := List.mem_map.mp he; rw [hg]; exact h.nn x hx
  · obtain ⟨x, hx, rfl⟩ := List.mem_map.mp he; rw [hg]; exact h.sum x hx
  · obtain ⟨x, hx, rfl⟩ := List.mem_map.mp he; exact hp x hx
  · obtain ⟨x, hx, rfl⟩ := List.mem_map.mp he; exact hb x hx
  · rw [List.map_map]
    have : ((·.1) ∘ g : Ent → List Int) = (·.1) := funext hg
    rw [this]
    exact h.nd
end K15

set_option Elab.async false
set_option linter.all false
set_option maxRecDepth 100000
set_option maxHeartbeats 2000000
/-! for x, y in zip(a, b) -/
namespace DL
open PySem L2 PyProof.Rows
section
variable {X : Cx} {B : Hp} {W0 : Wd} {S : En} {pos p p1 : Pos} {e e2 : Expr} {E : Ends'}
theorem sd_forZ {elts : List Expr} {kk : Nat} {tpos : Pos} {body : List Stmt} {l l' : List D} (hp : PassesOwn (model X.prog X.w) X.A X.env X.xe) (hc : X.calm = true) (hm : X.mg "zip" = none) (hll : l.length = l'.length) (Inv : Nat → En → Prop)
    (h : AD X B S [e, e2] fun as => ∃ d d', as = [.val d, .val d'] ∧ SeqD d l ∧ SeqD d' l' ∧ Inv 0 S)
    (hs : ∀ (i : Nat) d d' S', l[i]? = some d → l'[i]? = some d' → Inv i S' → GD X B W0 S' (.Tuple elts kk tpos) (.tup [d, d']) fun S2 => SDs X B W0 S2 body { nx := Inv (i + 1), rt := E.rt, bk := E.nx, ct := Inv (i + 1) })
    (hd : ∀ S', Inv l.length S' → E.nx S') (hg : Gl X "zip" := by rfl) (hst : starEach [e, e2] X.env = (false, eval e X.env) :: starEach [e2] X.env := by rfl) (hpl : (backTo p1 (starEach [e2] X.env)).any (·.1) = false := by rfl)
    (hf : ∀ x, foldedSetIterable (.Call (.Name "zip" p) [e, e2] [] p1) X.env x = pure x := by intro _; rfl) :
    SD X B W0 S (.For (.Tuple elts kk tpos) (.Call (.Name "zip" p) [e, e2] [] p1) body [] pos) E := fun σ W H r z D' k => by
  refine PS.w (ps_for hp hc (pi_zm hg hm wa_pa hst hpl) wg_pg wss_pss hf) ?_
  refine h σ W H r _ fun as vs W1 H1 s1 ok1 n1 q1 => ?_
  obtain ⟨d, d', rfl, sd, sd', i0⟩ := q1
  obtain ⟨v, v', rfl, m, m'⟩ := two_args n1
  obtain ⟨t, a, xs, rfl, w, hx⟩ := sd.at m
  obtain ⟨u, b, ys, rfl, w', hy⟩ := sd'.at m'
  have lxy : xs.length = ys.length := by rw [← w.length, ← w'.length, hll]
  refine ⟨t, u, a, b, xs, ys, rfl, hx _ ok1.ex, hy _ ok1.ex, fun i n σ' H' => n = xs.length - i ∧ i ≤ xs.length ∧ ∃ S' W', Rep X.K (gOf X) B S' σ' W' H' ∧ Stp W0 B W' H' ∧ Ex W1.I W'.I ∧ Inv i S', ⟨_, rfl, Nat.zero_le _, S, W1, r.step s1 ok1, z.trans r.ok s1, Ex.refl _, i0⟩, ?_⟩
  rintro i n σ' H' ⟨rfl, lx, S', W', r', z', e', i'⟩
  have qx := hx H' fun c o y => r'.ok.ex _ _ (e' _ _ y)
  have qy := hy H' fun c o y => r'.ok.ex _ _ (e' _ _ y)
  by_cases c : i < xs.length
  · have ex : xs[i]? = some xs[i] := List.getElem?_eq_getElem c
    have ey : ys[i]? = some (ys[i]'(lxy ▸ c)) := List.getElem?_eq_getElem (lxy ▸ c)
    refine .inr ⟨⟨xs, ys, _, _, qx, qy, ex, ey⟩, fun σ2 H2 => ∃ S2 W2, Rep X.K (gOf X) B S2 σ2 W2 H2 ∧ Stp W0 B W2 H2 ∧ Ex W1.I W2.I ∧ Inv (i + 1) S2, fun σ2 H2 y => ⟨xs.length - (i + 1), by omega, rfl, c, y⟩, ?_⟩
    rintro x H2 ⟨T, x1, y1, rfl, hT, rfl, f1, f2⟩
    have e1 := f1 xs qx
    have e2 := f2 ys qy
    obtain ⟨d1, hd1, nd1⟩ := w.get e1
    obtain ⟨d2, hd2, nd2⟩ := w'.get e2
    have st := Stp.new (o := .tup [x1, y1]) r'.ok hT
    have ok2 := r'.ok.new (o := .tup [x1, y1]) hT
    refine hs i d1 d2 S' hd1 hd2 i' σ' _ _ _ (r'.step st ok2) (z'.trans r'.ok st) (.tup (show upd W'.I T _ T = _ from upd_same) (.cons ((nd1.mono e').mono st.I) (.cons ((nd2.mono e').mono st.I) .nil))) _ fun S3 σ3 W3 H3 r3 z3 e3 q3 => ?_
    have e4 := (e'.trans st.I).trans e3
    exact q3 σ3 W3 H3 r3 z3 _ ⟨fun S5 σ5 W5 H5 r5 z5 e5 q5 => ⟨S5, W5, r5, z5, e4.trans e5, q5⟩, fun d5 v5 W5 H5 r5 z5 e5 n5 q5 => k.rt d5 v5 W5 H5 r5 z5 ((s1.I.trans e4).trans e5) n5 q5,
      fun S5 σ5 W5 H5 r5 z5 e5 q5 => k.nx S5 σ5 W5 H5 r5 z5 ((s1.I.trans e4).trans e5) q5, fun S5 σ5 W5 H5 r5 z5 e5 q5 => ⟨S5, W5, r5, z5, e4.trans e5, q5⟩⟩
  · refine .inl ⟨⟨xs, ys, qx, qy, by omega⟩, ?_⟩
    have : i = l.length := by rw [w.length]; omega
    rw [this] at i'
    exact k.nx S' σ' W' H' r' z' (s1.I.trans e') (hd S' i')
end
end DL

set_option Elab.async false
set_option linter.all false
set_option maxRecDepth 100000
set_option maxHeartbeats 4000000
/-! k15: the checks -/
namespace K15
open PySem L2 DL
section
variable {P : Program} {w : World} {K : PySem.W.Frag} {mg : Str → Option Value} {base : Heap} {C : Addr}
theorem un1 {k : Nat} {A : Around} (r : Room k A) : A.units + 1 < cLine := by have := r.units; omega
theorem all_true (n : Nat) : (List.replicate n true).all id = true := by induction n with
  | zero => rfl
  | succ n ih => rw [List.replicate_succ, List.all_cons, ih]; rfl
theorem trues : ∀ {out : List D}, (∀ y ∈ out, y = .bl true) → out = (List.replicate out.length true).map D.bl
  | [], _ => rfl
  | y :: out, h => by
    rw [List.length_cons, List.replicate_succ, List.map_cons, ← trues fun y hy => h y (List.mem_cons_of_mem _ hy), h y (List.mem_cons_self ..)]
theorem cd_allT {X : Cx} {Q : D → Prop} {out : List D} (hc : X.calm = true) (h : ∀ y ∈ out, y = .bl true) (q : Q (.bl true)) : CD X (.builtin "all") [.val (.lst out)] Q := by
  rw [trues h]
  exact cd_all hc (by rw [all_true]; exact q)
theorem paired_true : ∀ {α : Type} {l : List α} {out : List D}, Paired (fun _ y => y = D.bl true) l out → ∀ y ∈ out, y = .bl true
  | _, _, _, .nil, y, h => by cases h
  | _, _, _, .cons a b, y, h => by
    rcases List.mem_cons.mp h with rfl | h
    · exact a
    · exact paired_true b y h
abbrev spCounts : SpD := fun as Q => ∃ d, ∃ k : List Int, ∃ m : Nat, as = [.val d, .val (.int (m : Int))] ∧ SeqD d (k.map D.int) ∧ k.length = m ∧ m ≤ 100 ∧ (∀ c ∈ k, (0 : Int) ≤ c) ∧ Q (.bl true)
theorem sc_counts : FnScope ["value", "many", "count"] ["value", "many"] (defScope (top 6)) := ⟨rfl, rfl, rfl, by decide +kernel, rfl, by decide +kernel, by decide +kernel⟩
theorem ok_counts {f : Addr} {fd : FuncData} (F : FunS K "is_counts" "is_counts" (top 6) f fd) (T : Txt K mg C) (L : Df P w K mg base "is_list" 1 1 spL) (G : Df P w K mg base "is_count" 2 1 (spB C isC)) : GnOk P w K mg base 3 f fd ["value", "many"] (lift K spCounts) := by
  refine gn_dl F sc_counts (fun as Q h => by obtain ⟨_, _, _, rfl, _⟩ := h; rfl) (fun cdv A outer s H hr hG W as Q h => ?_)
  obtain ⟨d, k, m, rfl, sd, hl, hm, nn, q⟩ := h
  have nd := sc_counts.nd
  refine sds_cons (sd_ret (ed_and (ed_call L (hr.mono (j := 1) (by decide)) hG (ad_cons (nm 0 (ad_nil ⟨d, _, rfl, sd, kB ?_⟩))))))
  show ED _ _ _ _ _
  refine ed_and (ed_cmp (ed_callB T.len (ad_cons (nm 0 (ad_nil (cd_len sd (nm 1 (od_eqi (kB ?_)))))))))
  rw [decide_eq_true (by rw [List.length_map, hl])]
  show ED _ _ _ _ _
  refine ed_one (ed_callB T.all (ad_cons (ed_fd (fd_relS (fun _ y => y = .bl true) 2 (own := [("count", 2)]) rfl nd (blkOk_by (by show blkC ["value", "many", "count"] (defScope (top 6)) _ _ = true; decide +kernel)) (fun _ _ _ _ _ => pg_name (i := 2) nd rfl (Or.inl rfl)) sd (by rw [List.length_map]; omega) (nm 0 rfl) (by simp) ?_ ?_))))
  · intro d hd s2 H0 C2 cl fp
    obtain ⟨c, hc, rfl⟩ := List.mem_map.mp hd
    exact ed_call G (hr.mono (j := 2) (by decide)) hG (ad_cons (nm 2 (ad_nil ⟨_, rfl, .int c, by show D.bl (decide (0 ≤ c)) = _; rw [decide_eq_true (nn c hc)]⟩)))
  · intro out ho
    exact ad_nil (cd_allT rfl (paired_true ho) q)
/-! a number above nought -/
theorem num_pos {r : Rat} (h : 0 < r) : 0 < (fr r).1 := by
  have h1 : 0 ≤ r.num := Rat.num_nonneg.mpr (Rat.le_of_lt h)
  have h2 : r.num ≠ 0 := fun z => by rw [Rat.num_eq_zero.mp z] at h; exact absurd h (by decide)
  show 0 < r.num
  omega
theorem sg_pos {r : Rat} (h : 0 < r) : sgF (fr r) = 1 := by unfold sgF; rw [if_pos (num_pos h)]
theorem pS {X : Cx} {B : Hp} {S : En} {pos : Pos} {Q : D → Prop} {o : Expr} {p : Fr} (T : Txt X.K X.mg C) (G : Pr X.prog X.w X.K X.mg X.base C "sign" 1 (sp1 C fun p => .int (sgF p))) (hr : Room 2 X.A) (hG : X.A.guards = some (gOf X)) (h : ED X B S o fun x => x = Ra C p ∧ Q (.int (sgF p))) (hb : attributeBase o "sign" X.env (eval o X.env) = eval o X.env := by rfl) : ED X B S (.Attribute o "sign" pos) Q :=
  ed_prop T.nu.cl G hr hG (fun σ W H r R c => h σ W H r R fun d v W' H' s ok n ⟨e, q⟩ => c d v W' H' s ok n ⟨rf p, e, p, by rw [e], q⟩) hb
abbrev spAbove (C : Addr) : SpD := fun as Q => ∃ d r, as = [.val d] ∧ Nq C 1000 d r ∧ 0 < r ∧ Q (.bl true)
theorem sc_above : FnScope ["value"] ["value"] (defScope (top 26)) := ⟨rfl, rfl, rfl, by decide +kernel, rfl, by decide +kernel, by decide +kernel⟩
theorem ok_above {f : Addr} {fd : FuncData} (F : FunS K "is_above" "is_above" (top 26) f fd) (T : Txt K mg C) (G : Df P w K mg base "is_number" 2 1 (spB C isN)) (R : Df P w K mg base "ratio_of" 4 1 (spRat C)) (SG : Pr P w K mg base C "sign" 1 (sp1 C fun p => .int (sgF p))) : GnOk P w K mg base 5 f fd ["value"] (lift K (spAbove C)) := by
  refine gn_dl F sc_above (fun as Q h => by obtain ⟨_, _, rfl, _⟩ := h; rfl) (fun cdv A outer s H hr hG W as Q h => ?_)
  obtain ⟨d, r, rfl, hd, h0, q⟩ := h
  refine sds_cons (sd_ret (ed_and (ed_call G (hr.mono (j := 2) (by decide)) hG (ad_cons (nm 0 (ad_nil ⟨d, rfl, hd.kn, kB ?_⟩))))))
  rw [hd.num]
  show ED _ _ _ _ _
  refine ed_one (ed_cmp (pS T SG (hr.mono (j := 2) (by decide)) hG (ed_call R (hr.mono (j := 4) (by decide)) hG (ad_cons (nm 0 (ad_nil ⟨d, _, rfl, (hd.mono (by decide)).nr, rfl, ed_int (od_gt ?_)⟩))))))
  rw [sg_pos h0]
  exact q
/-! letters -/
structure LetZ (z : List Nat) : Prop where
  l1 : 1 ≤ z.length
  l8 : z.length ≤ 8
  lo : ∀ c ∈ z, 97 ≤ c ∧ c ≤ 122
  up : z.Pairwise (· < ·)
theorem LetZ.asc {z : List Nat} (h : LetZ z) : (SX.S z).cps.all (· < 128) = true := by
  rw [Array.all_eq_true_iff_forall_mem]
  intro c hc
  have := h.lo c (by simpa using hc)
  simp only [decide_eq_true_eq]
  omega
theorem lt1 {c d : Nat} : ((SX.S [c]).cps.toList < (SX.S [d]).cps.toList) ↔ c < d := by
  show [c] < [d] ↔ _
  rw [List.cons_lt_cons_iff]
  constructor
  · rintro (h | ⟨_, h⟩)
    · exact h
    · exact absurd h (List.lt_irrefl _)
  · exact .inl
abbrev spSmall : SpD := fun as Q => ∃ c : Nat, as = [.val (.str (sg c))] ∧ 97 ≤ c ∧ c ≤ 122 ∧ Q (.bl true)
theorem sc_small : FnScope ["value"] ["value"] (defScope (top 7)) := ⟨rfl, rfl, rfl, by decide +kernel, rfl, by decide +kernel, by decide +kernel⟩
theorem ok_small {f : Addr} {fd : FuncData} (F : FunS K "is_small_letter" "is_small_letter" (top 7) f fd) (T : Txt K mg C) : GnOk P w K mg base 1 f fd ["value"] (lift K spSmall) := by
  refine gn_dl F sc_small (fun as Q h => by obtain ⟨_, rfl, _⟩ := h; rfl) (fun cdv A outer s H hr hG W as Q h => ?_)
  obtain ⟨c, rfl, h1, h2, q⟩ := h
  refine sds_cons (sd_ret (ed_and (ed_callB T.isi (ad_cons (nm 0 (ad_cons (ed_ty T.str (ad_nil (cd_isi (.str _) (.ty _) (same (by decide +kernel)) (kB ?_))))))))))
  show ED _ _ _ _ _
  refine ed_and (ed_cmp (ed_callB T.len (ad_cons (nm 0 (ad_nil (cd_lenS (z := sg c) (by show 1 ≤ 50000; decide) (ed_int (od_eqi (kB ?_)))))))))
  show ED _ _ _ _ _
  refine ed_one (ed_chain (ed_str (nm 0 (od_leS (kB ?_)))))
  rw [decide_eq_false (fun z => by have := (lt1 (c := c) (d := 97)).mp z; omega)]
  show ED _ _ _ _ _
  refine ed_str (od_leS ?_)
  rw [decide_eq_false (fun z => by have := (lt1 (c := 122) (d := c)).mp z; omega)]
  exact q
abbrev spRising : SpD := fun as Q => ∃ z : List Nat, as = [.val (.str (SX.S z))] ∧ LetZ z ∧ Q (.bl true)
theorem sc_rising : FnScope ["parts", "one", "two"] ["parts"] (defScope (top 8)) := ⟨rfl, rfl, rfl, by decide +kernel, rfl, by decide +kernel, by decide +kernel⟩
theorem ok_rising {f : Addr} {fd : FuncData} (F : FunS K "is_rising" "is_rising" (top 8) f fd) (T : Txt K mg C) : GnOk P w K mg base 1 f fd ["parts"] (lift K spRising) := by
  refine gn_dl F sc_rising (fun as Q h => by obtain ⟨_, rfl, _⟩ := h; rfl) (fun cdv A outer s H hr hG W as Q h => ?_)
  obtain ⟨z, rfl, hz, q⟩ := h
  have nd := sc_rising.nd
  have a2 : (SX.S (z.drop 1)).cps.all (· < 128) = true := by
    rw [Array.all_eq_true_iff_forall_mem]
    intro c hc
    have := hz.lo c (List.mem_of_mem_drop (i := 1) (by rw [List.mem_toArray] at hc; exact hc))
    simp only [decide_eq_true_eq]
    omega
  refine sds_cons (sd_ret (ed_callB T.all (ad_cons (ed_fd (fd_relCC (s := SX.S z) (t := SX.S (z.drop 1)) (fun _ _ y => y = .bl true) 1 2 (own := [("one", 1), ("two", 2)]) rfl nd T.zip (blkOk_by (by show blkC ["parts", "one", "two"] (defScope (top 8)) _ _ = true; decide +kernel)) (fun _ _ _ _ _ => pg_tup rfl (pgs_cons (pg_name (i := 1) nd rfl (Or.inl rfl)) (pgs_cons (pg_name (i := 2) nd rfl (Or.inl rfl)) pgs_nil rfl) rfl)) hz.asc a2 (by have := hz.l8; simp; omega) ?_ (by simp) (by simp) ?_ ?_)))))
  · exact ad_cons (nm 0 (ad_cons (ed_slS (nm 0 (ed_int ⟨z, 1, rfl, rfl, by have := hz.l8; omega, ad_nil rfl⟩)))))
  · intro n c d hc hd s2 H0 C2 cl fp
    have e1 : z[n]? = some c := by simpa using hc
    have e2 : z[n + 1]? = some d := by
      have : (z.drop 1)[n]? = some d := by simpa using hd
      rw [List.getElem?_drop, Nat.add_comm] at this
      exact this
    have lt : c < d := by
      obtain ⟨h1, rfl⟩ := List.getElem?_eq_some_iff.mp e1
      obtain ⟨h2, rfl⟩ := List.getElem?_eq_some_iff.mp e2
      exact List.pairwise_iff_getElem.mp hz.up n (n + 1) h1 h2 (by omega)
    refine ed_cmp (nm 1 (nm 2 (od_ltS ?_)))
    rw [decide_eq_true (lt1.mpr lt)]
  · intro out hl ho
    refine ad_nil (cd_allT rfl (fun y hy => ?_) q)
    obtain ⟨n, hn, rfl⟩ := List.getElem_of_mem hy
    have l1 : n < (SX.S z).cps.size := by omega
    have l2 : n < (SX.S (z.drop 1)).cps.size := by omega
    exact ho n _ _ _ (Array.getElem?_eq_getElem l1) (Array.getElem?_eq_getElem l2) (List.getElem?_eq_getElem hn)
abbrev spLet : SpD := fun as Q => ∃ z : List Nat, as = [.val (.str (SX.S z))] ∧ LetZ z ∧ Q (.bl true)
theorem sc_let : FnScope ["value", "letter"] ["value"] (defScope (top 34)) := ⟨rfl, rfl, rfl, by decide +kernel, rfl, by decide +kernel, by decide +kernel⟩
theorem ok_let {f : Addr} {fd : FuncData} (F : FunS K "is_letters" "is_letters" (top 34) f fd) (T : Txt K mg C) {tk : Tok} (ml : mg "MOST_LETTERS" = some (.int 8 tk)) (RI : Df P w K mg base "is_rising" 1 1 spRising) (SM : Df P w K mg base "is_small_letter" 1 1 spSmall) : GnOk P w K mg base 2 f fd ["value"] (lift K spLet) := by
  refine gn_dl F sc_let (fun as Q h => by obtain ⟨_, rfl, _⟩ := h; rfl) (fun cdv A outer s H hr hG W as Q h => ?_)
  obtain ⟨z, rfl, hz, q⟩ := h
  have nd := sc_let.nd
  have hl : ((SX.S z).length : Int) = (z.length : Int) := by rw [SX.S_len]
  refine sds_cons (sd_if (td_of (tw_or (td_not (td_val (ed_callB T.isi (ad_cons (nm 0 (ad_cons (ed_ty T.str (ad_nil (cd_isi (.str _) (.ty _) (same (by decide +kernel)) (kB ?_)))))))))))))
  show TW _ _ _ _ _
  refine tw_or1 (td_not (td_chain (ed_int (ed_callB T.len (ad_cons (nm 0 (ad_nil (cd_lenS (z := SX.S z) (by rw [SX.S_len]; have := hz.l8; omega) (od_le (kB ?_))))))))))
  rw [hl, decide_eq_true (by have := hz.l1; omega)]
  show ED _ _ _ _ _
  refine ed_gint ml (od_le (kB ?_))
  rw [decide_eq_true (by have := hz.l8; omega)]
  show SDs _ _ _ _ _ _
  refine sds_nil (sds_cons (sd_ret (ed_and (ed_call RI (hr.mono (j := 1) (by decide)) hG (ad_cons (nm 0 (ad_nil ⟨z, rfl, hz, kB ?_⟩)))))))
  show ED _ _ _ _ _
  refine ed_one (ed_callB T.all (ad_cons (ed_fd (fd_relC (s := SX.S z) (fun _ y => y = .bl true) 1 (own := [("letter", 1)]) rfl nd (blkOk_by (by show blkC ["value", "letter"] (defScope (top 34)) _ _ = true; decide +kernel)) (fun _ _ _ _ _ => pg_name (i := 1) nd rfl (Or.inl rfl)) (by have := hz.l8; simp; omega) (nm 0 rfl) (by simp) ?_ ?_))))
  · intro i c hc s2 H0 C2 cl fp
    have hc' : z[i]? = some c := by simpa using hc
    have := hz.lo c (List.mem_of_getElem? hc')
    exact ed_call SM (hr.mono (j := 1) (by decide)) hG (ad_cons (nm 1 (ad_nil ⟨c, rfl, this.1, this.2, rfl⟩)))
  · intro out ho
    exact ad_nil (cd_allT rfl (paired_true ho) q)
/-! one entry -/
abbrev spEntry (C : Addr) : SpD := fun as Q => ∃ kd, ∃ k : List Int, ∃ ad r, ∃ m : Nat, ∃ dg, as = [.val (.tup [kd, ad]), .val (.int (m : Int)), .val dg] ∧ SeqD kd (k.map D.int) ∧ k.length = m ∧ m ≤ 100 ∧ (∀ c ∈ k, (0 : Int) ≤ c) ∧ k.sum ≤ 8 ∧ Nq C 1000 ad r ∧ 0 < r ∧ (dg = .non ∨ dg = .int k.sum) ∧ Q (.bl true)
theorem cd_sumS {X : Cx} {Q : D → Prop} {d : D} {l : List Int} (hc : X.calm = true) (sd : SeqD d (l.map D.int)) (q : Q (.int l.sum)) : CD X (.builtin "sum") [.val d] Q := by
  rcases sd with rfl | rfl
  · exact cd_sumL hc q
  · exact cd_sumT hc q
theorem sc_entry : FnScope ["entry", "many", "degree", "counts", "amount"] ["entry", "many", "degree"] (defScope (top 36)) := ⟨rfl, rfl, rfl, by decide +kernel, rfl, by decide +kernel, by decide +kernel⟩
theorem ok_entry {f : Addr} {fd : FuncData} (F : FunS K "_is_entry" "_is_entry" (top 36) f fd) (T : Txt K mg C) (hsum : mg "sum" = none) {tk : Tok} (md : mg "MOST_DEGREE" = some (.int 8 tk)) (CO : Df P w K mg base "is_counts" 3 2 spCounts) (AB : Df P w K mg base "is_above" 5 1 (spAbove C)) : GnOk P w K mg base 6 f fd ["entry", "many", "degree"] (lift K (spEntry C)) := by
  refine gn_dl F sc_entry (fun as Q h => by obtain ⟨_, _, _, _, _, _, rfl, _⟩ := h; rfl) (fun cdv A outer s H hr hG W as Q h => ?_)
  obtain ⟨kd, k, ad, r, m, dg, rfl, sd, hl, hm, nn, h8, na, h0, hdg, q⟩ := h
  have nd := sc_entry.nd
  refine sds_cons (sd_if (td_of (tw_or (td_not (td_val (ed_callB T.isi (ad_cons (nm 0 (ad_cons (ed_ty T.tuple (ad_nil (cd_isi (.tup _) (.ty _) (same (by decide +kernel)) (kB ?_)))))))))))))
  show TW _ _ _ _ _
  refine tw_or1 (td_cmp (ed_callB T.len (ad_cons (nm 0 (ad_nil (cd_len (.inr rfl) (ed_int (od_nei (kB ?_)))))))))
  show SDs _ _ _ _ _ _
  refine sds_nil (sds_cons (sd_asg (nm 0 (gd_tup rfl (gds_cons (gd_name 3 nd rfl (gds_cons (gd_name 4 nd rfl (gds_nil ?_))))) rfl))))
  refine sds_cons (sd_if (td_of (tw_or (td_not (td_val (ed_call CO (hr.mono (j := 3) (by decide)) hG (ad_cons (nm 3 (ad_cons (nm 1 (ad_nil ⟨kd, k, m, rfl, sd, hl, hm, nn, kB ?_⟩)))))))))))
  show TW _ _ _ _ _
  refine tw_or1 (td_cmp (ed_callB hsum (ad_cons (nm 3 (ad_nil (cd_sumS rfl sd (ed_gint md (od_gt (kB ?_)))))))))
  rw [decide_eq_false (by omega)]
  show SDs _ _ _ _ _ _
  refine sds_nil (sds_cons (sd_ret (ed_and (ed_call AB (hr.mono (j := 5) (by decide)) hG (ad_cons (nm 4 (ad_nil ⟨ad, r, rfl, na, h0, kB ?_⟩)))))))
  show ED _ _ _ _ _
  refine ed_one (ed_or (ed_cmp (nm 2 (ed_non (od_isN (kB ?_))))))
  rcases hdg with rfl | rfl
  · exact q
  · show ED _ _ _ _ _
    refine ed_one (ed_cmp (ed_callB hsum (ad_cons (nm 3 (ad_nil (cd_sumS rfl sd (nm 2 (od_eqi ?_))))))))
    rw [decide_eq_true rfl]
    exact q
end
end K15

set_option Elab.async false
set_option linter.all false
set_option maxRecDepth 100000
set_option maxHeartbeats 4000000
/-! k15: what is reckoned with entries -/
namespace K15
open PySem L2 DL
section
variable {P : Program} {w : World} {K : PySem.W.Frag} {mg : Str → Option Value} {base : Heap} {C CB : Addr}
/-- what stands under the blends -/
structure Lv (P : Program) (w : World) (K : PySem.W.Frag) (mg : Str → Option Value) (base : Heap) (C : Addr) : Prop where
  V : Rt P w K mg base C
  ratof : Df P w K mg base "ratio_of" 4 1 (spRat C)
  mul : Sm P w K mg base C "__mul__" 5 (spOp C fun p q => Ra C (mulF p q))
  rmul : Sm P w K mg base C "__rmul__" 6 (spOp C fun p q => Ra C (mulF q p))
  eq : Sm P w K mg base C "__eq__" 1 (spEq C)
  add : Sm P w K mg base C "__add__" 5 (spOp C fun p q => Ra C (addF p q))
  radd : Sm P w K mg base C "__radd__" 6 (spOp C fun p q => Ra C (addF q p))
  sign : Pr P w K mg base C "sign" 1 (sp1 C fun p => .int (sgF p))
  lm : ∃ r, PySem.W.findIn K (.type "int") "__rmul__" = some r
  la : ∃ r, PySem.W.findIn K (.type "int") "__radd__" = some r
section
variable {X : Cx} {Q : D → Prop} {y : D} {r s : Rat}
theorem od_mulR (L : Lv X.prog X.w X.K X.mg X.base C) (hr : Room 6 X.A) (hG : X.A.guards = some (gOf X)) (hx : Bq 3000 r) (hy : Nq C 3000 y s) (k : Q (Ra C (fr (r * s)))) : OD X (binaryOp .Mult) (Ra C (fr r)) y Q := by
  have r5 := hr.mono (j := 5) (by decide)
  rw [← mulF_fr] at k
  cases hy with
  | rat s h => exact od_oo (op := .Mult) L.V.T.nu L.mul r5 hG ⟨_, _, _, rfl, hx, .rat _ h, k⟩
  | int i h => exact od_oi (op := .Mult) L.V.T.nu L.mul L.rmul r5 hG ⟨_, _, _, rfl, hx, .int i h.t h.b, k⟩ PySem.F.fills_int_mul L.lm
theorem od_addQ (L : Lv X.prog X.w X.K X.mg X.base C) (hr : Room 6 X.A) (hG : X.A.guards = some (gOf X)) (hx : Bq 3000 r) (hy : Nq C 3000 y s) (k : Q (Ra C (fr (r + s)))) : OD X (binaryOp .Add) (Ra C (fr r)) y Q := by
  have r5 := hr.mono (j := 5) (by decide)
  rw [← addF_fr] at k
  cases hy with
  | rat s h => exact od_oo (op := .Add) L.V.T.nu L.add r5 hG ⟨_, _, _, rfl, hx, .rat _ h, k⟩
  | int i h => exact od_oi (op := .Add) L.V.T.nu L.add L.radd r5 hG ⟨_, _, _, rfl, hx, .int i h.t h.b, k⟩ PySem.F.fills_int_add L.la
/-- two fractions that are the same -/
theorem eqR_Ra (L : Lv X.prog X.w X.K X.mg X.base C) (r : Rat) : EqR X 1 (Ra C (fr r)) (Ra C (fr r)) :=
  (rcR_ins L.V.T.nu L.eq ⟨_, _, rfl, .inl ⟨_, rfl, by rw [decide_eq_true rfl, decide_eq_true rfl]; rfl⟩⟩).eq rfl rfl
theorem eqR_tI (k : List Int) : EqR X 1 (tI k) (tI k) := (rcR_tup rfl fun i d e h1 h2 => by
  rw [h1] at h2
  cases h2
  obtain ⟨c, _, rfl⟩ := List.mem_map.mp (List.mem_of_getElem? h1)
  exact eqR_int).eq rfl rfl
end
structure Tb (K : PySem.W.Frag) (mg : Str → Option Value) (C CB : Addr) : Prop where
  T : Txt K mg C
  nu : Num K CB
  is : Isi K CB
  nL : NoAttr K CB "_letters"
  nD : NoAttr K CB "_degree"
  nA : NoAttr K CB "_amounts"
  ne : PySem.W.findIn K (.ref CB) "__ne__" = some (some (.builtin "object.__ne__"))
  mB : mg "Blend" = some (.ref CB)
  enum : mg "enumerate" = none
  sorted : mg "sorted" = none
  sum : mg "sum" = none
  min : mg "min" = none
  dict : mg "dict" = none
  ml : ∃ tk, mg "MOST_LETTERS" = some (.int 8 tk)
  md : ∃ tk, mg "MOST_DEGREE" = some (.int 8 tk)
  me : ∃ tk, mg "MOST_ENTRIES" = some (.int 300 tk)
/-! gathered -/
abbrev spGath (C : Addr) : SpD := fun as Q => ∃ es : List Ent, as = [Sl.val (.lst (enD C es))] ∧ (es.map (·.1)).Nodup ∧ es.length ≤ 40000 ∧ Q (.lst (enD C es))
theorem enD_len {es : List Ent} : (enD C es).length = es.length := by unfold enD; rw [List.length_map]
theorem enD_app {a b : List Ent} : enD C (a ++ b) = enD C a ++ enD C b := by unfold enD; rw [List.map_append]
theorem enD_get {es : List Ent} {i : Nat} {d : D} (h : (enD C es)[i]? = some d) : ∃ e, es[i]? = some e ∧ d = .tup [tI e.1, Ra C (fr e.2)] := by
  unfold enD at h
  rw [List.getElem?_map] at h
  cases e : es[i]? with
  | none => rw [e] at h; cases h
  | some x => rw [e] at h; cases h; exact ⟨x, rfl, rfl⟩
theorem enD_snoc {es : List Ent} {i : Nat} {e : Ent} (h : es[i]? = some e) : enD C (es.take (i + 1)) = enD C (es.take i) ++ [.tup [tI e.1, Ra C (fr e.2)]] := by
  rw [List.take_add_one, h]
  unfold enD
  rw [List.map_append]
  rfl
theorem fresh {es : List Ent} {i : Nat} {e : Ent} (nd : (es.map (·.1)).Nodup) (h : es[i]? = some e) : e.1 ∉ (es.take i).map (·.1) := by
  intro z
  have s : es.take (i + 1) = es.take i ++ [e] := by rw [List.take_add_one, h]; rfl
  have n2 : ((es.take (i + 1)).map (·.1)).Nodup := nd.sublist ((List.take_sublist _ _).map _)
  rw [s, List.map_append, List.nodup_append] at n2
  exact n2.2.2 _ z _ (by simp) rfl
theorem sc_gath : FnScope ["pairs", "amounts", "counts", "amount"] ["pairs"] (defScope (top 35)) := ⟨rfl, rfl, rfl, by decide +kernel, rfl, by decide +kernel, by decide +kernel⟩
/-! all products -/
def plus (a b : List Int) : List Int := List.zipWith (· + ·) a b
def prods (es fs : List Ent) : List Ent := es.flatMap fun e => fs.map fun f => (plus e.1 f.1, e.2 * f.2)
abbrev spProds (C : Addr) : SpD := fun as Q => ∃ es fs : List Ent, ∃ m : Nat, as = [.val (.lst (enD C es)), .val (.lst (enD C fs))] ∧ (∀ e ∈ es, e.1.length = m) ∧ (∀ e ∈ fs, e.1.length = m) ∧ m ≤ 100 ∧ (∀ e ∈ es, Bq 1000 e.2) ∧ (∀ e ∈ fs, Bq 1000 e.2) ∧ es.length ≤ 60 ∧ fs.length ≤ 60 ∧ Q (.lst (enD C (prods es fs)))
abbrev NPr : List Str := ["entries", "others", "pairs", "counts", "amount", "more", "factor", "both", "one", "two"]
end
end K15

set_option Elab.async false
set_option linter.all false
set_option maxRecDepth 100000
set_option maxHeartbeats 2000000
/-! the empty tuple that a def has as a default: known by its address -/
namespace DL
open PySem L2 PyProof.Rows
def EmpT (K : PySem.W.Frag) (a : Addr) : Prop := ∃ (o : Obj) (n : Nat), K.lookup a = some o ∧ o.cls = .type "tuple" ∧ o.data = .seq #[] n
theorem EmpT.sq {K : PySem.W.Frag} {a : Addr} (h : EmpT K a) (H : Hp) : SqT K H a [] := by
  obtain ⟨o, n, e, c, d⟩ := h
  exact .inr ⟨o, #[], n, e, c, d, by decide, .nil⟩
section
variable {X : Cx} {B : Hp} {W0 : Wd} {S : En} {pos p p1 : Pos} {Q : D → Prop} {e : Expr} {E : Ends'}
theorem cd_isiK {a : Addr} {c c' : D} {u u' : Value} {k : Bool} (em : EmpT X.K a) (hc : ClD c u) (hc' : ClD c' u') (hk : PySem.W.kitAny X.K (.type "tuple") [u, u'] = some k) (q : Q (.bl k)) : CD X (.builtin "isinstance") [.val (.cls a), .val (.tup [c, c'])] Q := cd_of call_isiT fun vs W H ok ha R cc => by
  obtain ⟨v, w, rfl, h, h'⟩ := two_args ha
  obtain ⟨o, n, e, ec, ed⟩ := em
  cases h
  cases h' with
  | tup hp m =>
    cases m with
    | cons h1 m => cases m with
      | cons h2 m =>
        cases m
        exact ⟨_, _, _, .type "tuple", [u, u'], k, rfl, ok.ex _ _ hp, .cons (hc.v h1) (.cons (hc'.v h2) .nil), .kTuple e ec, hk, cc.now ok (.bl k) q⟩
theorem sd_forEnK {a : Addr} {elts : List Expr} {kk : Nat} {tpos : Pos} {body : List Stmt} (em : EmpT X.K a) (hp : PassesOwn (model X.prog X.w) X.A X.env X.xe) (hc : X.calm = true) (hm : X.mg "enumerate" = none) (h : AD X B S [e] fun as => as = [.val (.cls a)] ∧ E.nx S) (hg : Gl X "enumerate" := by rfl) (hs : starEach [e] X.env = [(false, eval e X.env)] := by rfl)
    (hf : ∀ x, foldedSetIterable (.Call (.Name "enumerate" p) [e] [] p1) X.env x = pure x := by intro _; rfl) : SD X B W0 S (.For (.Tuple elts kk tpos) (.Call (.Name "enumerate" p) [e] [] p1) body [] pos) E := fun σ W H r z D' k => by
  refine PS.w (ps_for hp hc (pi_en hg hm wa_pa hs) wg_pg wss_pss hf) ?_
  refine h σ W H r _ fun as vs W1 H1 s1 ok1 n1 q1 => ?_
  obtain ⟨rfl, q⟩ := q1
  obtain ⟨v, rfl, m⟩ := one_arg n1
  cases m
  refine ⟨a, rfl, em.sq H1, fun i m σ' H' => i = 0 ∧ σ' = σ ∧ H' = H1, ⟨0, rfl, rfl, rfl⟩, ?_⟩
  rintro i m σ' H' ⟨rfl, rfl, rfl⟩
  exact .inl ⟨⟨rfl, em.sq H'⟩, k.nx S σ' W1 H' (r.step s1 ok1) (z.trans r.ok s1) s1.I q⟩
end
end DL

set_option Elab.async false
set_option linter.all false
set_option maxRecDepth 100000
set_option maxHeartbeats 2000000
/-! name = [elt for x in a text]; texts that are the same -/
namespace DL
open PySem L2 PyProof.Rows
section
variable {X : Cx} {B : Hp} {S : En} {elt iter : Expr}
theorem lc_C {s : Str} {scope : Scope} {own : List (Str × Nat)} {Q : List D → Prop} (G : Nat → D → Prop) (j : Nat) (hl : s.cps.size ≤ 50000) (hit : ED X B S iter fun d => d = .str s) (hj : j ∈ own.map (·.2))
    (he : ∀ (i c : Nat), s.cps[i]? = some c → AllBlk X scope fun Y => ED Y B (itE S own j (.str (sg c))) elt (G c)) (hd : ∀ out, Paired G s.cps.toList out → Q out) : LC X B S (tLc (iStr (WE X iter)) (gName j) tYes (WEb X scope elt) (own.map (·.2))) Q := fun σ W H r R k => by
  refine hit σ W H r _ fun d v W1 H1 s1 ok1 n1 q1 => ?_
  subst q1
  cases n1
  refine ⟨s, rfl, fun p hp0 => ?_⟩
  have r1 := r.step s1 ok1
  refine lc_it (walk_str (z := s)) (fun i H' => ∃ acc W', Mid X.K (gOf X) W1 H1 p acc W' H' ∧ acc.length = i ∧ Paired G (s.cps.toList.take i) acc) ⟨[], W1, ⟨Stp.own hp0, ok1.own hp0, ok1.notP hp0, ok1.free hp0, [], upd_same, .nil⟩, rfl, .nil⟩ (fun _ _ _ _ => trivial) ?_ ?_
  · rintro i y H' H2 hi ⟨acc, W', mm, hl2, pr⟩ ⟨rfl, c, hc', rfl⟩
    have r2 := r1.step mm.st mm.ok
    refine pat_name j hj (gOf X) B σ W' H2 (.str (sg c)) r2 (.str (sg c)) _ fun σ2 e2 r3 => ⟨e2, ?_⟩
    show WEb X scope elt σ2 H2 _
    intro s' H0 C cl fp
    refine he i c hc' s' H0 C cl fp σ2 W' H2 r3 _ fun y W3v W3 H3 s3 ok3 n3 q3 => ?_
    obtain ⟨xs', e1, e3, m3⟩ := (mm.step s3 ok3).more hp0 n3 (by omega)
    refine ⟨xs', e1, e3, _, W3, m3, by simp [hl2], ?_⟩
    rw [List.take_add_one, Array.getElem?_toList, hc']
    exact Paired.snoc q3 pr
  · rintro H' ⟨acc, W', mm, hl2, pr⟩
    obtain ⟨ys, hH, ds⟩ := mm.h
    rw [List.take_of_length_le (by rw [Array.length_toList]; exact Nat.le_refl _)] at pr
    exact k acc p ys W' H' (s1.trans ok1 mm.st) mm.ok (s1.free ok1 hp0) mm.n mm.i hH ds (hd acc pr)
theorem eqR_str {s : Str} : EqR X 0 (.str s) (.str s) := fun A pins t τ W H v u v' u' sb hG J ok dx dy rv ru => by
  cases dx
  cases dy
  have q := eqAt_V (A := A) (s := t) rv ru rfl rfl
  have e : eqV (.str s) (.str s) = true := by simp [eqV]
  rw [e] at q
  exact q X.prog X.w X.xe _ ⟨rfl, W, H, J, Stp.refl, ok⟩
end
end DL

set_option Elab.async false
set_option linter.all false
set_option maxRecDepth 100000
set_option maxHeartbeats 2000000
/-! [..] * n of one's own; a loop over a range that is not empty -/
namespace DL
open PySem L2 PyProof.Rows
section
variable {X : Cx} {B : Hp} {W0 : Wd} {S : En} {pos : Pos} {a b : Expr}
theorem fd_repL {Q : List D → Prop} (h : ED X B S a fun x => ED X B S b fun y => ∃ l, ∃ k : Nat, x = .lst l ∧ y = .int (k : Int) ∧ l.length * k ≤ 100000 ∧ k ≤ 100000 ∧ Q (List.replicate k l).flatten) : FD X B S (.BinOp a .Mult b pos) Q := fun σ W H r R c => by
  refine PE.w (pe_op op_rep we_pe we_pe) ?_
  refine h σ W H r _ fun d v W1 H1 s1 ok1 n1 q1 => ?_
  refine q1 σ W1 H1 (r.step s1 ok1) _ fun d2 u W2 H2 s2 ok2 n2 q2 => ?_
  obtain ⟨l, k, rfl, rfl, hl, hk, q2⟩ := q2
  cases n2
  cases n1.mono s2.I with
  | @lst _ a xs ha m =>
    refine ⟨_, (k : Int), _, rfl, rfl, ok2.ex _ _ ha, by omega, by omega, Nat.le_trans (by rw [← m.length, Int.toNat_natCast]; exact hl) (by decide), fun p hp => ?_⟩
    rw [Int.toNat_natCast]
    have s12 := s1.trans ok1 s2
    exact c _ p _ W2 _ (s12.trans ok2 (Stp.own hp)) (ok2.own hp) (s12.free ok2 hp) (ok2.notP hp) (ok2.free hp) upd_same (m.rep k) q2
end
section
variable {X : Cx} {B : Hp} {W0 : Wd} {S : En} {pos : Pos}
end
end DL

set_option Elab.async false
set_option linter.all false
set_option maxRecDepth 100000
set_option maxHeartbeats 2000000
/-! d.get(k, x) of a dict that is data -/
namespace DL
open PySem L2 PyProof.Rows
section
variable {X : Cx} {B : Hp} {S : En} {Q : D → Prop} {o e f : Expr} {apos cpos : Pos}
end
end DL

set_option Elab.async false
set_option linter.all false
set_option maxRecDepth 100000
set_option maxHeartbeats 2000000
/-! sorted of a list or a tuple of data, by itself -/
namespace SRT
open PySem PySem.W PySem.Calls PyProof.Rows
section
variable {prog : Program} {w : World} {A : Around} {E : Value → Shared → Prop} {s : Shared}
end
end SRT
namespace DL
open PySem PySem.Spec PySem.W PyProof.Rows L2
section
variable {X : Cx} {α : Type} {f : α → D} {enc : α → PyData} {bs : List α} {Q : D → Prop}
end
end DL

set_option Elab.async false
set_option linter.all false
set_option maxRecDepth 100000
set_option maxHeartbeats 2000000
/-! sorted(.., key=f), f a def of the text -/
namespace SRT
open PySem PySem.W PySem.Calls PyProof.Rows
section
variable {prog : Program} {w : World} {A : Around} {E : Value → Shared → Prop} {s : Shared} {a kS : Addr} {vs : List Value} {keys : Array Value} {e e1 : Nat} {P : PySem.Fin → Shared → Prop}
/-- the heap behind the sort: the keys' list emptied, the items put back -/
def endHeap (h : Heap) (kS a : Addr) (out : List Value) : Heap := (h.update kS (Obj.mapSeq fun _ => (#[] : Array Value))).update a (Obj.mapSeq fun _ => out.toArray)
end
end SRT
namespace DL
open PySem PySem.Spec PySem.W PyProof.Rows L2
section
variable {X : Cx} {α : Type} {f kD : α → D} {enc : α → PyData} {bs : List α} {Q : D → Prop} {B : Hp} {S : En}
theorem ed_imp {Q Q' : D → Prop} {e : Expr} (h : ED X B S e Q) (k : ∀ d, Q d → Q' d) : ED X B S e Q' := fun σ W H r R c => h σ W H r R fun d v W' H' st ok n q => c d v W' H' st ok n (k d q)
end
end DL

set_option Elab.async false
set_option linter.all false
set_option maxRecDepth 100000
set_option maxHeartbeats 2000000
/-! tuples and lists of ints: added, cut, looked into; comprehensions with a test, of two fors; enumerate of a tuple -/
namespace DL
open PySem PySem.Spec PyProof.Rows L2
section
variable {X : Cx} {B : Hp} {W0 : Wd} {S : En} {pos px p1 p p2 : Pos} {Q : D → Prop} {a b c e : Expr} {E : Ends'} {x : Str}
/-! ### + of tuples -/
/-! ### slices of lists -/
theorem ed_slLT (h : ED X B S e fun d => ED X B S b fun y => ∃ l, ∃ j : Int, d = .lst l ∧ y = .int j ∧ ((∃ k : Nat, j = (k : Int) ∧ Q (.lst (l.take k))) ∨ (j = -1 ∧ Q (.lst l.dropLast)))) : ED X B S (.Subscript e (.Slice none (some b) none p2) pos) Q := fun σ W H r R k => by
  refine PE.w (pe_slice L2.sl_list we_pe po_none (po_some we_pe)) ?_
  refine h σ W H r _ fun d v W1 H1 s1 ok1 n1 q1 => ?_
  show WE X b σ H1 _
  refine q1 σ W1 H1 (r.step s1 ok1) _ fun d2 u W2 H2 s2 ok2 n2 q2 => ?_
  obtain ⟨l, j, rfl, rfl, q2⟩ := q2
  cases n2
  have k2 := (k.step s1 ok1).step s2 ok2
  cases n1.mono s2.I with
  | @lst _ a xs ha m =>
    refine ⟨_, rfl, a, xs, rfl, SqL.of (ok2.ex _ _ ha), fun p hp => ?_⟩
    rcases q2 with ⟨i, rfl, q2⟩ | ⟨rfl, q2⟩
    · have e : cutV xs none (some (i : Int)) = xs.take i := by
        unfold cutV
        rw [HT.sIx_nat, HT.sIx_none, List.drop_zero, Nat.sub_zero]
        rcases Nat.le_total i xs.length with z | z
        · rw [Nat.min_eq_left z]
        · rw [Nat.min_eq_right z, List.take_of_length_le (Nat.le_refl _), List.take_of_length_le z]
      rw [e]
      have st := Stp.new (o := .lst (xs.take i)) ok2 hp
      exact k2 (.lst (l.take i)) (.ref p) _ _ st (ok2.new hp) (.lst (show upd W2.I p _ p = _ from upd_same) ((dns_take i m).mono st.I)) q2
    · have e : cutV xs none (some (-1)) = xs.take (xs.length - 1) := by
        unfold cutV
        rw [HT.sIx_none, List.drop_zero, Nat.sub_zero]
        have : HT.sIx xs.length xs.length (some (-1)) = xs.length - 1 := by
          show (if (-1 : Int) < 0 then ((-1 : Int) + (xs.length : Int)).toNat else min (-1 : Int).toNat xs.length) = _
          rw [if_pos (by decide)]
          omega
        rw [this]
      rw [e]
      have st := Stp.new (o := .lst (xs.take (xs.length - 1))) ok2 hp
      have ml : l.dropLast = l.take (xs.length - 1) := by rw [List.dropLast_eq_take, m.length]
      rw [ml] at q2
      exact k2 (.lst (l.take (xs.length - 1))) (.ref p) _ _ st (ok2.new hp) (.lst (show upd W2.I p _ p = _ from upd_same) ((dns_take (xs.length - 1) m).mono st.I)) q2
/-! ### in -/
abbrev pI (l : List Int) : PyData := .tuple (l.map .int)
end
end DL

set_option Elab.async false
set_option linter.all false
set_option maxRecDepth 100000
set_option maxHeartbeats 2000000
/-! a new dict that a name owns -/
namespace DL
open PySem PySem.Spec PyProof.Rows L2
section
variable {X : Cx} {B : Hp} {W0 : Wd} {S : En} {pos px : Pos} {e : Expr} {E : Ends'} {x : Str}
end
end DL

set_option Elab.async false
set_option linter.all false
set_option maxRecDepth 100000
set_option maxHeartbeats 2000000
/-! dicts of unlike lengths; {} as data -/
namespace DL
open PySem PySem.Spec PyProof.Rows L2 PySem.W
section
variable {X : Cx} {B : Hp} {S : En} {Q : D → Prop} {kvs kvs' : List (List Key × D)}
theorem ft_new {dp : Pos} {Q : List (List Key × D) → Prop} (q : Q []) : FT X B S (.Dict [] [] dp) Q := fun σ W H r R k => PE.w pe_dnewT fun p hp => k [] p [] W _ (Stp.own hp) (r.ok.own hp) hp (r.ok.notP hp) (r.ok.free hp) upd_same .nil q
theorem od_eqTn (hu : X.A.units < cLine) (hl : kvs.length ≠ kvs'.length) (q : Q (.bl false)) : OD X (compareOp .Eq) (.dcT kvs) (.dcT kvs') Q := fun v u W H ok h1 h2 R c pins t τ v' u' J r1 r2 => by
  show wpAny _ _ (richCompare .Eq _ _) _ _ _
  cases h1 with
  | @dcT _ a oa ws ha d1 => cases h2 with
    | @dcT _ b ob us hb d2 =>
      cases r1
      cases r2
      obtain ⟨ga, z1, n1, rows, pr, o1, es, ep, g1, x1, da, he, nd⟩ := (show ObjOk X.prog X.w H t.heap a (.frz oa (.dT ws)) from J.hok a _ (ok.ex _ _ ha))
      rw [ga] at g1
      cases g1
      obtain ⟨gb, z2, n2, rows2, pr2, o2, es', ep', g2, x2, db, he2, nd2⟩ := (show ObjOk X.prog X.w H t.heap b (.frz ob (.dT us)) from J.hok b _ (ok.ex _ _ hb))
      rw [gb] at g2
      cases g2
      have l1 : es.size = rows.length := size_of_entries he
      have l2 : es'.size = rows2.length := size_of_entries he2
      have l3 : ws.length = rows.length := Paired.length pr
      have l4 : us.length = rows2.length := Paired.length pr2
      have l5 := d1.length
      have l6 := d2.length
      have ta : t.TypeIs (.ref a) "dict" := ⟨oa, ga, x1.1⟩
      have tb : t.TypeIs (.ref b) "dict" := ⟨ob, gb, x2.1⟩
      have hsz : ¬ es.size = es'.size := by omega
      refine wpAny_richCompare_same_room (op := .Eq) ta tb PySem.F.slot_dict_eq (wpAny_call_entry PySem.F.slot_dict_eq ta PySem.F.entry_dict_eq ?_ (PySem.F.args_dict_eq_2 _ _)) hu
      show wpAny _ _ (Builtin.Dict.dictSlotArgs "__eq__" ⟨[.ref a, .ref b], []⟩ >>= _) _ _ t
      refine wpAny_bind ?_
      unfold Builtin.Dict.dictSlotArgs
      refine wpAny_bind (wpAny_notOrdered_dict ta ?_)
      show wpAny _ _ (pure (Value.ref a, Value.ref b)) _ _ t
      refine wpAny_pure ?_
      refine wpAny_bind (wpAny_isInstance (T := "dict") tb PySem.F.sub_dict_dict ?_)
      simp only [Bool.not_true, Bool.false_eq_true, if_false]
      refine wpAny_bind (wpAny_pure (wpAny_bind (wpAny_pure ?_)))
      refine wpAny_bind ?_
      unfold Builtin.Dict.samePairs Builtin.Dict.showsAll
      rw [if_neg (show ¬ (a == sysModules) = true by rw [n1]; exact Bool.false_ne_true), if_neg (show ¬ (b == sysModules) = true by rw [n2]; exact Bool.false_ne_true)]
      refine wpAny_bind (wpAny_pure (wpAny_bind (wpAny_pure ?_)))
      refine wpAny_bind (wpAny_dictEntries ga da ?_)
      dsimp only
      refine wpAny_bind (wpAny_dictEntries gb db ?_)
      rw [if_pos (by simpa using hsz)]
      refine wpAny_bind (wpAny_rule (wpAny_pure ?_))
      refine wpAny_pure ⟨_, rfl, ?_, ?_⟩
      · exact fun x => nomatch x
      · exact ⟨.bl false, H, J, rfl, c.now ok (.bl false) q⟩
theorem od_eqT0 (hr : Room 1 X.A) (hG : X.A.guards = some (gOf X)) (q : Q (.bl kvs.isEmpty)) : OD X (compareOp .Eq) (.dcT kvs) (.dcT []) Q := by
  cases kvs with
  | nil => exact od_eqR (n := 1) (rcR_dct (n := 0) rfl (fun k d h => by cases h)) hr hG q
  | cons kv kvs => exact od_eqTn hr.units0 (by simp) q
end
end DL

set_option Elab.async false
set_option linter.all false
set_option maxRecDepth 100000
set_option maxHeartbeats 2000000
/-! a dict != {} -/
namespace DL
open PySem PySem.Spec PyProof.Rows L2 PySem.W
section
variable {X : Cx} {Q : D → Prop} {kvs kvs' : List (List Key × D)}
end
end DL

set_option Elab.async false
set_option linter.all false
set_option maxRecDepth 100000
set_option maxHeartbeats 4000000
/-! dicts that a def hands back new; a dict of one entry; what a name owns, compared, asked, sorted; x, y = e, {} -/
namespace DL
open PySem PySem.Spec PyProof.Rows L2 PySem.W
/-- {k: v}, k a tuple -/
def tOneT (trs : List (TE × TE)) : TE := fun σ H Q => ∀ p, H p = none → tPairs trs σ (upd H p (.dT [])) fun ps H2 => H2 p = some (.dT []) ∧ ∃ ks b y, ps = [(.ref b, y)] ∧ H2 b = some (.tup (ks.map kV)) ∧ Q (.ref p) (upd H2 p (.dT [(ks, y)]))
/-! a new dict handed back -/
abbrev SpT := List Sl → (List (List Key × D) → Prop) → Prop
def liftT (K : PySem.W.Frag) (sp : SpT) : SpG := fun g vs H R => ∃ as W Q, Ok g W H ∧ Args K W as vs ∧ sp as Q ∧ ContT K g W H Q R
structure NfT (P : Program) (w : World) (K : PySem.W.Frag) (mg : Str → Option Value) (base : Heap) (x : Str) (k : Nat) (sp : SpT) : Prop where
  ex : ∃ f fd ps, GnOk P w K mg base k f fd ps (liftT K sp) ∧ mg x = some (.ref f) ∧ PySem.W.keepIn K (.ref f) = true ∧ Binds K fd ps []
section
variable {X : Cx} {B : Hp} {W0 : Wd} {S : En} {pos p apos : Pos} {e o : Expr} {es : List Expr} {x : Str} {k : Nat}
end
/-- a block that ends by handing a new dict back -/
def ST (X : Cx) (B : Hp) (W0 : Wd) (S : En) (sts : List Stmt) (Q : List (List Key × D) → Prop) : Prop := ∀ σ W H, Rep X.K (gOf X) B S σ W H → Stp W0 B W H → ∀ R, ContT X.K (gOf X) W0 B Q R → WSs X sts { nx := fun _ H' => R .non H', rt := R } σ H
section
variable {X : Cx} {B : Hp} {W0 : Wd} {S : En} {pos px : Pos} {x : Str} {st : Stmt} {sts : List Stmt} {Q : List (List Key × D) → Prop}
end
section
variable {P : Program} {w : World} {K : PySem.W.Frag} {mg : Str → Option Value} {base : Heap}
end
section
variable {X : Cx} {B : Hp} {W0 : Wd} {S : En} {pos px py p p1 : Pos} {Q : D → Prop} {QB : Bool → Prop} {a b e f key value : Expr} {x y : Str} {E : Ends'}
abbrev RSortK (X : Cx) (dd : Nat) (Bb : Int) : List V → Hp → VK → Prop := fun xs H Q => ∃ d kvs, xs = [V.ref d] ∧ Rd H d (.dT kvs) ∧ kvs.length < 64 ∧ (∀ p ∈ kvs, ∃ l : List Int, p.1 = ik l ∧ l.length = dd ∧ TS.Bd Bb l) ∧
    ∀ bs ys p, IsKeys H kvs bs → ys.Perm (bs.map V.ref) → ys.Pairwise (fun x y => ∀ n m, TupI X.K H x n → TupI X.K H y m → TS.code Bb n ≤ TS.code Bb m) → H p = none → Q (.ref p) (upd H p (.lst ys))
end
end DL

set_option Elab.async false
set_option linter.all false
set_option maxRecDepth 100000
set_option maxHeartbeats 4000000
/-! sorted(d), keys tuples of ints, of any number -/
namespace TSB
open PySem PySem.W PySem.Calls PyProof.Rows DL
theorem lex_lt : ∀ {B : Int} {a b : List Int}, a.length = b.length → TS.Bd B a → TS.Bd B b → TS.code B a < TS.code B b → a < b
  | _, [], [], _, _, _, h => absurd h (Int.lt_irrefl _)
  | B, x :: a, y :: b, hl, ha, hb, h => by
    have hl' := Nat.succ.inj hl
    rw [List.cons_lt_cons_iff]
    rcases Int.lt_trichotomy x y with c | c | c
    · exact .inl c
    · subst c
      exact .inr ⟨rfl, lex_lt hl' ha.tail hb.tail ((TS.code_same hl').mp h)⟩
    · have := TS.code_lt hl'.symm hb.tail ha.tail c
      omega
theorem le_code {B : Int} {a b : List Int} (hl : a.length = b.length) (ha : TS.Bd B a) (hb : TS.Bd B b) (h : dataLe false pI a b = true) : TS.code B a ≤ TS.code B b := by
  by_cases c : TS.code B a ≤ TS.code B b
  · exact c
  · have lt := lex_lt hl.symm hb ha (by omega)
    have e : dataLe false pI a b = !decide (b < a) := by
      show (!PySem.W.dataLt (pI b) (pI a)) = _
      congr 1
      exact PySem.W.dataLt_ints b a
    rw [e, decide_eq_true lt] at h
    cases h
theorem reads_ints {h : Heap} : ∀ {vs : List Value} {ns : List Int}, IntsAre vs ns → ReadsAll h vs (ns.map .int) []
  | _, _, .nil => .nil
  | _, _, .cons n t r => .cons (.int n t) (reads_ints r)
theorem reads_tup {h : Heap} {v : Value} {ns : List Int} (x : TS.TupInts h v ns) : ∃ as, Reads h v (pI ns) as := by
  obtain ⟨a, xs, rfl, ⟨o, ho, hc, n, hd⟩, hi⟩ := x
  exact ⟨_, reads_tuple_at ho hc hd (reads_ints hi)⟩
theorem dl (a b : List Int) : dataLe false pI a b = !decide (b < a) := by
  show (!PySem.W.dataLt (pI b) (pI a)) = _
  congr 1
  exact PySem.W.dataLt_ints b a
theorem le_tr (a b c : List Int) (h1 : dataLe false pI a b = true) (h2 : dataLe false pI b c = true) : dataLe false pI a c = true := by
  rw [dl] at *
  simp only [Bool.not_eq_true', decide_eq_false_iff_not] at *
  exact List.le_trans (l₁ := a) (l₂ := b) (l₃ := c) h1 h2
theorem le_tot (a b : List Int) : (dataLe false pI a b || dataLe false pI b a) = true := by
  rw [dl, dl]
  rcases List.le_total a b with h | h
  · have : ¬ b < a := h
    rw [decide_eq_false this]
    rfl
  · have : ¬ a < b := h
    rw [decide_eq_false this, Bool.not_false, Bool.or_true]
section
variable {prog : Program} {w : World} {A : Around} {E : Value → Shared → Prop} {s : Shared}
theorem each_self {h : Heap} : ∀ {vs : List Value} {P : Value → Prop}, (∀ v ∈ vs, P v) → EachIs (fun v b => b = TS.intsOf h v ∧ P v) vs (vs.map (TS.intsOf h))
  | [], _, _ => .nil
  | v :: vs, P, x => .cons ⟨rfl, x v (List.mem_cons_self ..)⟩ (each_self fun u hu => x u (List.mem_cons_of_mem _ hu))
theorem of_self {h : Heap} {P : Value → Prop} : ∀ {out : List Value} {bs : List (List Int)}, EachIs (fun v b => b = TS.intsOf h v ∧ P v) out bs → bs = out.map (TS.intsOf h) ∧ ∀ v ∈ out, P v
  | _, _, .nil => ⟨rfl, nofun⟩
  | _, _, .cons ⟨e, p⟩ r => by
    obtain ⟨e2, p2⟩ := of_self r
    refine ⟨by rw [e, e2]; rfl, fun v hv => ?_⟩
    rcases List.mem_cons.mp hv with rfl | hv
    · exact p
    · exact p2 v hv
/-- xs.sort() -/
theorem call_sort_big {a : Addr} {vs : List Value} {n d : Nat} {B : Int} {Q : Value → Shared → Prop} (ho : s.heap.get? a = some (seqObj "list" vs.toArray n)) (hL : vs.length ≤ sizeLine) (hu : A.in1.units + 1 < cLine) (hd0 : 1 ≤ d) (x : TS.TupsOk s.heap d B vs)
    (h : ∀ out : Array Value, out.toList.Perm vs → out.toList.Pairwise (fun u v => TS.code B (TS.intsOf s.heap u) ≤ TS.code B (TS.intsOf s.heap v)) → Q .none { s with heap := sortedHeap s.heap a vs out }) :
    wpAny (model prog w) A (call (.builtin "list.sort") [.ref a]) Q E s := by
  have keep : ∀ b o, s.heap.get? b = some o → o.cls = .type "tuple" → (sortingHeap s.heap a vs).get? b = some o := fun b o e hc => by
    refine sortingHeap_old ?_ e
    rintro rfl
    rw [ho] at e
    have e' : seqObj "list" vs.toArray n = o := Option.some.inj e
    rw [← e'] at hc
    have c' : Value.type "list" = Value.type "tuple" := hc
    injection c' with c''
    exact absurd c'' (by decide)
  have es : EachIs (fun v b => b = TS.intsOf s.heap v ∧ v ∈ vs) vs (vs.map (TS.intsOf s.heap)) := each_self fun v hv => hv
  have er : EachIs (fun v b => ∃ as, Reads (sortingHeap s.heap a vs) v (pI b) as) vs (vs.map (TS.intsOf s.heap)) := es.mono fun v b ⟨e, hv⟩ => by
    obtain ⟨ns, t, _⟩ := x v hv
    rw [e, t.ints]
    exact reads_tup (t.keeps keep)
  have hal : AllAlike ((vs.map (TS.intsOf s.heap)).map pI) := AllAlike.of fun b b' => by simp [PySem.W.alike, PySem.W.alike_ints]
  have hk : Sortable ((vs.map (TS.intsOf s.heap)).map pI) := .inl fun q hq => by
    obtain ⟨l, hl, rfl⟩ := List.mem_map.mp hq
    obtain ⟨v, hv, rfl⟩ := List.mem_map.mp hl
    obtain ⟨ns, t, l1, _⟩ := x v hv
    rw [t.ints]
    cases ns with
    | nil => rw [List.length_nil] at l1; omega
    | cons y ys => exact ⟨_, _, rfl⟩
  refine wpAny_call_entry slot_list_sort ⟨_, ho, rfl⟩ entry_list_sort ?_ (args_list_sort _)
  refine list_sort_vals (κ := dataKind (sortingHeap s.heap a vs) ((vs.map (TS.intsOf s.heap)).map pI)) ho (SortsAt.data (s := { s with heap := sortingHeap s.heap a vs }) (each_map (R := fun v d => ∃ as, Reads (sortingHeap s.heap a vs) v d as) pI er) hal hk fun d hd => ?_) hL ⟨_, rfl, h _ ?_ ?_⟩
  · obtain ⟨l, _, rfl⟩ := List.mem_map.mp hd
    show A.in1.units + (PyData.depthAll _ + 1) < cLine
    rw [PySem.W.depth_ints]
    exact hu
  · show (((vs.zip vs).mergeSort _).map Prod.snd).Perm vs
    have z := (List.mergeSort_perm (vs.zip vs) (sortLe (dataKind (sortingHeap s.heap a vs) ((vs.map (TS.intsOf s.heap)).map pI)).toKeyOrd false fun p : Keyed => keyD (dataKind (sortingHeap s.heap a vs) ((vs.map (TS.intsOf s.heap)).map pI)) p.1)).map Prod.snd
    rw [List.map_snd_zip (Nat.le_refl _)] at z
    exact z
  · have eo := sortVals_data (R := fun v b => b = TS.intsOf s.heap v ∧ v ∈ vs) (enc := pI) (h' := sortingHeap s.heap a vs) false es er hal
    obtain ⟨e1, e2⟩ := of_self eo
    have pw := List.pairwise_mergeSort (le := dataLe false pI) le_tr le_tot (vs.map (TS.intsOf s.heap))
    rw [e1, List.pairwise_map] at pw
    refine pw.imp_of_mem fun {u v} hu hv le => ?_
    obtain ⟨ns, t, l1, b1⟩ := x u (e2 u hu)
    obtain ⟨ms, t', l2, b2⟩ := x v (e2 v hv)
    rw [t.ints, t'.ints] at le ⊢
    exact le_code (by rw [l1, l2]) b1 b2 le
end
end TSB
namespace DL
open PySem PySem.Spec PyProof.Rows L2
theorem cr_sortKb {X : Cx} {dd : Nat} {B : Int} (hc : X.calm = true) (hd : 1 ≤ dd) (hu : X.A.units + 100 < cLine) : CallR X (.builtin "sorted") (fun xs H Q => ∃ d kvs, xs = [V.ref d] ∧ Rd H d (.dT kvs) ∧ kvs.length ≤ 50000 ∧ (∀ p ∈ kvs, ∃ l : List Int, p.1 = ik l ∧ l.length = dd ∧ TS.Bd B l) ∧
    ∀ bs ys p, IsKeys H kvs bs → ys.Perm (bs.map V.ref) → ys.Pairwise (fun x y => ∀ n m, TupI X.K H x n → TupI X.K H y m → TS.code B n ≤ TS.code B m) → H p = none → Q (.ref p) (upd H p (.lst ys))) := by
  intro pins t τ H xs us Q J r q
  obtain ⟨d, kvs, rfl, rd, few, hx, q⟩ := q
  rw [Vals.ref1 r]
  obtain ⟨z, ns, ks, pr, o, es, ep, ho, hex, hdt, he, nd⟩ := (show ObjOk X.prog X.w H t.heap d (.dT kvs) from rd.ok J.hok)
  have l1 : es.size = ks.length := size_of_entries he
  have l2 : kvs.length = ks.length := Paired.length pr
  have small : ks.length ≤ sizeLine := l2 ▸ z
  have isk := keyPairs J.hok pr
  refine Calls.call_function_entry kind_sorted plain_sorted entry_sorted (args_sorted1 _) ?_
  unfold Builtin.«sorted»
  refine wpAny_bind (m := checkCount "sorted" 1 1 _) (wpAny_pure ?_)
  refine wpAny_bind (PySem.W.kdu_collect (A := X.A.in1) (kdl_raw ns hex hdt) (J.ok.hd hc) ho (by omega) fun h' tk acc keep it => ?_)
  have ea := accKeys (acc := acc.toList) he (by rw [Array.length_toList, it.1]; exact l1) fun j v e => it.2 j v (by rw [← Array.getElem?_toList]; exact e)
  have J1 : Inv X pins τ H { t with heap := h', toks := tk } := J.kept keep
  generalize eb : (ks.map fun x => x.2.1) = bs at isk ea
  have lb : bs.length = ks.length := by rw [← eb, List.length_map]
  rw [ea]
  refine wpAny_bind (wpAny_newList ?_ (by rw [List.length_map, lb]; exact small))
  have at_ : (h'.push (seqObj "list" (bs.map Value.ref).toArray 0)).get? h'.objs.size = some (seqObj "list" (bs.map Value.ref).toArray 0) := Heap.get?_push_size _ rfl
  have raw : ∀ b ∈ bs, ∃ l, SqT X.K H b (l.map V.int) ∧ l.length = dd ∧ TS.Bd B l := fun b hb => by
    obtain ⟨j, hj, e⟩ := List.getElem_of_mem hb
    have hjk : j < kvs.length := by omega
    obtain ⟨b', hb', hH⟩ := Itemz isk j hjk
    rw [List.getElem?_eq_getElem hj, e] at hb'
    cases hb'
    obtain ⟨l, e1, e2, e3⟩ := hx _ (List.getElem_mem hjk)
    rw [e1] at hH
    refine ⟨l, SqT.of ?_, e2, e3⟩
    have : (ik l).map kV = l.map V.int := by simp [ik, kV, Function.comp_def]
    rw [← this]
    exact hH
  have up : ∀ b u, t.heap.get? b = some u → (h'.push (seqObj "list" (bs.map Value.ref).toArray 0)).get? b = some u := fun b u e => Heap.get?_push_of_some _ (keep b u e)
  have tups : TS.TupsOk (h'.push (seqObj "list" (bs.map Value.ref).toArray 0)) dd B (bs.map Value.ref) := fun v hv => by
    obtain ⟨b, hb, rfl⟩ := List.mem_map.mp hv
    obtain ⟨l, h1, h2, h3⟩ := raw b hb
    exact ⟨l, (tupI_raw J h1).keeps fun c u e _ => up c u e, h2, h3⟩
  show wpAny _ _ _ _ _ { t with heap := h'.push (seqObj "list" (bs.map Value.ref).toArray 0), toks := tk }
  refine wpAny_bind (wpAny_holding (TSB.call_sort_big (s := { t with heap := h'.push (seqObj "list" (bs.map Value.ref).toArray 0), toks := tk }) at_ (by rw [List.length_map, lb]; exact small) (show X.A.units + 1 + 1 + 1 < cLine by omega) hd tups fun out p1 p2 => ?_))
  have refs : ∀ u ∈ out.toList, ∃ a, u = Value.ref a := fun u hu => by
    obtain ⟨b, _, e⟩ := List.mem_map.mp (p1.mem_iff.mp hu)
    exact ⟨b, e.symm⟩
  have perm : (out.toList.map bkV).Perm (bs.map V.ref) := by
    have := p1.map bkV
    rwa [List.map_map] at this
  obtain ⟨e', at2⟩ := sortedHeap_at (vs := bs.map Value.ref) (out := out) at_
  have fit : (out.toList.map bkV).length ≤ sizeLine := by rw [perm.length_eq, List.length_map, lb]; exact small
  refine wpAny_pure ⟨_, rfl, .ref h'.objs.size, upd H h'.objs.size (.lst (out.toList.map bkV)), J1.laid (t' := tk) (fun b u e => ?_) (Nat.le_refl _) ⟨fit, out.toList, e', bkV_vals refs, at2⟩, rfl, q bs _ _ isk perm ?_ (J1.hok.fresh (Nat.le_refl _))⟩
  · have lt : b < h'.objs.size := Heap.lt_size e
    rw [sortedHeap_old (Nat.ne_of_lt lt) (by rw [size_push']; exact Nat.lt_succ_of_lt lt)]
    exact Heap.get?_push_of_some _ e
  · rw [List.pairwise_map]
    refine List.Pairwise.imp (fun {u v} le n m hn hm => ?_) p2
    obtain ⟨a1, f1, g1⟩ := hn
    obtain ⟨a2, f2, g2⟩ := hm
    have i1 := ((tupI_raw J g1).keeps (h' := h'.push (seqObj "list" (bs.map Value.ref).toArray 0)) fun c u e _ => up c u e).ints
    have i2 := ((tupI_raw J g2).keeps (h' := h'.push (seqObj "list" (bs.map Value.ref).toArray 0)) fun c u e _ => up c u e).ints
    rw [bkV_ref f1, bkV_ref f2] at le
    have le' : TS.code B (TS.intsOf (h'.push (seqObj "list" (bs.map Value.ref).toArray 0)) (.ref a1)) ≤ TS.code B (TS.intsOf (h'.push (seqObj "list" (bs.map Value.ref).toArray 0)) (.ref a2)) := le
    rw [i1, i2] at le'
    exact le'
/-- sorted(d), keys of ints, of any number -/
theorem cd_sortKb {X : Cx} {Q : D → Prop} {dd : Nat} {B : Int} {kvs : List (List Key × D)} {ls : List (List Int)} (hc : X.calm = true) (hu : X.A.units + 100 < cLine) (hd : 1 ≤ dd) (hk : kvs.map (·.1) = ls.map ik) (hl : ls.length ≤ 50000) (hx : ∀ l ∈ ls, l.length = dd ∧ TS.Bd B l)
    (q : ∀ ls' : List (List Int), ls'.Perm ls → ls'.Pairwise (fun a b => TS.code B a ≤ TS.code B b) → Q (.lst (ls'.map tI))) : CD X (.builtin "sorted") [.val (.dcT kvs)] Q := cd_of (cr_sortKb (dd := dd) (B := B) hc hd hu) fun vs W H ok ha R c => by
  obtain ⟨v, rfl, m⟩ := one_arg ha
  cases m with
  | @dcT _ a o ws hp m =>
    have hl2 : kvs.length = ls.length := by have := congrArg List.length hk; simpa using this
    refine ⟨a, ws, rfl, .inr ⟨o, ok.ex _ _ hp⟩, by rw [← m.length, hl2]; exact hl, fun p hm => ?_, fun bs ys p isk perm pw hn => ?_⟩
    · have : p.1 ∈ ls.map ik := by
        rw [← hk, m.keys]
        exact List.mem_map_of_mem hm
      obtain ⟨l, hl, e⟩ := List.mem_map.mp this
      exact ⟨l, e.symm, hx l hl⟩
    · obtain ⟨W2, s2, ok2, e2⟩ := extN isk ok
      have dk := dns_keysOf (m.mono s2.I) e2
      rw [keysD_ik hk] at dk
      obtain ⟨ls', p1, n1⟩ := dns_perm perm dk
      have st := Stp.new (o := .lst ys) ok2 hn
      exact c _ _ _ _ (s2.trans ok2 st) (ok2.new hn) (.lst (show upd W2.I p _ p = _ from upd_same) (n1.mono st.I)) (q ls' p1 (dns_pair ok2 n1 pw))
end DL
namespace DL
open PySem L2 PyProof.Rows
theorem un100 {k : Nat} {A : Around} (r : Room k A) : A.units + 100 < cLine := by have := r.un; omega
end DL

set_option Elab.async false
set_option linter.all false
set_option maxRecDepth 100000
set_option maxHeartbeats 2000000
/-! comprehensions told by functions: what each item becomes, which are kept -/
namespace DL
open PySem PySem.Spec PyProof.Rows L2
theorem take1 {α β : Type} (u : α → β) {l : List α} {i : Nat} {a : α} (h : l[i]? = some a) : (l.take (i + 1)).map u = (l.take i).map u ++ [u a] := by
  rw [List.take_add_one, h]
  simp
section
variable {X : Cx} {B : Hp} {W0 : Wd} {S : En} {pos : Pos} {e elt iter c : Expr} {x : Str} {px : Pos} {scope : Scope} {own : List (Str × Nat)} {d0 : D} {Q : List D → Prop} {E : Ends'} {α : Type} {f u : α → D} {t : α → Bool} {l : List α}
/-- [elt for x in a list or a tuple] -/
theorem fd_mp (j : Nat) (hc : X.calm = true) (hN : X.N.Nodup) (ok : BlkOk X.N X.env.scope scope own) (hg : AllBlk X scope fun Y => PG Y (.Name x px) (gName j)) (hj : j ∈ own.map (·.2)) (hl : l.length ≤ 50000) (sd : SeqD d0 (l.map f)) (hit : ED X B S iter fun d => d = d0)
    (he : ∀ a ∈ l, AllBlk X scope fun Y => ED Y B (itE S own j (f a)) elt fun y => y = u a) (q : Q (l.map u)) (hs : ∀ x, foldedSetIterable iter X.env x = pure x := by intro _; rfl) : FD X B S (.ListComp elt [⟨.Name x px, iter, [], 0⟩] scope pos) Q := by
  have step : ∀ (i : Nat) d acc, (l.map f)[i]? = some d → acc.length = i → acc = (l.take i).map u → AllBlk X scope fun Y => ED Y B (itE S own j d) elt fun y => acc ++ [y] = (l.take (i + 1)).map u := by
    intro i d acc hi _ ha s H0 C cl fp
    rw [List.getElem?_map] at hi
    obtain ⟨a, h1, rfl⟩ := Option.map_eq_some_iff.mp hi
    refine ed_imp (he a (List.mem_of_getElem? h1) s H0 C cl fp) fun y ey => ?_
    rw [take1 u h1, ha, ey]
  have fin : ∀ acc : List D, acc.length = (l.map f).length → acc = (l.take (l.map f).length).map u → Q acc := by
    intro acc _ e
    rw [List.length_map, List.take_length] at e
    rw [e]
    exact q
  have hl' : (l.map f).length ≤ 50000 := by rw [List.length_map]; exact hl
  rcases sd with rfl | rfl
  · exact fd_lcL (fun i acc => acc = (l.take i).map u) (fun d => itE S own j d) hc hN ok hg (ed_imp hit fun d e => ⟨e, hl', rfl⟩) (fun d _ => pat_name j hj) step fin hs
  · exact fd_lcT (fun i acc => acc = (l.take i).map u) (fun d => itE S own j d) hc hN ok hg (ed_imp hit fun d e => ⟨e, hl', rfl⟩) (fun d _ => pat_name j hj) step fin hs
end
end DL

set_option Elab.async false
set_option linter.all false
set_option maxRecDepth 100000
set_option maxHeartbeats 4000000
/-! enumerate of a tuple; dict comprehensions told by functions; list(range(n)) -/
namespace DL
open PySem PySem.Spec PyProof.Rows L2
def Ite2 (K : PySem.W.Frag) (a : Addr) : It :=
  ⟨fun i H => ∃ (xs : List V) (x : V), SqT K H a xs ∧ xs[i]? = some x, fun i H v H' => ∃ T x, v = .ref T ∧ H T = none ∧ H' = upd H T (.tup [.int (i : Nat), x]) ∧ ∀ xs, SqT K H a xs → xs[i]? = some x, fun i H => ∃ xs : List V, SqT K H a xs ∧ xs.length ≤ i⟩
theorem enum_endT {prog : Program} {w : World} {A : Around} {E : Value → Shared → Prop} {s : Shared} {e it l : Addr} {i : Nat} {items : Array Value} {old : Value} {Q : Option Value → Shared → Prop} (hh : A.handled = none) (he : IsEnum s.heap e it i old) (hit : s.heap.IsTupleIter it l i) (hl : s.heap.IsTuple l items) (hx : items[i]? = none)
    (hQ : ∀ h', Heap.ExtBut it s.heap h' → Q none { s with heap := h' }) : wpAny (model prog w) A (pyNext (.ref e)) Q E s := by
  have hT : s.TypeIs (.ref e) "enumerate" := ⟨_, he, rfl⟩
  unfold pyNext
  refine wpAny_bind (wpAny_attempt (wpAny_callSpecial?_slot (name := Str.ofString "__next__") hT F.slot_enumerate_next
    (wpAny_call_entry F.slot_enumerate_next hT F.entry_enumerate_next ?_ (F.args_enumerate_next_1 _))))
  show wpAny _ _ (field (.ref e) 2 >>= _) _ _ _
  refine wpAny_bind (wpAny_field he rfl (x := .ref it) rfl ?_)
  refine wpAny_bind (RZ.nextOf_tuple_end (A := A.in1) hh hit hl hx fun h' x he' hx' => ?_)
  obtain ⟨o, ho, hc⟩ := hx'
  refine wpAny_bind (wpAny_isInstance (T := "StopIteration") (b := true) ⟨o, ho, hc⟩ isSubtype_stop ?_)
  exact wpAny_pure (hQ _ he')
theorem turn_enumT {P : Program} {w : World} {K : PySem.W.Frag} {elts : List Expr} {kk : Nat} {tpos : Pos} (a e it : Addr) :
    Turn P w K (.Tuple elts kk tpos) (Ite2 K a) [e, it] e (fun i h => (∃ old, IsEnum h e it ((i : Nat) : Int) old) ∧ h.IsTupleIter it a i ∧ e ≠ it ∧ a ≠ it ∧ a ≠ e) where
  mem := by simp
  obj := fun i h st b hb => by
    obtain ⟨⟨old, he⟩, ⟨o, ho, hc, hd⟩, _⟩ := st
    have e' : b = e ∨ b = it := by simpa using hb
    rcases e' with z | z
    · rw [z]; exact ⟨_, he, fun v q => nomatch q⟩
    · rw [z]; exact ⟨o, ho, fun v q => by rw [hd] at q; cases q⟩
  keep := fun i h h' st k => let ⟨⟨old, he⟩, hi, hne⟩ := st; ⟨⟨old, k e (by simp) _ he⟩, hi.at fun o q => k it (by simp) o q, hne⟩
  item := by
    intro X hP hw hK hc i pins s σ H E I hf st hg
    subst hP hw hK
    obtain ⟨⟨old, he⟩, hit, hne, nai, nae⟩ := st
    obtain ⟨xs, x, hq, hx⟩ := hg
    obtain ⟨its, rv, tp, hz⟩ := I.tuple hq
    obtain ⟨u, hu, ru⟩ := rv.get hx
    have hel : e < s.heap.objs.size := Heap.lt_size he
    have hil : it < s.heap.objs.size := by obtain ⟨_, q, _⟩ := hit; exact Heap.lt_size q
    have lt : i < its.toArray.size := by
      rw [List.size_toArray]
      exact (List.getElem?_eq_some_iff.mp hu).1
    refine wpAny_pyNext_enum_itemD (Draws.tuple (A := X.A.in1) (I.ok.hd hc) it a nai its.toArray) he ⟨hit, tp⟩ lt hne (by simp [hne, Ne.symm nae]) fun x' h' tk hP ho hit' hT hsz hk => ?_
    have ex : x' = u := by
      have : its.toArray[i]? = some u := by simpa using hu
      rw [this] at hP
      exact (Option.some.inj hP).symm
    subst ex
    refine ⟨_, rfl, wpAny_letOwnedTupleGo_enum (s := { s with heap := h', toks := tk + 1 }) ho fun h'' he' sb => ?_⟩
    have hT2 : h''.get? s.heap.objs.size = some { cls := .type "tuple", data := .seq #[.int i tk, x'] } := (sb.2 _ (Nat.ne_of_gt hel)).trans hT
    have new : ObjOk X.prog X.w (upd H s.heap.objs.size (.tup [.int (i : Nat), x])) h'' s.heap.objs.size (.tup [.int (i : Nat), x]) :=
      ⟨by show 2 ≤ sizeLine; decide, [.int i tk, x'], .cons ⟨_, rfl⟩ (.cons ru .nil), ⟨_, hT2, rfl, _, rfl⟩⟩
    have I1 : Inv X pins σ (upd H s.heap.objs.size (.tup [.int (i : Nat), x])) { s with heap := h'', toks := tk + 1 } :=
      I.turnedNew (ch := [e, it]) (fun b ob hb q => (sb.2 b (fun z => hb (by simp [z]))).trans (hk b ob (fun z => hb (by simp [z])) (fun z => hb (by simp [z])) q)) hf (Nat.le_refl _) new
    refine ⟨.ref s.heap.objs.size, _, I1, rfl, ⟨_, x, rfl, I.hok.fresh (Nat.le_refl _), rfl, fun ys hy => by rw [I.tuple_inj hy hq]; exact hx⟩, ⟨⟨x', ?_⟩, hit'.1.at fun o q => (sb.2 it (Ne.symm hne)).trans q, hne, nai, nae⟩, fun b hb => ?_⟩
    · have e1 : ((i + 1 : Nat) : Int) = (i : Int) + 1 := by omega
      rw [e1]; exact he'
    · have hb' : b < s.heap.objs.size := by
        have e' : b = e ∨ b = it := by simpa using hb
        rcases e' with z | z
        · rw [z]; exact hel
        · rw [z]; exact hil
      rw [upd_ne (Nat.ne_of_lt hb')]
      exact (hf b hb).1
  done := by
    intro X hP hw hK hc i pins s σ H E I hf st hg
    subst hP hw hK
    obtain ⟨⟨old, he⟩, hit, hne, nai, nae⟩ := st
    obtain ⟨xs, hq, hx⟩ := hg
    obtain ⟨its, rv, tp, hz⟩ := I.tuple hq
    obtain ⟨f0, f1, f2, f3, f4, f5⟩ := hf it (by simp)
    have hl := rv.length
    exact enum_endT (I.ok.hd hc) he hit tp (by simp; omega) fun h' eb => ⟨rfl, I.turned (t' := s.toks) (fun b o hb q => eb b o hb q) f0 f1 f3 f4 f5⟩
  self := fun A i s Q E st h => let ⟨⟨_, he⟩, _⟩ := st; wpAny_pyIter_enum he h
def iEnumT (K : PySem.W.Frag) (ta : TA) : TI := fun σ H R => ta σ H fun vs H1 => ∃ a xs, vs = [.ref a] ∧ SqT K H1 a xs ∧ R (Ite2 K a) H1
theorem pi_enumT {X : Cx} {e : Expr} {ta : TA} {p pos tpos : Pos} {elts : List Expr} {kk : Nat} (hg : Gl X "enumerate") (hm : X.mg "enumerate" = none) (ha : PA X [e] ta) (hs : starEach [e] X.env = [(false, eval e X.env)] := by rfl) :
    PI X (.Tuple elts kk tpos) (.Call (.Name "enumerate" p) [e] [] pos) (iEnumT X.K ta) := by
  refine ⟨fun pins s σ H R J h => Call_ (ld_blt J hg hm boot_enumerate (PyProof.Rows.callWith_type1 (thn (ha.run pos pins s σ H _ J h) fun us s1 ⟨vs, H1, J1, r1, q1⟩ => ?_) hs rfl))⟩
  obtain ⟨a, xs, rfl, sq, q⟩ := q1
  cases r1 with
  | cons r rr =>
    cases rr
    cases r
    obtain ⟨its, rv, tp, _⟩ := J1.tuple sq
    refine EZ.call_enum tp fun h' h1 h2 keep => wpAny_pyIter_enum h1 ?_
    have J2 : Inv X pins σ H1 { s1 with heap := h' } := J1.kept (t' := s1.toks) keep
    have lt : a < s1.heap.objs.size := by obtain ⟨_, g, _⟩ := tp; exact Heap.lt_size g
    refine ⟨s1.heap.objs.size + 1, [s1.heap.objs.size + 1, s1.heap.objs.size], _, _, H1, rfl, J2, turn_enumT a _ _, ⟨⟨_, h1⟩, h2, Nat.succ_ne_self _, Nat.ne_of_lt lt, Nat.ne_of_lt (Nat.lt_succ_of_lt lt)⟩, fun b hb => ?_, q⟩
    have le : s1.heap.objs.size ≤ b := by
      have z : b = s1.heap.objs.size + 1 ∨ b = s1.heap.objs.size := by simpa using hb
      rcases z with z | z <;> rw [z]
      · exact Nat.le_add_right _ _
      · exact Nat.le_refl _
    exact J1.fpOk le (J1.hok.fresh le)
theorem walk_enumT {K : PySem.W.Frag} {a : Addr} {xs : List V} : Walk (Ite2 K a) xs.length (fun H => SqT K H a xs) (YPair (fun i => some (.int (i : Nat))) (fun i => xs[i]?)) := by
  refine ⟨fun i _ hi q => ⟨xs, xs[i], q, by simp [hi]⟩, fun _ q => ⟨xs, q, Nat.le_refl _⟩, fun i H v H' _ q y => ?_⟩
  obtain ⟨T, x, h1, h2, h3, h4⟩ := y
  exact ⟨T, .int (i : Nat), x, h1, h2, h3, rfl, h4 xs q⟩
section
variable {X : Cx} {B : Hp} {W0 : Wd} {S : En} {pos px p1 p apos cpos : Pos} {Q : D → Prop} {a b c e e2 o elt iter value : Expr} {es : List Expr} {E : Ends'} {x : Str}
/-- for i, x in enumerate(a tuple) -/
theorem sd_forET {elts : List Expr} {kk : Nat} {tpos : Pos} {body : List Stmt} {l : List D} (hp : PassesOwn (model X.prog X.w) X.A X.env X.xe) (hc : X.calm = true) (hm : X.mg "enumerate" = none) (Inv : Nat → En → Prop) (h : AD X B S [e] fun as => as = [.val (.tup l)] ∧ Inv 0 S)
    (hs : ∀ (i : Nat) d S', l[i]? = some d → Inv i S' → GD X B W0 S' (.Tuple elts kk tpos) (.tup [.int (i : Int), d]) fun S2 => SDs X B W0 S2 body { nx := Inv (i + 1), rt := E.rt, bk := E.nx, ct := Inv (i + 1) })
    (hd : ∀ S', Inv l.length S' → E.nx S') (hg : Gl X "enumerate" := by rfl) (hst : starEach [e] X.env = [(false, eval e X.env)] := by rfl) (hf : ∀ x, foldedSetIterable (.Call (.Name "enumerate" p) [e] [] p1) X.env x = pure x := by intro _; rfl) :
    SD X B W0 S (.For (.Tuple elts kk tpos) (.Call (.Name "enumerate" p) [e] [] p1) body [] pos) E := fun σ W H r z D' k => by
  refine PS.w (ps_for hp hc (pi_enumT hg hm wa_pa hst) wg_pg wss_pss hf) ?_
  refine h σ W H r _ fun as vs W1 H1 s1 ok1 n1 q1 => ?_
  obtain ⟨rfl, i0⟩ := q1
  obtain ⟨v, rfl, m⟩ := one_arg n1
  cases m with
  | @tup _ a xs ha m =>
    refine ⟨a, xs, rfl, SqT.of (ok1.ex _ _ ha), for_it walk_enumT (fun i σ' H' => ∃ S' W', Rep X.K (gOf X) B S' σ' W' H' ∧ Stp W0 B W' H' ∧ Ex W1.I W'.I ∧ Inv i S') ⟨S, W1, r.step s1 ok1, z.trans r.ok s1, Ex.refl _, i0⟩
      (fun i σ' H' _ ⟨S', W', r', _, e', _⟩ => SqT.of (r'.ok.ex _ _ (e' _ _ ha))) ?_ ?_⟩
    · rintro i y σ' H' H2 hi ⟨S', W', r', z', e', i'⟩ ⟨T, x1, x2, rfl, hT, rfl, ex1, ex2⟩
      obtain ⟨d, hd', nd⟩ := m.get ex2
      cases ex1
      have st := Stp.new (o := .tup [.int (i : Nat), x2]) r'.ok hT
      have ok2 := r'.ok.new (o := .tup [.int (i : Nat), x2]) hT
      refine hs i d S' hd' i' σ' _ _ _ (r'.step st ok2) (z'.trans r'.ok st) (.tup (show upd W'.I T _ T = _ from upd_same) (.cons (.int _) (.cons ((nd.mono e').mono st.I) .nil))) _ fun S3 σ3 W3 H3 r3 z3 e3 q3 => ?_
      have e4 := (e'.trans st.I).trans e3
      exact q3 σ3 W3 H3 r3 z3 _ ⟨fun S5 σ5 W5 H5 r5 z5 e5 q5 => ⟨S5, W5, r5, z5, e4.trans e5, q5⟩, fun d5 v5 W5 H5 r5 z5 e5 n5 q5 => k.rt d5 v5 W5 H5 r5 z5 ((s1.I.trans e4).trans e5) n5 q5,
        fun S5 σ5 W5 H5 r5 z5 e5 q5 => k.nx S5 σ5 W5 H5 r5 z5 ((s1.I.trans e4).trans e5) q5, fun S5 σ5 W5 H5 r5 z5 e5 q5 => ⟨S5, W5, r5, z5, e4.trans e5, q5⟩⟩
    · rintro σ' H' ⟨S', W', r', z', e', i'⟩
      rw [← m.length] at i'
      exact k.nx S' σ' W' H' r' z' (s1.I.trans e') (hd S' i')
/-- for i, x in enumerate(a list or a tuple) -/
theorem sd_forES {elts : List Expr} {kk : Nat} {tpos : Pos} {body : List Stmt} {l : List D} {d0 : D} (sd : SeqD d0 l) (hp : PassesOwn (model X.prog X.w) X.A X.env X.xe) (hc : X.calm = true) (hm : X.mg "enumerate" = none) (Inv : Nat → En → Prop) (h : AD X B S [e] fun as => as = [.val d0] ∧ Inv 0 S)
    (hs : ∀ (i : Nat) d S', l[i]? = some d → Inv i S' → GD X B W0 S' (.Tuple elts kk tpos) (.tup [.int (i : Int), d]) fun S2 => SDs X B W0 S2 body { nx := Inv (i + 1), rt := E.rt, bk := E.nx, ct := Inv (i + 1) })
    (hd : ∀ S', Inv l.length S' → E.nx S') (hg : Gl X "enumerate" := by rfl) (hst : starEach [e] X.env = [(false, eval e X.env)] := by rfl) (hf : ∀ x, foldedSetIterable (.Call (.Name "enumerate" p) [e] [] p1) X.env x = pure x := by intro _; rfl) :
    SD X B W0 S (.For (.Tuple elts kk tpos) (.Call (.Name "enumerate" p) [e] [] p1) body [] pos) E := by
  rcases sd with rfl | rfl
  · exact sd_forE hp hc hm Inv h hs hd hg hst hf
  · exact sd_forET hp hc hm Inv h hs hd hg hst hf
end
end DL

set_option Elab.async false
set_option linter.all false
set_option maxRecDepth 100000
set_option maxHeartbeats 4000000
/-! k15: Blend -/
namespace K15
open PySem L2 DL
def dgD (n : Nat) (es : List Ent) : D := if es.isEmpty = true then .non else .int (n : Int)
def bf (C : Addr) (z : List Nat) (n : Nat) (es : List Ent) : List (Str × D) := [("_letters", .str (SX.S z)), ("_degree", dgD n es), ("_amounts", .dcT (kvD C es))]
abbrev Bo (C CB : Addr) (z : List Nat) (n : Nat) (es : List Ent) : D := .obj CB (bf C z n es)
section
variable {C : Addr} {z : List Nat} {n : Nat} {es : List Ent}
theorem lkL : (bf C z n es).lookup ("_letters" : Str) = some (.str (SX.S z)) := rfl
theorem lkD : (bf C z n es).lookup ("_degree" : Str) = some (dgD n es) := by
  unfold bf
  rw [List.lookup_cons, show (("_degree" : Str) == ("_letters" : Str)) = false by decide +kernel]
  rfl
theorem lkA : (bf C z n es).lookup ("_amounts" : Str) = some (.dcT (kvD C es)) := by
  unfold bf
  rw [List.lookup_cons, show (("_amounts" : Str) == ("_letters" : Str)) = false by decide +kernel]
  show List.lookup _ (_ :: _) = _
  rw [List.lookup_cons, show (("_amounts" : Str) == ("_degree" : Str)) = false by decide +kernel]
  rfl
theorem lkN {m : Str} (h1 : (m == ("_letters" : Str)) = false) (h2 : (m == ("_degree" : Str)) = false) (h3 : (m == ("_amounts" : Str)) = false) : (bf C z n es).lookup m = none := by
  unfold bf
  rw [List.lookup_cons, h1, List.lookup_cons, h2, List.lookup_cons, h3]
  rfl
theorem dgD_ne (h : es ≠ []) : dgD n es = .int (n : Int) := by
  unfold dgD
  rw [if_neg (by cases es with
    | nil => exact absurd rfl h
    | cons _ _ => simp)]
end
section
variable {P : Program} {w : World} {K : PySem.W.Frag} {mg : Str → Option Value} {base : Heap} {C CB : Addr}
section
variable {X : Cx} {B : Hp} {S : En} {pos : Pos} {Q : D → Prop} {o : Expr} {z : List Nat} {n : Nat} {es : List Ent}
theorem fL (T : Tb X.K X.mg C CB) (h : ED X B S o fun x => x = Bo C CB z n es ∧ Q (.str (SX.S z))) (hb : attributeBase o "_letters" X.env (eval o X.env) = eval o X.env := by rfl) : ED X B S (.Attribute o "_letters" pos) Q :=
  ed_fld T.nu.cl T.nL (fun σ W H r R c => h σ W H r R fun d v W' H' s ok n' ⟨e, q⟩ => c d v W' H' s ok n' ⟨bf C z n es, _, e, lkL, q⟩) hb
theorem fD (T : Tb X.K X.mg C CB) (h : ED X B S o fun x => x = Bo C CB z n es ∧ Q (dgD n es)) (hb : attributeBase o "_degree" X.env (eval o X.env) = eval o X.env := by rfl) : ED X B S (.Attribute o "_degree" pos) Q :=
  ed_fld T.nu.cl T.nD (fun σ W H r R c => h σ W H r R fun d v W' H' s ok n' ⟨e, q⟩ => c d v W' H' s ok n' ⟨bf C z n es, _, e, lkD, q⟩) hb
theorem fA (T : Tb X.K X.mg C CB) (h : ED X B S o fun x => x = Bo C CB z n es ∧ Q (.dcT (kvD C es))) (hb : attributeBase o "_amounts" X.env (eval o X.env) = eval o X.env := by rfl) : ED X B S (.Attribute o "_amounts" pos) Q :=
  ed_fld T.nu.cl T.nA (fun σ W H r R c => h σ W H r R fun d v W' H' s ok n' ⟨e, q⟩ => c d v W' H' s ok n' ⟨bf C z n es, _, e, lkA, q⟩) hb
end
abbrev spB1 (C CB : Addr) (f : List Nat → Nat → List Ent → D) : SpD := fun as Q => ∃ z n es, as = [.val (Bo C CB z n es)] ∧ Q (f z n es)
theorem sc_letters : FnScope ["self"] ["self"] (defScope (ble 1)) := ⟨rfl, rfl, rfl, by decide +kernel, rfl, by decide +kernel, by decide +kernel⟩
theorem ok_letters {f : Addr} {fd : FuncData} (F : FunS K "letters" "Blend.letters" (ble 1) f fd) (T : Tb K mg C CB) : GnOk P w K mg base 1 f fd ["self"] (lift K (spB1 C CB fun z _ _ => .str (SX.S z))) := by
  refine gn_dl F sc_letters (fun as Q h => by obtain ⟨_, _, _, rfl, _⟩ := h; rfl) (fun cdv A outer s H hr hG W as Q h => ?_)
  obtain ⟨z, n, es, rfl, q⟩ := h
  exact sds_cons (sd_ret (fL T (nm 0 ⟨rfl, q⟩)))
theorem sc_degree : FnScope ["self"] ["self"] (defScope (ble 2)) := ⟨rfl, rfl, rfl, by decide +kernel, rfl, by decide +kernel, by decide +kernel⟩
theorem ok_degree {f : Addr} {fd : FuncData} (F : FunS K "degree" "Blend.degree" (ble 2) f fd) (T : Tb K mg C CB) : GnOk P w K mg base 1 f fd ["self"] (lift K (spB1 C CB fun _ n es => dgD n es)) := by
  refine gn_dl F sc_degree (fun as Q h => by obtain ⟨_, _, _, rfl, _⟩ := h; rfl) (fun cdv A outer s H hr hG W as Q h => ?_)
  obtain ⟨z, n, es, rfl, q⟩ := h
  exact sds_cons (sd_ret (fD T (nm 0 ⟨rfl, q⟩)))
theorem sc_nought : FnScope ["self"] ["self"] (defScope (ble 3)) := ⟨rfl, rfl, rfl, by decide +kernel, rfl, by decide +kernel, by decide +kernel⟩
theorem ok_nought {f : Addr} {fd : FuncData} (F : FunS K "is_nought" "Blend.is_nought" (ble 3) f fd) (T : Tb K mg C CB) : GnOk P w K mg base 1 f fd ["self"] (lift K (spB1 C CB fun _ _ es => .bl es.isEmpty)) := by
  refine gn_dl F sc_nought (fun as Q h => by obtain ⟨_, _, _, rfl, _⟩ := h; rfl) (fun cdv A outer s H hr hG W as Q h => ?_)
  obtain ⟨z, n, es, rfl, q⟩ := h
  refine sds_cons (sd_ret (ed_cmp (fD T (nm 0 ⟨rfl, ed_non (od_isN ?_)⟩))))
  cases es with
  | nil => exact q
  | cons _ _ => exact q
/-! entries -/
abbrev spEnts (C CB : Addr) : SpD := fun as Q => ∃ z n es, as = [.val (Bo C CB z n es)] ∧ (es.map (·.1)).Nodup ∧ es.length ≤ 200 ∧ Q (.lst (enD C es))
theorem sc_entries : FnScope ["self", "counts"] ["self"] (defScope (ble 5)) := ⟨rfl, rfl, rfl, by decide +kernel, rfl, by decide +kernel, by decide +kernel⟩
theorem ok_entries {f : Addr} {fd : FuncData} (F : FunS K "entries" "Blend.entries" (ble 5) f fd) (T : Tb K mg C CB) : GnOk P w K mg base 1 f fd ["self"] (lift K (spEnts C CB)) := by
  refine gn_dl F sc_entries (fun as Q h => by obtain ⟨_, _, _, rfl, _⟩ := h; rfl) (fun cdv A outer s H hr hG W as Q h => ?_)
  obtain ⟨z, n, es, rfl, nde, hl, q⟩ := h
  have nd := sc_entries.nd
  refine sds_cons (sd_ret (ed_fd (fd_lcK (kvs := kvD C es) (fun i acc => acc = enD C (es.take i)) (fun d => itE [some (.val (Bo C CB z n es)), none] [("counts", 1)] 1 d) rfl nd (blkOk_by (by show blkC ["self", "counts"] (defScope (ble 5)) _ _ = true; decide +kernel)) (fun _ _ _ _ _ => pg_name (i := 1) nd rfl (Or.inl rfl)) (fA T (nm 0 ⟨rfl, rfl, by rw [kvD_len]; omega, rfl⟩)) (fun d => pat_name 1 (by simp)) ?_ ?_)))
  · rintro i k d acc hi hacc rfl s2 H0 C2 cl fp
    have hi' : (es.map fun e => (ik e.1, Ra C (fr e.2)))[i]? = some (k, d) := hi
    rw [List.getElem?_map] at hi'
    cases e : es[i]? with
    | none => rw [e] at hi'; cases hi'
    | some x =>
      rw [e] at hi'
      cases hi'
      rw [tD_ik]
      refine ed_tup (ad_cons (nm 1 (ad_cons (ed_dget (un1 hr) (fA T (nm 0 ⟨rfl, nm 1 ⟨_, ik x.1, _, rfl, (tD_ik _).symm, look_kvD nde (List.mem_of_getElem? e), ad_nil ⟨[tI x.1, Ra C (fr x.2)], rfl, by simp, ?_⟩⟩⟩))))))
      rw [enD_snoc e]
  · rintro acc hacc rfl
    rw [kvD_len, List.take_length]
    exact q
/-! == -/
section
variable {X : Cx} {z : List Nat} {n : Nat} {es : List Ent}
theorem rcR_kv (L : Lv X.prog X.w X.K X.mg X.base C) (nde : (es.map (·.1)).Nodup) : RcR X 2 (.dcT (kvD C es)) (.dcT (kvD C es)) := rcR_dct rfl fun k d h => by
  unfold kvD at h
  obtain ⟨e, he, q⟩ := List.mem_map.mp h
  cases q
  exact ⟨_, look_kvD nde he, eqR_Ra L e.2⟩
end
abbrev spBEq (C CB : Addr) : SpD := fun as Q => ∃ z n es, as = [.val (Bo C CB z n es), .val (Bo C CB z n es)] ∧ (es.map (·.1)).Nodup ∧ Q (.bl true)
theorem sc_beq : FnScope ["self", "other"] ["self", "other"] (defScope (ble 10)) := ⟨rfl, rfl, rfl, by decide +kernel, rfl, by decide +kernel, by decide +kernel⟩
theorem ok_beq {f : Addr} {fd : FuncData} (F : FunS K "__eq__" "Blend.__eq__" (ble 10) f fd) (T : Tb K mg C CB) (L : Lv P w K mg base C) : GnOk P w K mg base 4 f fd ["self", "other"] (lift K (spBEq C CB)) := by
  refine gn_dl F sc_beq (fun as Q h => by obtain ⟨_, _, _, rfl, _⟩ := h; rfl) (fun cdv A outer s H hr hG W as Q h => ?_)
  obtain ⟨z, n, es, rfl, nde, q⟩ := h
  refine sds_cons (sd_ret (ed_and (ed_callB T.T.isi (ad_cons (nm 1 (ad_cons (ed_cls T.mB (ad_nil (cd_isi (.obj _ T.is) (.cls _) (same (beq_self_eq_true _)) (kB ?_))))))))))
  show ED _ _ _ _ _
  refine ed_and (ed_cmp (fL T (nm 0 ⟨rfl, fL T (nm 1 ⟨rfl, od_eqs (kB ?_)⟩)⟩)))
  rw [decide_eq_true rfl]
  show ED _ _ _ _ _
  exact ed_one (ed_cmp (fA T (nm 0 ⟨rfl, fA T (nm 1 ⟨rfl, od_eqR (rcR_kv L nde) (hr.mono (j := 2) (by decide)) hG q⟩)⟩)))
/-! check_blend -/
abbrev spCk (C CB : Addr) : SpD := fun as Q => ∃ z n es, as = [.val (Bo C CB z n es)] ∧ Q .non
theorem sc_ck : FnScope ["blend"] ["blend"] (defScope (top 39)) := ⟨rfl, rfl, rfl, by decide +kernel, rfl, by decide +kernel, by decide +kernel⟩
theorem ok_ck {f : Addr} {fd : FuncData} (F : FunS K "check_blend" "check_blend" (top 39) f fd) (T : Tb K mg C CB) : GnOk P w K mg base 1 f fd ["blend"] (lift K (spCk C CB)) := by
  refine gn_dl F sc_ck (fun as Q h => by obtain ⟨_, _, _, rfl, _⟩ := h; rfl) (fun cdv A outer s H hr hG W as Q h => ?_)
  obtain ⟨z, n, es, rfl, q⟩ := h
  refine sds_cons (sd_if (td_not (td_val (ed_callB T.T.isi (ad_cons (nm 0 (ad_cons (ed_cls T.mB (ad_nil (cd_isi (.obj _ T.is) (.cls _) (same (beq_self_eq_true _)) (kB ?_)))))))))))
  exact sds_nil (sds_nil q)
/-! is_list, also of the empty default -/
abbrev spLK (K : PySem.W.Frag) : SpD := fun as Q => ∃ d, as = [.val d] ∧ ((∃ l, d = .lst l ∨ d = .tup l) ∨ ∃ a, d = .cls a ∧ EmpT K a) ∧ Q (.bl true)
theorem ok_islistK {f : Addr} {fd : FuncData} (F : FunS K "is_list" "is_list" sIsList f fd) (T : Txt K mg C) : GnOk P w K mg base 1 f fd ["value"] (lift K (spLK K)) := by
  refine gn_dl F sc_islist (fun as Q h => by obtain ⟨_, rfl, _⟩ := h; rfl) (fun cdv A outer s H hr hG W as Q h => ?_)
  obtain ⟨d, rfl, hd, q⟩ := h
  refine sds_cons (sd_ret (ed_callB T.isi (ad_cons (nm 0 (ad_cons (ed_tup (ad_cons (ed_ty T.list (ad_cons (ed_ty T.tuple (ad_nil ⟨[.ty "list", .ty "tuple"], rfl, by decide, ad_nil ?_⟩)))))))))))
  rcases hd with ⟨l, rfl | rfl⟩ | ⟨a, rfl, em⟩
  · exact cd_isi2 (.lst l) (.ty _) (.ty _) T.l1 q
  · exact cd_isi2 (.tup l) (.ty _) (.ty _) T.l2 q
  · exact cd_isiK em (.ty _) (.ty _) T.l2 q
/-! Blend(letters, entries) -/
def EntD (C : Addr) (b : Nat) (x : D) (e : Ent) : Prop := ∃ kd ad, x = .tup [kd, ad] ∧ SeqD kd (e.1.map D.int) ∧ Nq C b ad e.2
theorem paired_get {α β : Type} {R : α → β → Prop} : ∀ {l : List α} {m : List β} {i : Nat} {x : α}, Paired R l m → l[i]? = some x → ∃ y, m[i]? = some y ∧ R x y
  | _, _, _, _, .nil, e => by simp at e
  | _, _, 0, _, .cons h _, e => by cases e; exact ⟨_, rfl, h⟩
  | _, _, i + 1, _, .cons _ t, e => paired_get (i := i) t e
abbrev spBl (K : PySem.W.Frag) (C : Addr) : SpI := fun as Q => (∃ z, ∃ m n b : Nat, ∃ es xs d0, as = [.val (.str (SX.S z)), .val d0] ∧ SeqD d0 xs ∧ LetZ z ∧ z.length = m ∧ n ≤ 8 ∧ b ≤ 1000 ∧ GE m n b es ∧ Paired (EntD C b) xs es ∧ Q (bf C z n (srt es))) ∨
  (∃ z a, as = [.val (.str (SX.S z)), .val (.cls a)] ∧ LetZ z ∧ EmpT K a ∧ ∀ n, Q (bf C z n []))
theorem cd_tupleS {X : Cx} {Q : D → Prop} {d : D} {l : List D} (sd : SeqD d l) (q : Q (.tup l)) : CD X (.type "tuple") [.val d] Q := by
  rcases sd with rfl | rfl
  · exact cd_tuple q
  · exact cd_tupleT q
abbrev NB : List Str := ["self", "letters", "entries", "amounts", "degree", "position", "entry", "counts"]
theorem sc_binit : FnScope NB ["self", "letters", "entries"] (defScope (ble 0)) := ⟨rfl, rfl, rfl, by decide +kernel, rfl, by decide +kernel, by decide +kernel⟩
theorem dg_take {n : Nat} {es : List Ent} {i : Nat} {e : Ent} (h : es[i]? = some e) : dgD n (es.take (i + 1)) = .int (n : Int) := dgD_ne fun z => by
  rw [List.take_add_one, h] at z
  simp at z
/-- what stands behind the loop -/
theorem binit_end {f : Addr} {cdv : Value} {A : Around} {outer : List Env} {s : Shared} {H B : Hp} {W : Wd} {Q : List (Str × D) → Prop} {p dx : Addr} {z : List Nat} {m n b : Nat} {es : List Ent} {d2 : D} {o5 o6 : Option Sl} (T : Tb K mg C CB)
    (hr : Room 6 (A.deeper (PyProof.Rows.envOfC "Blend.__init__" (defScope (ble 0)) s.heap.objs.size f cdv))) (hz : LetZ z) (hm : z.length = m) (hn : n ≤ 8) (ge : GE m n b es) (n5 : notInst o5 = true) (n6 : notInst o6 = true) (q : Q (bf C z n (srt es))) :
    SDs (Bx P w K mg base NB "Blend.__init__" (ble 0) f cdv A outer s H) B W [some (.inst CB p dx []), some (.val (.str (SX.S z))), some (.val d2), some (.ownT (kvD C es)), some (.val (dgD n es)), o5, o6, none] ((defBody (ble 0)).drop 5) { nx := fun S' => ∃ fs, S'[0]? = some (some (.inst CB p dx fs)) ∧ Q fs, rt := fun _ => False } := by
  have nd := sc_binit.nd
  obtain ⟨tk, me⟩ := T.me
  refine sds_frzT 3 _ rfl ?_
  refine sds_cons (sd_if (td_cmp (ed_callB T.T.len (ad_cons (nm 3 (ad_nil (cd_lenT (ed_gint me (od_gt (kB ?_))))))))))
  rw [decide_eq_false (by rw [kvD_len]; have := ge.ln; omega)]
  refine sds_nil ?_
  refine sds_cons (sd_fld 0 [] T.nu.cl T.nL rfl rfl (by decide) (by simp [notInst, List.all_cons]; exact ⟨n5, n6⟩) (nm 1 ?_))
  refine sds_cons (sd_fld 0 _ T.nu.cl T.nD rfl rfl (by simp [putD]) (by simp [notInst, List.all_cons]; exact ⟨n5, n6⟩) (nm 4 ?_))
  have ed : dgD n es = dgD n (srt es) := by
    unfold dgD
    have : es.isEmpty = (srt es).isEmpty := by
      rw [Bool.eq_iff_iff, List.isEmpty_iff_length_eq_zero, List.isEmpty_iff_length_eq_zero, (srt_perm es).length_eq]
    rw [this]
  have m1 : 1 ≤ m := by rw [← hm]; exact hz.l1
  refine sds_cons (sd_fld 0 _ T.nu.cl T.nA rfl rfl (by simp [putD]; split <;> simp) (by simp [notInst, List.all_cons]; exact ⟨n5, n6⟩) (ed_ft (ft_dcL (l := ((srt es).map (·.1)).map tI) (fun i acc => acc = kvD C ((srt es).take i)) (fun d => itE _ [("counts", 7)] 7 d) rfl (un1 hr) nd (blkOk_by (by show blkC NB (defScope (ble 0)) _ _ = true; decide +kernel)) (fun _ _ _ _ _ => pg_name (i := 7) nd rfl (Or.inl rfl)) (ed_callB T.sorted (ad_cons (nm 3 (ad_nil (cd_sortKb rfl (un100 hr) (dd := m) (B := 9) (ls := es.map (·.1)) m1 kvD_keys (by rw [List.length_map]; have := ge.ln; omega) ?_ ?_))))) (fun d _ => pat_name 7 (by simp)) ?_ ?_)))
  · intro l hl
    obtain ⟨e, he, rfl⟩ := List.mem_map.mp hl
    exact ⟨ge.len e he, ge.bd hn he⟩
  · intro ls' pm pw
    refine ⟨by rw [keys_srt ge hn pm pw], by rw [List.length_map, List.length_map, (srt_perm es).length_eq]; have := ge.ln; omega, rfl⟩
  · rintro i d acc hi rfl s2 H0 C2 cl fp
    rw [List.getElem?_map, List.getElem?_map] at hi
    cases e : (srt es)[i]? with
    | none => rw [e] at hi; cases hi
    | some x =>
      rw [e] at hi
      cases hi
      have mx := (srt_perm es).mem_iff.mp (List.mem_of_getElem? e)
      refine nm 7 ⟨ik x.1, (tD_ik _).symm, fun s3 H3 C3 cl3 fp3 => ed_dget (un1 hr) (nm 3 (nm 7 ⟨_, ik x.1, _, rfl, (tD_ik _).symm, look_kvD ge.nd mx, ?_⟩))⟩
      have fs := fresh (srt_ge ge).nd e
      rw [put_kvD fs, List.take_add_one, e]
      rfl
  · rintro acc rfl
    refine sds_nil ⟨_, rfl, ?_⟩
    rw [List.length_map, List.length_map, List.take_length, ed]
    have e1 : putD "_amounts" (D.dcT (kvD C (srt es))) (putD "_degree" (dgD n (srt es)) (putD "_letters" (D.str (SX.S z)) [])) = bf C z n (srt es) := by
      show putD _ _ (if ("_letters" : Str) = "_degree" then _ else (("_letters" : Str), D.str _) :: [(("_degree" : Str), dgD n (srt es))]) = _
      rw [if_neg (by decide +kernel)]
      show (if ("_letters" : Str) = "_amounts" then _ else (("_letters" : Str), D.str _) :: (if ("_degree" : Str) = "_amounts" then _ else (("_degree" : Str), dgD n (srt es)) :: [(("_amounts" : Str), D.dcT (kvD C (srt es)))])) = _
      rw [if_neg (by decide +kernel), if_neg (by decide +kernel)]
      rfl
    rw [e1]
    exact q
end
end K15

set_option Elab.async false
set_option linter.all false
set_option maxRecDepth 100000
set_option maxHeartbeats 4000000
/-! k15: a Blend made; normal, abnormal -/
namespace K15
open PySem L2 DL
section
variable {P : Program} {w : World} {K : PySem.W.Frag} {mg : Str → Option Value} {base : Heap} {C CB : Addr}
theorem dg_or (n : Nat) (es : List Ent) : dgD n es = .non ∨ dgD n es = .int (n : Int) := by
  unfold dgD
  split
  · exact .inl rfl
  · exact .inr rfl
theorem ok_binit {f : Addr} {fd : FuncData} (F : FunS K "__init__" "Blend.__init__" (ble 0) f fd) (T : Tb K mg C CB) (R : Df P w K mg base "ratio_of" 4 1 (spRat C)) (LE : Df P w K mg base "is_letters" 2 1 spLet) (IL : Df P w K mg base "is_list" 1 1 (spLK K)) (EN : Df P w K mg base "_is_entry" 6 3 (spEntry C)) : GnOk P w K mg base 7 f fd ["self", "letters", "entries"] (liftI K CB (spBl K C)) := by
  refine init_dl F sc_binit (fun as Q h => by rcases h with ⟨_, _, _, _, _, _, _, rfl, _⟩ | ⟨_, _, rfl, _⟩ <;> rfl) (fun cdv A outer s H hr hG W B as Q p dx h => ?_)
  have nd := sc_binit.nd
  rcases h with ⟨z, m, n, b, es, xs, d0, rfl, sd0, hz, hm, hn, hb, ge, pe, q⟩ | ⟨z, a, rfl, hz, em, q⟩
  · refine sds_cons (sd_if (td_not (td_val (ed_call LE (hr.mono (j := 2) (by decide)) hG (ad_cons (nm 1 (ad_nil ⟨z, rfl, hz, kB ?_⟩)))))))
    refine sds_nil (sds_cons (sd_if (td_not (td_val (ed_call IL (hr.mono (j := 1) (by decide)) hG (ad_cons (nm 2 (ad_nil ⟨_, rfl, .inl ⟨xs, sd0⟩, kB ?_⟩))))))))
    refine sds_nil (sds_cons (sd_newT 3 nd rfl (sds_cons (sd_set 4 nd rfl (ed_non ?_)))))
    have lx : xs.length = es.length := Paired.length pe
    have hl : ((SX.S z).length : Int) = (m : Int) := by rw [SX.S_len, hm]
    refine sds_cons (sd_forES (l := xs) sd0 PassesOwn.never rfl T.enum (fun i S' => ∃ o5 o6, notInst o5 = true ∧ notInst o6 = true ∧ S' = [some (.inst CB p dx []), some (.val (.str (SX.S z))), some (.val d0), some (.ownT (kvD C (es.take i))), some (.val (dgD n (es.take i))), o5, o6, none]) (ad_cons (nm 2 (ad_nil ⟨rfl, none, none, rfl, rfl, rfl⟩))) ?_ ?_)
    · rintro i d S' hi ⟨o5, o6, n5, n6, rfl⟩
      obtain ⟨e, he, kd, ad, rfl, sd, na⟩ := paired_get pe hi
      have me := List.mem_of_getElem? he
      have li : i < es.length := (List.getElem?_eq_some_iff.mp he).1
      have fs := fresh ge.nd he
      have ln := ge.ln
      refine gd_tup rfl (gds_cons (gd_name 5 nd rfl (gds_cons (gd_name 6 nd rfl (gds_nil ?_))))) rfl
      refine sds_cons (sd_if (td_of (tw_or (td_not (td_val (ed_call EN (hr.mono (j := 6) (by decide)) hG (ad_cons (nm 6 (ad_cons (ed_callB T.T.len (ad_cons (nm 1 (ad_nil (cd_lenS (z := SX.S z) (by rw [SX.S_len]; have := hz.l8; omega) (ad_cons (nm 4 (ad_nil ⟨kd, e.1, ad, e.2, m, dgD n (es.take i), by rw [hl], sd, ge.len e me, by have := hz.l8; omega, ge.nn e me, by rw [ge.sum e me]; omega, na.mono hb, ge.pos e me, by rw [ge.sum e me]; exact dg_or n (es.take i), kB ?_⟩)))))))))))))))))
      show TW _ _ _ _ _
      refine tw_or1 (td_inT 3 (kvD C (es.take i)) (un1 hr) rfl rfl (ed_callTy T.T.tuple (ad_cons (ed_ix (nm 6 (ed_int ⟨_, 0, kd, .inr rfl, rfl, rfl, ad_nil (cd_tupleS sd ⟨ik e.1, (tD_ik _).symm, ?_⟩)⟩))))))
      rw [look_no fs]
      show SDs _ _ _ _ _ _
      refine sds_nil (sds_cons (sd_putT 3 (kvD C (es.take i)) (un1 hr) rfl rfl (by rw [kvD_len, List.length_take]; omega) (ed_call R (hr.mono (j := 4) (by decide)) hG (ad_cons (ed_ix (nm 6 (ed_int ⟨_, 1, ad, .inr rfl, rfl, rfl, ad_nil ⟨ad, _, rfl, (na.mono (by omega)).nr, ed_callTy T.T.tuple (ad_cons (ed_ix (nm 6 (ed_int ⟨_, 0, kd, .inr rfl, rfl, rfl, ad_nil (cd_tupleS sd ⟨ik e.1, (tD_ik _).symm, ?_⟩)⟩))))⟩⟩)))))))
      refine sds_cons (sd_set 4 nd rfl (ed_callB T.sum (ad_cons (ed_ix (nm 6 (ed_int ⟨_, 0, kd, .inr rfl, rfl, rfl, ad_nil (cd_sumS rfl sd ?_)⟩))))))
      refine sds_nil ⟨some (.val (.int (i : Int))), some (.val (.tup [kd, ad])), rfl, rfl, ?_⟩
      rw [put_kvD fs, dg_take he, ge.sum e me, List.take_add_one, he]
      rfl
    · rintro S' ⟨o5, o6, n5, n6, rfl⟩
      rw [lx, List.take_length]
      exact binit_end T hr hz hm hn ge n5 n6 q
  · refine sds_cons (sd_if (td_not (td_val (ed_call LE (hr.mono (j := 2) (by decide)) hG (ad_cons (nm 1 (ad_nil ⟨z, rfl, hz, kB ?_⟩)))))))
    refine sds_nil (sds_cons (sd_if (td_not (td_val (ed_call IL (hr.mono (j := 1) (by decide)) hG (ad_cons (nm 2 (ad_nil ⟨_, rfl, .inr ⟨a, rfl, em⟩, kB ?_⟩))))))))
    refine sds_nil (sds_cons (sd_newT 3 nd rfl (sds_cons (sd_set 4 nd rfl (ed_non ?_)))))
    refine sds_cons (sd_forEnK em PassesOwn.never rfl T.enum (ad_cons (nm 2 (ad_nil ⟨rfl, ?_⟩))))
    exact binit_end (es := []) (n := 0) (b := 0) T hr hz rfl (by decide) GE.nil rfl rfl (by rw [srt_nil]; exact q 0)
structure Bt (P : Program) (w : World) (K : PySem.W.Frag) (mg : Str → Option Value) (base : Heap) (C CB : Addr) : Prop where
  T : Tb K mg C CB
  L : Lv P w K mg base C
  mkA : Kl P w K mg base "Blend" CB 7 [] (spBl K C)
  mk0 : ∃ a, EmpT K a ∧ Kl P w K mg base "Blend" CB 7 [.cls a] (spBl K C)
  letters : Pr P w K mg base CB "letters" 1 (spB1 C CB fun z _ _ => .str (SX.S z))
  degree : Pr P w K mg base CB "degree" 1 (spB1 C CB fun _ n es => dgD n es)
  nought : Pr P w K mg base CB "is_nought" 1 (spB1 C CB fun _ _ es => .bl es.isEmpty)
  entries : Mt P w K mg base CB "entries" 1 (spEnts C CB)
  beq : Sm P w K mg base CB "__eq__" 4 (spBEq C CB)
  ck : Df P w K mg base "check_blend" 1 1 (spCk C CB)
section
variable {X : Cx} {B : Hp} {S : En} {pos apos : Pos} {Q : D → Prop} {o : Expr} {z : List Nat} {n m b : Nat} {es : List Ent}
theorem pL (V : Bt X.prog X.w X.K X.mg X.base C CB) (hr : Room 2 X.A) (hG : X.A.guards = some (gOf X)) (h : ED X B S o fun x => x = Bo C CB z n es ∧ Q (.str (SX.S z))) (hb : attributeBase o "letters" X.env (eval o X.env) = eval o X.env := by rfl) : ED X B S (.Attribute o "letters" pos) Q :=
  ed_prop V.T.nu.cl V.letters hr hG (fun σ W H r R c => h σ W H r R fun d v W' H' s ok n' ⟨e, q⟩ => c d v W' H' s ok n' ⟨bf C z n es, e, z, n, es, by rw [e], q⟩) hb
theorem pD (V : Bt X.prog X.w X.K X.mg X.base C CB) (hr : Room 2 X.A) (hG : X.A.guards = some (gOf X)) (h : ED X B S o fun x => x = Bo C CB z n es ∧ Q (dgD n es)) (hb : attributeBase o "degree" X.env (eval o X.env) = eval o X.env := by rfl) : ED X B S (.Attribute o "degree" pos) Q :=
  ed_prop V.T.nu.cl V.degree hr hG (fun σ W H r R c => h σ W H r R fun d v W' H' s ok n' ⟨e, q⟩ => c d v W' H' s ok n' ⟨bf C z n es, e, z, n, es, by rw [e], q⟩) hb
theorem pN (V : Bt X.prog X.w X.K X.mg X.base C CB) (hr : Room 2 X.A) (hG : X.A.guards = some (gOf X)) (h : ED X B S o fun x => x = Bo C CB z n es ∧ Q (.bl es.isEmpty)) (hb : attributeBase o "is_nought" X.env (eval o X.env) = eval o X.env := by rfl) : ED X B S (.Attribute o "is_nought" pos) Q :=
  ed_prop V.T.nu.cl V.nought hr hG (fun σ W H r R c => h σ W H r R fun d v W' H' s ok n' ⟨e, q⟩ => c d v W' H' s ok n' ⟨bf C z n es, e, z, n, es, by rw [e], q⟩) hb
theorem mE {pl : Sem Bool} (V : Bt X.prog X.w X.K X.mg X.base C CB) (ge : GE m n b es) (hr : Room 1 X.A) (hG : X.A.guards = some (gOf X)) (h : ED X B S o fun x => x = Bo C CB z n es ∧ Q (.lst (enD C es)))
    (ht : eval (.Call (.Attribute o "entries" apos) [] [] pos) X.env = (do
      let ov ← eval o X.env
      standAt apos.atName
      let (f, first) ← holding [ov] (getMethod ov "entries" pl)
      callWith pos f first (backTo pos (starEach [] X.env)) (backToKw pos (keywordEach [] X.env))) := by rfl) : ED X B S (.Call (.Attribute o "entries" apos) [] [] pos) Q :=
  ed_meth0 V.T.nu.cl V.entries hr hG (fun σ W H r R c => h σ W H r R fun d v W' H' s ok n' ⟨e, q⟩ => c d v W' H' s ok n' ⟨bf C z n es, e, lkN (by decide +kernel) (by decide +kernel) (by decide +kernel), z, n, es, by rw [e], ge.nd, ge.ln, q⟩) ht
end
theorem pe_en {b : Nat} : ∀ {es : List Ent}, (∀ e ∈ es, Bq b e.2) → Paired (EntD C b) (enD C es) es
  | [], _ => .nil
  | e :: es, h => .cons ⟨tI e.1, Ra C (fr e.2), rfl, .inr rfl, .rat _ (h e (List.mem_cons_self ..))⟩ (pe_en fun e he => h e (List.mem_cons_of_mem _ he))
theorem out_en {g : Ent → Ent} : ∀ {es : List Ent} {out : List D}, Paired (fun e y => y = D.tup [tI (g e).1, Ra C (fr (g e).2)]) es out → out = enD C (es.map g)
  | _, _, .nil => rfl
  | _, _, .cons h t => by rw [h, out_en t]; rfl
/-- [elt for x, y in entries] -/
theorem fd_relE {X : Cx} {B : Hp} {S : En} {pos : Pos} {elt iter : Expr} {x y : Str} {px py tpos : Pos} {kk : Nat} {scope : Scope} {own : List (Str × Nat)} {es : List Ent} {Q : List D → Prop} (G : Ent → D → Prop) (i j : Nat) (hc : X.calm = true) (hN : X.N.Nodup) (ok : BlkOk X.N X.env.scope scope own)
    (hg : AllBlk X scope fun Y => PG Y (.Tuple [.Name x px, .Name y py] kk tpos) (gTup X.K 2 (gCons (gName i) (gCons (gName j) gNil)))) (hl : es.length ≤ 50000) (hit : ED X B S iter fun d => d = .lst (enD C es)) (hi : i ∈ own.map (·.2)) (hj : j ∈ own.map (·.2))
    (he : ∀ e ∈ es, AllBlk X scope fun Y => ED Y B ((itE S own i (tI e.1)).set j (some (.val (Ra C (fr e.2))))) elt (G e)) (hd : ∀ out, Paired G es out → Q out) (hs : ∀ x, foldedSetIterable iter X.env x = pure x := by intro _; rfl) : FD X B S (.ListComp elt [⟨.Tuple [.Name x px, .Name y py] kk tpos, iter, [], 0⟩] scope pos) Q := by
  refine fd_lcL (l := enD C es) (fun n acc => Paired G (es.take n) acc) (fun d => match d with | .tup [a, b] => (itE S own i a).set j (some (.val b)) | _ => S) hc hN ok hg (fun σ W H r R k => hit σ W H r R fun d v W' H' s ok n q => k d v W' H' s ok n ⟨q, by rw [enD_len]; exact hl, .nil⟩) ?_ ?_ ?_ hs
  · intro d hd
    obtain ⟨e, he, rfl⟩ := List.mem_map.mp (show d ∈ es.map _ from hd)
    exact pat_two i j hi hj
  · intro n d acc hn ha hp s2 H0 C2 cl fp
    obtain ⟨e, hee, rfl⟩ := enD_get hn
    intro σ W H r R k
    refine he e (List.mem_of_getElem? hee) s2 H0 C2 cl fp σ W H r R fun y v W' H' st ok n' q => k y v W' H' st ok n' ?_
    rw [List.take_add_one, hee]
    exact Paired.snoc q hp
  · intro acc ha hp
    rw [enD_len, List.take_length] at hp
    exact hd acc hp
structure Okb (z : List Nat) (m n b : Nat) (es : List Ent) : Prop where
  hz : LetZ z
  hm : z.length = m
  hn : n ≤ 8
  hb : b ≤ 800
  ge : GE m n b es
  so : srt es = es
abbrev spNorm (C CB : Addr) (g : Ent → Ent) : SpD := fun as Q => ∃ z, ∃ m n b : Nat, ∃ es, as = [.val (Bo C CB z n es)] ∧ Okb z m n b es ∧ Q (Bo C CB z n (es.map g))
theorem Okb.m8 {z : List Nat} {m n b : Nat} {es : List Ent} (h : Okb z m n b es) : m ≤ 8 := by rw [← h.hm]; exact h.hz.l8
end
end K15

set_option Elab.async false
set_option linter.all false
set_option maxRecDepth 100000
set_option maxHeartbeats 4000000
/-! k15: amount, +, scaled -/
namespace K15
open PySem L2 DL
section
variable {P : Program} {w : World} {K : PySem.W.Frag} {mg : Str → Option Value} {base : Heap} {C CB : Addr}
/-! the amount at a key -/
def amt (es : List Ent) (k : List Int) : Rat := ((es.find? fun e => decide (e.1 = k)).map (·.2)).getD 0
abbrev spAmount (C CB : Addr) : SpD := fun as Q => ∃ z n es kd, ∃ k : List Int, as = [.val (Bo C CB z n es), .val kd] ∧ SeqD kd (k.map D.int) ∧ k.length = z.length ∧ z.length ≤ 8 ∧ (∀ c ∈ k, (0 : Int) ≤ c) ∧ Q (Ra C (fr (amt es k)))
/-! gathered, keys more than once -/
def insE (acc : List Ent) (p : Ent) : List Ent := if p.1 ∈ acc.map (·.1) then acc.map (fun e => if e.1 = p.1 then (e.1, e.2 + p.2) else e) else acc ++ [p]
def gath (ps : List Ent) : List Ent := ps.foldl insE []
theorem insE_keys {acc : List Ent} {p : Ent} : (insE acc p).map (·.1) = if p.1 ∈ acc.map (·.1) then acc.map (·.1) else acc.map (·.1) ++ [p.1] := by
  unfold insE
  split
  · rw [List.map_map]
    refine List.map_congr_left fun e _ => ?_
    show (if e.1 = p.1 then (e.1, e.2 + p.2) else e).1 = e.1
    split <;> rfl
  · rw [List.map_append]; rfl
theorem insE_nd {acc : List Ent} {p : Ent} (h : (acc.map (·.1)).Nodup) : ((insE acc p).map (·.1)).Nodup := by
  rw [insE_keys]
  split
  · exact h
  · rename_i c
    rw [List.nodup_append]
    exact ⟨h, by simp, fun a ha b hb z => by rw [List.mem_singleton] at hb; rw [z, hb] at ha; exact c ha⟩
theorem insE_len {acc : List Ent} {p : Ent} : (insE acc p).length ≤ acc.length + 1 := by
  unfold insE
  split
  · rw [List.length_map]; omega
  · rw [List.length_append, List.length_singleton]; omega
theorem gath_snoc {ps : List Ent} {i : Nat} {p : Ent} (h : ps[i]? = some p) : gath (ps.take (i + 1)) = insE (gath (ps.take i)) p := by
  unfold gath
  rw [List.take_add_one, h, List.foldl_append]
  rfl
theorem gath_nd : ∀ {ps : List Ent} (i : Nat), ((gath (ps.take i)).map (·.1)).Nodup ∧ (gath (ps.take i)).length ≤ i
  | ps, 0 => by rw [List.take_zero]; exact ⟨.nil, Nat.le_refl _⟩
  | ps, i + 1 => by
    obtain ⟨h1, h2⟩ := gath_nd (ps := ps) i
    cases e : ps[i]? with
    | none =>
      have l := List.getElem?_eq_none_iff.mp e
      have z : ps.take (i + 1) = ps.take i := by rw [List.take_of_length_le (by omega : ps.length ≤ i + 1), List.take_of_length_le l]
      rw [z]
      exact ⟨h1, by omega⟩
    | some p =>
      rw [gath_snoc e]
      exact ⟨insE_nd h1, Nat.le_trans insE_len (by omega)⟩
abbrev spGathG (C : Addr) : SpD := fun as Q => ∃ ps : List Ent, as = [.val (.lst (enD C ps))] ∧ ps.length ≤ 4000 ∧ (∀ e ∈ ps, Bq 3000 e.2) ∧ (∀ i, ∀ e ∈ gath (ps.take i), Bq 3000 e.2) ∧ Q (.lst (enD C (gath ps)))
theorem put_ins {acc : List Ent} {k : List Int} {r : Rat} {x : Ent} (nd : (acc.map (·.1)).Nodup) (hx : x ∈ acc) (hk : x.1 = k) : putE (kvD C acc) (ik k) (Ra C (fr (x.2 + r))) = kvD C (insE acc (k, r)) := by
  have hm : k ∈ acc.map (·.1) := by rw [← hk]; exact List.mem_map_of_mem hx
  unfold putE insE
  have h : DL.has (kvD C acc) (ik k) = true := by
    unfold DL.has
    rw [List.any_eq_true]
    exact ⟨(ik x.1, Ra C (fr x.2)), List.mem_map_of_mem hx, decide_eq_true (by rw [hk])⟩
  rw [if_pos h, if_pos hm]
  unfold kvD
  rw [List.map_map, List.map_map]
  refine List.map_congr_left fun e he => ?_
  show (if ik e.1 = ik k then (ik e.1, Ra C (fr (x.2 + r))) else (ik e.1, Ra C (fr e.2))) = (fun e : Ent => (ik e.1, Ra C (fr e.2))) (if e.1 = k then (e.1, e.2 + r) else e)
  by_cases y : e.1 = k
  · rw [if_pos (by rw [y]), if_pos y, nd_inj nd he hx (by rw [y, hk])]
  · rw [if_neg (fun z => y (ik_inj z)), if_neg y]
theorem ok_gathG {f : Addr} {fd : FuncData} (F : FunS K "gathered" "gathered" (top 35) f fd) (L : Lv P w K mg base C) : GnOk P w K mg base 7 f fd ["pairs"] (lift K (spGathG C)) := by
  refine gn_dl F sc_gath (fun as Q h => by obtain ⟨_, rfl, _⟩ := h; rfl) (fun cdv A outer s H hr hG W as Q h => ?_)
  obtain ⟨ps, rfl, hl, bp, bg, q⟩ := h
  have nd := sc_gath.nd
  refine sds_cons (sd_newT 1 nd rfl ?_)
  refine sds_cons (sd_forL (l := enD C ps) PassesOwn.never rfl (fun i S' => ∃ o2 o3, S' = [some (.val (.lst (enD C ps))), some (.ownT (kvD C (gath (ps.take i)))), o2, o3]) (nm 0 ⟨rfl, none, none, rfl⟩) ?_ ?_)
  · rintro i d S' hi ⟨o2, o3, rfl⟩
    obtain ⟨e, he, rfl⟩ := enD_get hi
    obtain ⟨gn, gl⟩ := gath_nd (ps := ps) i
    have li : i < ps.length := (List.getElem?_eq_some_iff.mp he).1
    refine gd_tup rfl (gds_cons (gd_name 2 nd rfl (gds_cons (gd_name 3 nd rfl (gds_nil ?_))))) rfl
    refine sds_cons (sd_putT 1 (kvD C (gath (ps.take i))) (un1 hr) rfl rfl (by rw [kvD_len]; omega) (ed_ifx (td_inT 1 (kvD C (gath (ps.take i))) (un1 hr) rfl rfl (nm 2 ⟨ik e.1, (tD_ik _).symm, ?_⟩))))
    by_cases c : e.1 ∈ (gath (ps.take i)).map (·.1)
    · obtain ⟨x, hx, ex⟩ := List.mem_map.mp c
      have lk := look_kvD (C := C) gn hx
      rw [ex] at lk
      rw [lk]
      show ED _ _ _ _ _
      refine ed_bin (ed_getT 1 (kvD C (gath (ps.take i))) (un1 hr) rfl rfl (nm 2 ⟨ik e.1, _, (tD_ik _).symm, lk, nm 3 (od_addQ L (hr.mono (j := 6) (by decide)) hG (bg i x hx) (.rat _ (bp e (List.mem_of_getElem? he))) (nm 2 ⟨ik e.1, (tD_ik _).symm, sds_nil ⟨some (Sl.val (tI e.1)), some (Sl.val (Ra C (fr e.2))), ?_⟩⟩))⟩))
      rw [put_ins gn hx ex, gath_snoc he]
      rfl
    · rw [look_no c]
      show ED _ _ _ _ _
      refine nm 3 (nm 2 ⟨ik e.1, (tD_ik _).symm, sds_nil ⟨some (Sl.val (tI e.1)), some (Sl.val (Ra C (fr e.2))), ?_⟩⟩)
      rw [put_kvD c, gath_snoc he]
      unfold insE
      rw [if_neg c]
      rfl
  · rintro S' ⟨o2, o3, rfl⟩
    rw [enD_len, List.take_length]
    have gn := (gath_nd (ps := ps) ps.length).1
    have gl := (gath_nd (ps := ps) ps.length).2
    rw [List.take_length] at gn gl
    refine sds_frzT 1 _ rfl ?_
    refine sds_cons (sd_ret (ed_fd (fd_lcK (kvs := kvD C (gath ps)) (fun i acc => acc = enD C ((gath ps).take i)) (fun d => itE [some (.val (.lst (enD C ps))), some (.val (.dcT (kvD C (gath ps)))), o2, o3] [("counts", 2)] 2 d) rfl nd (blkOk_by (by show blkC ["pairs", "amounts", "counts", "amount"] (defScope (top 35)) _ _ = true; decide +kernel)) (fun _ _ _ _ _ => pg_name (i := 2) nd rfl (Or.inl rfl)) (nm 1 ⟨rfl, by rw [kvD_len]; omega, rfl⟩) (fun d => pat_name 2 (by simp)) ?_ ?_)))
    · rintro i k d acc hi hacc rfl s2 H0 C2 cl fp
      have hi' : ((gath ps).map fun e => (ik e.1, Ra C (fr e.2)))[i]? = some (k, d) := hi
      rw [List.getElem?_map] at hi'
      cases e : (gath ps)[i]? with
      | none => rw [e] at hi'; cases hi'
      | some x =>
        rw [e] at hi'
        cases hi'
        rw [tD_ik]
        refine ed_tup (ad_cons (nm 2 (ad_cons (ed_dget (un1 hr) (nm 1 (nm 2 ⟨_, ik x.1, _, rfl, (tD_ik _).symm, look_kvD gn (List.mem_of_getElem? e), ad_nil ⟨[tI x.1, Ra C (fr x.2)], rfl, by simp, ?_⟩⟩))))))
        rw [enD_snoc e]
    · rintro acc hacc rfl
      rw [kvD_len, List.take_length]
      exact q
/-! + -/
abbrev spBAdd (C CB : Addr) : SpD := fun as Q => ∃ z, ∃ m n n2 n3 b : Nat, ∃ es fs, as = [.val (Bo C CB z n es), .val (Bo C CB z n2 fs)] ∧ LetZ z ∧ z.length = m ∧ n3 ≤ 8 ∧ b ≤ 1000 ∧ GE m n b es ∧ GE m n2 b fs ∧ (es = [] ∨ fs = [] ∨ n = n2) ∧ (∀ i, ∀ e ∈ gath ((es ++ fs).take i), Bq 3000 e.2) ∧ GE m n3 b (gath (es ++ fs)) ∧ Q (Bo C CB z n3 (srt (gath (es ++ fs))))
theorem sc_badd : FnScope ["self", "other", "alike"] ["self", "other"] (defScope (ble 7)) := ⟨rfl, rfl, rfl, by decide +kernel, rfl, by decide +kernel, by decide +kernel⟩
theorem ok_badd {f : Addr} {fd : FuncData} (F : FunS K "__add__" "Blend.__add__" (ble 7) f fd) (V : Bt P w K mg base C CB) (GA : Df P w K mg base "gathered" 7 1 (spGathG C)) : GnOk P w K mg base 9 f fd ["self", "other"] (lift K (spBAdd C CB)) := by
  refine gn_dl F sc_badd (fun as Q h => by obtain ⟨_, _, _, _, _, _, _, _, rfl, _⟩ := h; rfl) (fun cdv A outer s H hr hG W as Q h => ?_)
  obtain ⟨z, m, n, n2, n3, b, es, fs, rfl, hz, hm, hn, hb, ge, gf, al, bg, gg, q⟩ := h
  have nd := sc_badd.nd
  have T := V.T
  have l1 := ge.ln
  have l2 := gf.ln
  refine sds_cons (sd_if (td_not (td_val (ed_callB T.T.isi (ad_cons (nm 1 (ad_cons (ed_cls T.mB (ad_nil (cd_isi (.obj _ T.is) (.cls _) (same (beq_self_eq_true _)) (kB ?_)))))))))))
  refine sds_nil ?_
  have fin : SDs (Bx P w K mg base ["self", "other", "alike"] "Blend.__add__" (ble 7) f cdv A outer s H) H W [some (.val (Bo C CB z n es)), some (.val (Bo C CB z n2 fs)), some (.val (.bl true))] ((defBody (ble 7)).drop 2) { nx := fun _ => Q .non, rt := Q } := by
    refine sds_cons (sd_if (td_of (tw_or (td_cmp (pL V (hr.mono (j := 2) (by decide)) hG (nm 0 ⟨rfl, pL V (hr.mono (j := 2) (by decide)) hG (nm 1 ⟨rfl, od_nes (kB ?_)⟩)⟩))))))
    rw [decide_eq_true rfl]
    show TW _ _ _ _ _
    refine tw_or1 (td_not (td_val (nm 2 (kB ?_))))
    show SDs _ _ _ _ _ _
    refine sds_nil (sds_cons (sd_ret (ed_makeA V.mkA (hr.mono (j := 8) (by decide)) hG (ad_cons (pL V (hr.mono (j := 2) (by decide)) hG (nm 0 ⟨rfl, ad_cons (ed_call GA (hr.mono (j := 7) (by decide)) hG (ad_cons (ed_bin (mE V ge (hr.mono (j := 1) (by decide)) hG (nm 0 ⟨rfl, mE V gf (hr.mono (j := 1) (by decide)) hG (nm 1 ⟨rfl, od_catL (by rw [enD_len, enD_len]; omega) (ad_nil ⟨es ++ fs, by rw [enD_app], by rw [List.length_append]; omega, ?_, bg, ad_nil (.inl ⟨z, m, n3, b, gath (es ++ fs), _, _, rfl, .inl rfl, hz, hm, hn, hb, gg, pe_en gg.bq, q⟩)⟩)⟩)⟩)))))⟩))))))
    intro e he
    rcases List.mem_append.mp he with y | y
    · exact (ge.bq e y).le (by omega)
    · exact (gf.bq e y).le (by omega)
  refine sds_cons (sd_set 2 nd rfl (ed_or (pN V (hr.mono (j := 2) (by decide)) hG (nm 0 ⟨rfl, kB ?_⟩))))
  cases c : es.isEmpty with
  | true => exact fin
  | false =>
    show ED _ _ _ _ _
    refine ed_or (pN V (hr.mono (j := 2) (by decide)) hG (nm 1 ⟨rfl, kB ?_⟩))
    cases c2 : fs.isEmpty with
    | true => exact fin
    | false =>
      show ED _ _ _ _ _
      have ne : es ≠ [] := fun y => by rw [y] at c; cases c
      have nf : fs ≠ [] := fun y => by rw [y] at c2; cases c2
      have e : n = n2 := by
        rcases al with y | y | y
        · exact absurd y ne
        · exact absurd y nf
        · exact y
      subst e
      refine ed_one (ed_cmp (pD V (hr.mono (j := 2) (by decide)) hG (nm 0 ⟨rfl, pD V (hr.mono (j := 2) (by decide)) hG (nm 1 ⟨rfl, ?_⟩)⟩)))
      rw [dgD_ne ne, dgD_ne nf]
      refine od_eqi ?_
      rw [decide_eq_true rfl]
      exact fin
/-! scaled -/
def scE (r : Rat) (e : Ent) : Ent := (e.1, e.2 * r)
abbrev spScaled (C CB : Addr) : SpD := fun as Q => ∃ z, ∃ m n b c : Nat, ∃ es x r, as = [.val (Bo C CB z n es), .val x] ∧ Okb z m n b es ∧ Nq C c x r ∧ 0 < r ∧ b + c ≤ 800 ∧ Q (Bo C CB z n (es.map (scE r)))
theorem sc_scaled : FnScope ["self", "number", "counts", "amount"] ["self", "number"] (defScope (ble 9)) := ⟨rfl, rfl, rfl, by decide +kernel, rfl, by decide +kernel, by decide +kernel⟩
theorem ok_scaled {f : Addr} {fd : FuncData} (F : FunS K "scaled" "Blend.scaled" (ble 9) f fd) (V : Bt P w K mg base C CB) (AB : Df P w K mg base "is_above" 5 1 (spAbove C)) : GnOk P w K mg base 9 f fd ["self", "number"] (lift K (spScaled C CB)) := by
  refine gn_dl F sc_scaled (fun as Q h => by obtain ⟨_, _, _, _, _, _, _, _, rfl, _⟩ := h; rfl) (fun cdv A outer s H hr hG W as Q h => ?_)
  obtain ⟨z, m, n, b, c, es, x, r, rfl, o, nx, r0, hb, q⟩ := h
  have nd := sc_scaled.nd
  have ge := o.ge
  have n8 := o.hn
  refine sds_cons (sd_if (td_not (td_val (ed_call AB (hr.mono (j := 5) (by decide)) hG (ad_cons (nm 1 (ad_nil ⟨x, r, rfl, nx.mono (by omega), r0, kB ?_⟩)))))))
  refine sds_nil (sds_cons (sd_ret (ed_makeA V.mkA (hr.mono (j := 8) (by decide)) hG (ad_cons (fL V.T (nm 0 ⟨rfl, ad_cons (ed_fd (fd_relE (C := C) (es := es) (fun e y => y = D.tup [tI (scE r e).1, Ra C (fr (scE r e).2)]) 2 3 (own := [("counts", 2), ("amount", 3)]) rfl nd (blkOk_by (by show blkC ["self", "number", "counts", "amount"] (defScope (ble 9)) _ _ = true; decide +kernel)) (fun _ _ _ _ _ => pg_tup rfl (pgs_cons (pg_name (i := 2) nd rfl (Or.inl rfl)) (pgs_cons (pg_name (i := 3) nd rfl (Or.inl rfl)) pgs_nil rfl) rfl)) (by have := ge.ln; omega) (mE V ge (hr.mono (j := 1) (by decide)) hG (nm 0 ⟨rfl, rfl⟩)) (by simp) (by simp) ?_ ?_))⟩))))))
  · intro e he s2 H0 C2 cl fp
    exact ed_tup (ad_cons (nm 2 (ad_cons (ed_bin (nm 3 (nm 1 (od_mulR V.L (hr.mono (j := 6) (by decide)) hG ((ge.bq e he).le (by have := o.hb; omega)) (nx.mono (by omega)) (ad_nil ⟨[tI (scE r e).1, Ra C (fr (scE r e).2)], rfl, by simp, rfl⟩))))))))
  · intro out ho
    rw [out_en ho]
    have gd : GE m n (b + c) (es.map (scE r)) := ge.keyed (scE r) (fun _ => rfl) (fun e he => Rat.mul_pos (ge.pos e he) r0) fun e he => (ge.bq e he).mul nx.b
    refine ad_nil (.inl ⟨z, m, n, b + c, es.map (scE r), _, _, rfl, .inl rfl, o.hz, o.hm, n8, by omega, gd, pe_en gd.bq, ?_⟩)
    have e := srt_map ge n8 (scE r) (fun _ => rfl) gd
    rw [o.so] at e
    rw [← e]
    exact q
end
end K15

set_option Elab.async false
set_option linter.all false
set_option maxRecDepth 100000
set_option maxHeartbeats 8000000
/-! k15: what the law draws; its own fractions -/
namespace K15
open PySem L2 DL
section
variable {X : Cx} {B : Hp} {W0 : Wd} {S : En} {st : Stmt} {E : Ends'}
theorem sd_mid (QS : En → Prop) (k : ∀ S', QS S' → E.nx S') (h : SD X B W0 S st { E with nx := QS }) : SD X B W0 S st E := fun σ W H r z D' q => h σ W H r z D' ⟨fun S' σ' W' H' r' z' x' y => q.nx S' σ' W' H' r' z' x' (k S' y), q.rt, q.bk, q.ct⟩
end
section
variable {P : Program} {w : World} {K : PySem.W.Frag} {mg : Str → Option Value} {base : Heap} {C : Addr}
abbrev spPot : SpN := fun as Q => ∃ ns, ∃ k : Nat, as = [.val (.frl ns), .val (.int (k : Int))] ∧ k < 100 ∧ ∀ a b : Int, 0 ≤ b ∧ b < 2 ^ 31 → Q [.int a, .int b]
theorem sc_pot : FnScope ["_law_script", "_law_k", "_law_cell"] ["_law_script", "_law_k"] (defScope (top 57)) := ⟨rfl, rfl, rfl, by decide +kernel, rfl, by decide +kernel, by decide +kernel⟩
theorem ok_pot {f : Addr} {fd : FuncData} (F : FunS K "_law_pot" "_law_pot" (top 57) f fd) (T : Txt K mg C) : GnOk P w K mg base 1 f fd ["_law_script", "_law_k"] (liftN K spPot) := by
  refine gn_new F sc_pot (fun as Q h => by obtain ⟨_, _, rfl, _⟩ := h; rfl) (fun cdv A outer s H hr hG W as Q h => ?_)
  obtain ⟨ns, k, rfl, hk, q⟩ := h
  have nd := sc_pot.nd
  refine sn_cons (sd_set 2 nd rfl (ed_bin (ed_bin (ed_int (nm 1 (od_mulS (.inl (by decide)) (ed_int (od_add ?_))))))))
  refine sn_cons (sd_mid (fun S' => ∃ z : Int, S' = [some (.val (.frl ns)), some (.val (.int (k : Int))), some (.val (.int z))]) ?_ (sd_if (td_cmp (nm 1 (ed_callB T.len (ad_cons (nm 0 (ad_nil (cd_lenF (od_lt (kB ?_)))))))))))
  · rintro S' ⟨z, rfl⟩
    refine sn_ret (fd_lst ?_)
    refine ad_cons (ed_callB T.max (ad_cons (ed_int (ad_cons (ed_bin (nm 2 (ed_bin (ed_int (ed_int (od_pow ⟨by decide, by decide, by decide⟩ (od_sub (ad_nil (cd_max rfl ?_)))))))))))))
    refine ad_cons (ed_bin (ed_bin ?_))
    refine ed_bin (ed_callTy T.int (ad_cons (ed_bin (ed_bin ?_))))
    refine ed_callTy T.int (ad_cons (nm 2 (ad_nil (cd_int (ed_int (od_mod (by decide) (ed_int (od_add (ad_nil (cd_int ?_))))))))))
    refine ed_bin (ed_bin (ed_bin (ed_int (nm 1 (od_mulS (.inl (by decide)) (ed_int (od_add ?_)))))))
    refine ed_int (od_pow ⟨by decide, by decide, by omega⟩ (od_mulS (.inl ?_) (ed_int (od_mod (by decide) (ed_int (od_add (ad_nil ⟨[.int _, .int _], rfl, by simp, q _ _ ?_⟩)))))))
    · omega
    · constructor <;> omega
  · by_cases c : k < ns.length
    · rw [decide_eq_true (by omega)]
      show SDs _ _ _ _ _ _
      exact sds_cons (sd_set 2 nd rfl (ed_callB T.abs (ad_cons (ed_ixF (nm 0 (nm 1 ⟨_, k, ns[k], rfl, rfl, List.getElem?_eq_getElem c, ad_nil (cd_abs (sds_nil ⟨_, rfl⟩))⟩))))))
    · rw [decide_eq_false (by omega)]
      show SDs _ _ _ _ _ _
      exact sds_nil ⟨_, rfl⟩
theorem sc_draw : FnScope ["_law_pot_here", "_law_size", "_law_digit"] ["_law_pot_here", "_law_size"] (defScope (top 58)) := ⟨rfl, rfl, rfl, by decide +kernel, rfl, by decide +kernel, by decide +kernel⟩
abbrev spDraw : SpD := fun as Q => ∃ n : Int, as = [.pot, .val (.int n)] ∧ 0 < n ∧ n < 1073741824 ∧ ∀ d : Nat, (d : Int) < n → Q (.int (d : Int))
theorem small_mul {a b : Int} (h : 0 ≤ a ∧ a < 2 ^ 31) (k : 0 ≤ b ∧ b < 2 ^ 31) : (-(2 ^ 64) < a ∧ a < 2 ^ 64) ∨ (-(2 ^ 64) < b ∧ b < 2 ^ 64) := .inl (by omega)
theorem ok_draw {f : Addr} {fd : FuncData} (F : FunS K "_law_draw" "_law_draw" (top 58) f fd) (T : Txt K mg C) : GnOk P w K mg base 1 f fd ["_law_pot_here", "_law_size"] (lift K spDraw) := by
  refine gn_dl F sc_draw (fun as Q h => by obtain ⟨n, rfl, _⟩ := h; rfl) (fun cdv A outer s H hr hG W as Q h => ?_)
  obtain ⟨n, rfl, h0, h1, q'⟩ := h
  have q : ∀ d : Int, 0 ≤ d → d < n → Q (.int d) := fun d d0 d1 => by
    have := q' d.toNat (by rw [Int.toNat_of_nonneg d0]; exact d1)
    rw [Int.toNat_of_nonneg d0] at this
    exact this
  have nd := sc_draw.nd
  refine sds_cons (sd_if (td_cmp (ed_potix (j := 0) 0 rfl rfl (by decide) fun z _ => ed_int (od_gt (kB ?_)))))
  cases decide (0 < z) with
  | true =>
    refine sds_cons (sd_asg (ed_callB T.divmod (ad_cons (ed_potix (j := 0) 0 rfl rfl (by decide) fun z _ => ad_cons (nm 1 (ad_nil (cd_divmod ⟨h0, h1⟩ ?_)))))))
    refine gd_tup rfl (gds_cons (gd_pot (j := 0) 0 rfl rfl (by decide) (fun z => absurd z (by decide)) (gds_cons (gd_name 2 nd rfl (gds_nil ?_))))) rfl
    exact sds_cons (sd_ret (nm 2 (q _ (Int.emod_nonneg _ (by omega)) (Int.emod_lt_of_pos _ h0))))
  | false =>
    refine sds_nil (sds_cons (sd_asg (ed_bin (ed_callTy T.int (ad_cons (ed_bin (ed_bin (ed_potix (j := 1) 0 rfl rfl (by decide) fun z hz => ed_int (od_mulS (.inr (by decide)) (ed_int (od_add (ad_nil (cd_int (ed_int (od_mod (by decide) ?_)))))))))))))))
    refine gd_pot (j := 1) 0 rfl rfl (by decide) (fun _ => ⟨Int.emod_nonneg _ (by decide), Int.lt_trans (Int.emod_lt_of_pos _ (by decide)) (by decide)⟩) ?_
    refine sds_cons (sd_ret (ed_bin (ed_callTy T.int (ad_cons (ed_bin (ed_bin (ed_callTy T.int (ad_cons (ed_bin (ed_potix (j := 1) 0 rfl rfl (by decide) fun y hy => ed_potix (j := 1) 0 rfl rfl (by decide) fun x hx => od_mulS (small_mul (hy rfl) (hx rfl)) (ad_nil (cd_int (ed_int (od_mod (by decide) (ed_int (od_fdiv ⟨by decide, by decide⟩ (ad_nil (cd_int (nm 1 (od_mod h0 ?_))))))))))))))))))))
    exact q _ (Int.emod_nonneg _ (by omega)) (Int.emod_lt_of_pos _ h0)
theorem sc_pick : FnScope ["_law_pot_here", "_law_some"] ["_law_pot_here", "_law_some"] (defScope (top 59)) := ⟨rfl, rfl, rfl, by decide +kernel, rfl, by decide +kernel, by decide +kernel⟩
abbrev spPick : SpD := fun as Q => ∃ l : List D, as = [.pot, .val (.lst l)] ∧ 0 < l.length ∧ l.length < 1000 ∧ ∀ d ∈ l, Q d
theorem ok_pick {f : Addr} {fd : FuncData} (F : FunS K "_law_pick" "_law_pick" (top 59) f fd) (T : Txt K mg C) (G : Df P w K mg base "_law_draw" 1 2 spDraw) : GnOk P w K mg base 2 f fd ["_law_pot_here", "_law_some"] (lift K spPick) := by
  refine gn_dl F sc_pick (fun as Q h => by obtain ⟨n, rfl, _⟩ := h; rfl) (fun cdv A outer s H hr hG W as Q h => ?_)
  obtain ⟨l, rfl, h0, h1, q⟩ := h
  refine sds_cons (sd_ret (ed_ix (nm 1 (ed_call G hr hG (ad_pot 0 rfl rfl (ad_cons (ed_callB T.len (ad_cons (nm 1 (ad_nil (cd_len (.inl rfl) (ad_nil ⟨(l.length : Int), rfl, by omega, by omega, fun d d1 => ?_⟩))))))))))))
  have hd : d < l.length := by omega
  exact ⟨l, d, l[d], .inl rfl, rfl, atI_nat (List.getElem?_eq_getElem hd), q _ (List.getElem_mem _)⟩
theorem sc_low : FnScope ["_law_top", "_law_bottom", "_law_one", "_law_other"] ["_law_top", "_law_bottom"] (defScope (top 60)) := ⟨rfl, rfl, rfl, by decide +kernel, rfl, by decide +kernel, by decide +kernel⟩
abbrev spLow : SpD := fun as Q => ∃ t b, as = [.val (.int t), .val (.int b)] ∧ b ≠ 0 ∧ t.natAbs < 2 ^ 8000 ∧ b.natAbs < 2 ^ 8000 ∧ Q (pr (low t b))
theorem ab_cast (i : Int) : (if i < 0 then -i else i) = ((i.natAbs : Nat) : Int) := by split <;> omega
theorem ok_low {f : Addr} {fd : FuncData} (F : FunS K "_law_low" "_law_low" (top 60) f fd) (T : Txt K mg C) : GnOk P w K mg base 1 f fd ["_law_top", "_law_bottom"] (lift K spLow) := by
  refine gn_dl F sc_low (fun as Q h => by obtain ⟨_, _, rfl, _⟩ := h; rfl) (fun cdv A outer s H hr hG W as Q h => ?_)
  obtain ⟨t, b, rfl, hb, bt, bb, k⟩ := h
  have nd := sc_low.nd
  refine sds_cons (sd_par 2 3 rfl nd rfl rfl (by decide) rfl rfl (ad_cons (ed_callB T.abs (ad_cons (nm 0 (ad_nil (cd_abs (ad_cons (ed_callB T.abs (ad_cons (nm 1 (ad_nil (cd_abs (ad_nil ⟨_, _, rfl, ?_⟩))))))))))))))
  refine sds_cons (sd_while PassesOwn.never (fun m S' => ∃ u v : Nat, v = m ∧ Nat.gcd u v = Nat.gcd t.natAbs b.natAbs ∧ S' = [some (.val (.int t)), some (.val (.int b)), some (.val (.int u)), some (.val (.int v))]) b.natAbs ⟨t.natAbs, b.natAbs, rfl, rfl, ?_⟩ ?_)
  · rw [ab_cast, ab_cast]
    rfl
  · rintro m S' ⟨u, v, rfl, hg, rfl⟩
    refine td_cmp (nm 3 (ed_int (od_gt (kB ?_))))
    by_cases c : 0 < v
    · rw [decide_eq_true (Int.natCast_pos.mpr c)]
      refine sds_cons (sd_par 2 3 rfl nd rfl rfl (by decide) rfl rfl (ad_cons (nm 3 (ad_cons (ed_bin (ed_callTy T.int (ad_cons (nm 2 (ad_nil (cd_int (nm 3 (od_mod (Int.natCast_pos.mpr c) (ad_nil ⟨_, _, rfl, sds_nil ⟨u % v, Nat.mod_lt _ c, v, u % v, rfl, ?_, rfl⟩⟩)))))))))))))
      rw [← hg, Nat.gcd_comm u v, Nat.gcd_rec v u, Nat.gcd_comm]
    · have v0 : v = 0 := by omega
      subst v0
      rw [decide_eq_false (by decide)]
      rw [Nat.gcd_zero_right] at hg
      subst hg
      refine sds_cons (sd_set 2 nd rfl (ed_ifx (td_cmp (nm 1 (ed_int (od_gt (kB ?_)))))))
      have fin : SDs (Bx P w K mg base ["_law_top", "_law_bottom", "_law_one", "_law_other"] "_law_low" (top 60) f cdv A outer s H) H W [some (.val (.int t)), some (.val (.int b)), some (.val (.int (gs t b))), some (.val (.int ((0 : Nat) : Int)))] ((defBody (top 60)).drop 3) { nx := fun _ => Q .non, rt := Q } := by
        have gb := gs_bd (t := t) hb bb
        have g0 := gs_ne (t := t) hb
        refine sds_cons (sd_ret (ed_tup (ad_cons (ed_bin (nm 0 (nm 2 (od_fdiv (cdivg g0 gb (by decide)) (ad_cons (ed_bin (nm 1 (nm 2 (od_fdiv (cdivg g0 gb (by decide)) (ad_nil ⟨[.int _, .int _], rfl, by simp, k⟩)))))))))))))
      by_cases p : 0 < b
      · rw [decide_eq_true p]
        refine nm 2 ?_
        have e : gs t b = (Nat.gcd t.natAbs b.natAbs : Int) := by unfold gs; rw [if_pos p]
        rw [e] at fin
        exact fin
      · rw [decide_eq_false (by omega)]
        refine ed_bin (ed_int (nm 2 (od_sub ?_)))
        have e : gs t b = 0 - (Nat.gcd t.natAbs b.natAbs : Int) := by unfold gs; rw [if_neg p]; omega
        rw [e] at fin
        exact fin
theorem lowArg {n : Nat} {t b : Int} {Q : D → Prop} (hb : b ≠ 0) (h1 : t.natAbs < 2 ^ n) (h2 : b.natAbs < 2 ^ n) (hn : n ≤ 8000) (q : Q (pr (low t b))) : spLow [.val (.int t), .val (.int b)] Q :=
  ⟨t, b, rfl, hb, bd_mono h1 hn, bd_mono h2 hn, q⟩
section
variable {X : Cx} {B : Hp} {S : En} {pos pos2 : Pos} {Q : D → Prop} {o : Expr} {j2 : Option Str}
theorem at0 {a b : D} : atI [a, b] ((0 : Int)) = some a := atI_nat (j := 0) rfl
theorem at1 {a b : D} : atI [a, b] ((1 : Int)) = some b := atI_nat (j := 1) rfl
/-- o[0], o[1] of a fraction -/
theorem i0 {p : Fr} {j pos2} (h : ED X B S o fun x => x = pr p ∧ Q (.int p.1)) : ED X B S (.Subscript o (.Constant (.int 0) j pos2) pos) Q :=
  ed_ix (fun σ W H r R c => h σ W H r R fun d v W' H' s ok n ⟨e, q⟩ => c d v W' H' s ok n (ed_int ⟨[.int p.1, .int p.2], 0, .int p.1, .inr e, rfl, at0, q⟩))
theorem i1 {p : Fr} {j pos2} (h : ED X B S o fun x => x = pr p ∧ Q (.int p.2)) : ED X B S (.Subscript o (.Constant (.int 1) j pos2) pos) Q :=
  ed_ix (fun σ W H r R c => h σ W H r R fun d v W' H' s ok n ⟨e, q⟩ => c d v W' H' s ok n (ed_int ⟨[.int p.1, .int p.2], 1, .int p.2, .inr e, rfl, at1, q⟩))
end
abbrev spFF (f : Fr → Fr → Fr) : SpD := fun as Q => ∃ p q, as = [.val (pr p), .val (pr q)] ∧ Bd 3000 p ∧ Bd 3000 q ∧ Q (pr (f p q))
theorem sc_sum : FnScope ["_law_one", "_law_other"] ["_law_one", "_law_other"] (defScope (top 61)) := ⟨rfl, rfl, rfl, by decide +kernel, rfl, by decide +kernel, by decide +kernel⟩
theorem ok_sum {f : Addr} {fd : FuncData} (F : FunS K "_law_sum" "_law_sum" (top 61) f fd) (G : Df P w K mg base "_law_low" 1 2 spLow) : GnOk P w K mg base 2 f fd ["_law_one", "_law_other"] (lift K (spFF addF)) := by
  refine gn_dl F sc_sum (fun as Q h => by obtain ⟨_, _, rfl, _⟩ := h; rfl) (fun cdv A outer s H hr hG W as Q h => ?_)
  obtain ⟨p, q, rfl, hp, hq, k⟩ := h
  exact sds_cons (sd_ret (ed_call G hr hG (ad_cons (ed_bin (ed_bin (i0 (nm 0 ⟨rfl, i1 (nm 1 ⟨rfl, od_mul (cm hp.t hq.b) (ed_bin (i0 (nm 1 ⟨rfl, i1 (nm 0 ⟨rfl, od_mul (cm hq.t hp.b) (od_add (ad_cons (ed_bin (i1 (nm 0 ⟨rfl, i1 (nm 1 ⟨rfl, od_mul (cm hp.b hq.b) (ad_nil (lowArg (n := 6001) (mul_ne hp.ne hq.ne) (add_bd (mul_bd hp.t hq.b) (mul_bd hq.t hp.b)) (bd_mono (mul_bd hp.b hq.b) (by decide)) (by decide) k))⟩)⟩)))))⟩)⟩)))⟩)⟩)))))))
theorem sc_by : FnScope ["_law_one", "_law_other"] ["_law_one", "_law_other"] (defScope (top 62)) := ⟨rfl, rfl, rfl, by decide +kernel, rfl, by decide +kernel, by decide +kernel⟩
theorem ok_by {f : Addr} {fd : FuncData} (F : FunS K "_law_by" "_law_by" (top 62) f fd) (G : Df P w K mg base "_law_low" 1 2 spLow) : GnOk P w K mg base 2 f fd ["_law_one", "_law_other"] (lift K (spFF mulF)) := by
  refine gn_dl F sc_by (fun as Q h => by obtain ⟨_, _, rfl, _⟩ := h; rfl) (fun cdv A outer s H hr hG W as Q h => ?_)
  obtain ⟨p, q, rfl, hp, hq, k⟩ := h
  exact sds_cons (sd_ret (ed_call G hr hG (ad_cons (ed_bin (i0 (nm 0 ⟨rfl, i0 (nm 1 ⟨rfl, od_mul (cm hp.t hq.t) (ad_cons (ed_bin (i1 (nm 0 ⟨rfl, i1 (nm 1 ⟨rfl, od_mul (cm hp.b hq.b) (ad_nil (lowArg (n := 6000) (mul_ne hp.ne hq.ne) (mul_bd hp.t hq.t) (mul_bd hp.b hq.b) (by decide) k))⟩)⟩))))⟩)⟩))))))
theorem dv_pos {a b : Int} (ha : 0 < a) (hb : 0 < b) : 0 < Rat.divInt a b := by
  rw [Rat.divInt_eq_div, Rat.div_def]
  exact Rat.mul_pos (Rat.intCast_pos.mpr ha) (Rat.inv_pos.mpr (Rat.intCast_pos.mpr hb))
abbrev prq (r : Rat) : D := pr (fr r)
abbrev spAm : SpD := fun as Q => as = [.pot] ∧ ∀ r : Rat, 0 < r → Bq 10 r → Q (prq r)
theorem sc_am : FnScope ["_law_pot_here", "_law_top"] ["_law_pot_here"] (defScope (top 70)) := ⟨rfl, rfl, rfl, by decide +kernel, rfl, by decide +kernel, by decide +kernel⟩
end
end K15

set_option Elab.async false
set_option linter.all false
set_option maxRecDepth 100000
set_option maxHeartbeats 4000000
/-! small rules: x[e] of an owned list; s[:i]; min of two; an if whose branches want little; dict != dict, both the same -/
namespace DL
open PySem PySem.Spec PyProof.Rows L2
section
variable {X : Cx} {B : Hp} {W0 : Wd} {S : En} {pos px p2 : Pos} {Q : D → Prop} {e b : Expr} {x : Str}
/-- x[e], x the owner of its list -/
theorem ed_ixOwn (i : Nat) (l : List D) (hN : X.N[i]? = some x) (h : S[i]? = some (some (.own l))) (he : ED X B S b fun y => ∃ (j : Nat) (d : D), y = .int (j : Int) ∧ l[j]? = some d ∧ Q d) (hs : PlainIx b := by exact fun _ _ => rfl)
    (hv : Vis X.env.scope x := by first | exact Or.inl rfl | exact Or.inr (Or.inl rfl) | exact Or.inr (Or.inr rfl)) (hd : (x == ("__debug__" : Str)) = false := by decide) (hcd : (x == ("__classdict__" : Str)) = false := by decide) : ED X B S (.Subscript (.Name x px) b pos) Q := fun σ W H r R k => by
  refine PE.w (pe_ix ix_list (pe_var hN hv hd hcd) we_pe hs) ?_
  obtain ⟨v, e1, p, xs, rfl, hB, n, hI, hH, d0⟩ := r.sl i _ h
  refine ⟨_, e1, he σ W H r _ fun y u W2 H2 s2 ok2 n2 q2 => ?_⟩
  obtain ⟨j, d, rfl, e, q⟩ := q2
  cases n2
  obtain ⟨z, ez, nz⟩ := (d0.mono s2.I).get' e
  exact ⟨p, xs, (j : Int), z, rfl, rfl, SqL.of (s2.keep _ _ hH n), atI_nat ez, (k.step s2 ok2).now ok2 nz q⟩
theorem cd_min2 {i j : Int} (hc : X.calm = true) (q : Q (.int (if j < i then j else i))) : CD X (.builtin "min") [.val (.int i), .val (.int j)] Q := cd_of (call_min2 hc) fun vs W H ok ha R c => by
  obtain ⟨v, u, rfl, h, h'⟩ := two_args ha
  cases h; cases h'
  exact ⟨i, j, rfl, c.now ok (.int _) q⟩
/-- s[:i] of a text -/
theorem ed_slSt (h : ED X B S e fun d => ED X B S b fun y => ∃ z : List Nat, ∃ j : Nat, d = .str (SX.S z) ∧ y = .int (j : Int) ∧ z.length ≤ 50000 ∧ Q (.str (SX.S (z.take j)))) : ED X B S (.Subscript e (.Slice none (some b) none p2) pos) Q := fun σ W H r R k => by
  refine PE.w (pe_slice C8.sl_txt we_pe po_none (po_some we_pe)) ?_
  refine h σ W H r _ fun d v W1 H1 s1 ok1 n1 q1 => ?_
  show WE X b σ H1 _
  refine q1 σ W1 H1 (r.step s1 ok1) _ fun d2 u W2 H2 s2 ok2 n2 q2 => ?_
  obtain ⟨z, j, rfl, rfl, hz, q2⟩ := q2
  cases n1
  cases n2
  refine ⟨_, rfl, SX.S z, rfl, Nat.le_trans (by rw [SX.S_len]; exact hz) (by decide), ?_⟩
  rw [SX.slice_to (by omega), Int.toNat_natCast]
  exact ((k.step s1 ok1).step s2 ok2).now ok2 (.str _) q2
theorem sd_ifAny {c : Expr} {x y : List Stmt} {E : Ends'} (PB : Bool → Prop) (h : TD X B S c PB) (hx : PB true → SDs X B W0 S x E) (hy : PB false → SDs X B W0 S y E) : SD X B W0 S (.If c x y pos) E :=
  sd_if (fun σ W H r R k => h σ W H r R fun b W' H' s ok q => k b W' H' s ok (by
    cases b with
    | true => exact hx q
    | false => exact hy q))
end
end DL

namespace DL
open PySem PySem.Spec PyProof.Rows L2
section
variable {X : Cx} {Q : D → Prop} {C : Addr} {k : Nat} {sp : SpD} {fs : List (Str × D)}
end
section
variable {X : Cx} {B : Hp} {W0 : Wd} {S : En} {pos : Pos}
/-- for over a range that may be empty -/
theorem sd_forR0 {tg a : Expr} {p pos1 : Pos} {N : Nat} {body : List Stmt} {E : Ends'} (hp : PassesOwn (model X.prog X.w) X.A X.env X.xe) (hc : X.calm = true) (hm : X.mg "range" = none) (Inv : Nat → En → Prop) (h : AD X B S [a] fun as => ∃ n : Nat, as = [.val (.int (n : Int))] ∧ n ≤ N ∧ n ≤ 50000 ∧ Inv 0 S)
    (hs : ∀ (i : Nat) S', i < N → Inv i S' → GD X B W0 S' tg (.int i) fun S2 => SDs X B W0 S2 body { nx := Inv (i + 1), rt := E.rt, bk := E.nx, ct := Inv (i + 1) })
    (hd : ∀ (n : Nat) S', n ≤ N → Inv n S' → E.nx S') (hg : Gl X "range" := by rfl) (hst : starEach [a] X.env = [(false, eval a X.env)] := by rfl) (hf : ∀ x, foldedSetIterable (.Call (.Name "range" p) [a] [] pos1) X.env x = pure x := by intro _; rfl) : SD X B W0 S (.For tg (.Call (.Name "range" p) [a] [] pos1) body [] pos) E := fun σ W H r z D' k => by
  refine PS.w (ps_for hp hc (pi_range1 hg hm wa_pa hst) wg_pg wss_pss hf) ?_
  refine h σ W H r _ fun as vs W1 H1 s1 ok1 n1 q1 => ?_
  obtain ⟨n, rfl, hn, hn2, i0⟩ := q1
  obtain ⟨v, rfl, m⟩ := one_arg n1
  cases m
  refine ⟨(n : Int), rfl, by omega, by omega, for_range (lo := 0) (n := (n : Int).toNat) (fun i σ' H' => ∃ S' W', Rep X.K (gOf X) B S' σ' W' H' ∧ Stp W0 B W' H' ∧ Ex W1.I W'.I ∧ Inv i S') ⟨S, W1, r.step s1 ok1, z.trans r.ok s1, Ex.refl _, i0⟩ ?_ ?_⟩
  · rintro i σ' H' hi ⟨S', W', r', z', e', i'⟩
    rw [Int.zero_add]
    refine hs i S' (by omega) i' σ' W' H' _ r' z' (.int _) _ fun S2 σ2 W2 H2 r2 z2 e2 q2 => ?_
    exact q2 σ2 W2 H2 r2 z2 _ ⟨fun S3 σ3 W3 H3 r3 z3 e3 q3 => ⟨S3, W3, r3, z3, (e'.trans e2).trans e3, q3⟩, fun d3 v3 W3 H3 r3 z3 e3 n3 q3 => k.rt d3 v3 W3 H3 r3 z3 (((s1.I.trans e').trans e2).trans e3) n3 q3,
      fun S3 σ3 W3 H3 r3 z3 e3 q3 => k.nx S3 σ3 W3 H3 r3 z3 (((s1.I.trans e').trans e2).trans e3) q3, fun S3 σ3 W3 H3 r3 z3 e3 q3 => ⟨S3, W3, r3, z3, (e'.trans e2).trans e3, q3⟩⟩
  · rintro σ' H' ⟨S', W', r', z', e', i'⟩
    rw [Int.toNat_natCast] at i'
    exact k.nx S' σ' W' H' r' z' (s1.I.trans e') (hd n S' hn i')
end
end DL

set_option Elab.async false
set_option linter.all false
set_option maxRecDepth 100000
set_option maxHeartbeats 4000000
/-! k15: the law's own products; numbers over a common one -/
namespace K15
open PySem L2 DL
def oth (es : List Ent) (k : List Int) : List Ent := es.filter fun e => !decide (e.1 = k)
def put (es : List Ent) (k : List Int) (r : Rat) : List Ent := oth es k ++ [(k, r)]
theorem GE.sub {m n b : Nat} {es fs : List Ent} (h : GE m n b es) (s : fs.Sublist es) : GE m n b fs :=
  ⟨fun e he => h.len e (s.subset he), fun e he => h.nn e (s.subset he), fun e he => h.sum e (s.subset he), fun e he => h.pos e (s.subset he), fun e he => h.bq e (s.subset he), (s.map _).nodup h.nd, Nat.le_trans s.length_le h.ln⟩
theorem ge_oth {m n b : Nat} {es : List Ent} (h : GE m n b es) (k : List Int) : GE m n b (oth es k) := h.sub List.filter_sublist
theorem oth_no {es : List Ent} {k : List Int} : k ∉ (oth es k).map (·.1) := fun h => by
  obtain ⟨e, he, h2⟩ := List.mem_map.mp h
  have := (List.mem_filter.mp he).2
  rw [decide_eq_true h2] at this
  cases this
theorem ge_put {m n b : Nat} {es : List Ent} (h : GE m n b es) {k : List Int} {r : Rat} (hk : k.length = m) (nn : ∀ c ∈ k, (0 : Int) ≤ c) (sm : k.sum = (n : Int)) (rp : 0 < r) (rb : Bq b r) (hl : es.length ≤ 199) : GE m n b (put es k r) := by
  have g := ge_oth h k
  have mm : ∀ e ∈ put es k r, e ∈ oth es k ∨ e = (k, r) := fun e he => by
    rcases List.mem_append.mp he with z | z
    · exact .inl z
    · exact .inr (List.mem_singleton.mp z)
  refine ⟨fun e he => ?_, fun e he => ?_, fun e he => ?_, fun e he => ?_, fun e he => ?_, ?_, ?_⟩
  · rcases mm e he with z | rfl
    · exact g.len e z
    · exact hk
  · rcases mm e he with z | rfl
    · exact g.nn e z
    · exact nn
  · rcases mm e he with z | rfl
    · exact g.sum e z
    · exact sm
  · rcases mm e he with z | rfl
    · exact g.pos e z
    · exact rp
  · rcases mm e he with z | rfl
    · exact g.bq e z
    · exact rb
  · show ((oth es k ++ [(k, r)]).map (·.1)).Nodup
    rw [List.map_append, List.nodup_append]
    refine ⟨g.nd, by simp, fun a ha c hc e => ?_⟩
    rw [List.mem_singleton.mp hc] at e
    rw [e] at ha
    exact oth_no ha
  · show (oth es k ++ [(k, r)]).length ≤ 200
    have : (oth es k).length ≤ es.length := List.length_filter_le _ _
    rw [List.length_append, List.length_singleton]
    omega
theorem getD_get {k : List Int} {a : Nat} (h : a < k.length) : k[a]? = some (k.getD a 0) := by
  rw [List.getD_eq_getElem?_getD, List.getElem?_eq_getElem h]
  rfl
theorem sum_set : ∀ {k : List Int} {a : Nat} {x : Int}, a < k.length → (k.set a x).sum = k.sum - k.getD a 0 + x
  | [], a, x, h => absurd h (Nat.not_lt_zero _)
  | c :: k, 0, x, h => by
    show (x :: k).sum = (c :: k).sum - c + x
    rw [List.sum_cons, List.sum_cons]
    omega
  | c :: k, a + 1, x, h => by
    show (c :: k.set a x).sum = (c :: k).sum - k.getD a 0 + x
    rw [List.sum_cons, List.sum_cons, sum_set (Nat.lt_of_succ_lt_succ h)]
    omega
def kvP (es : List Ent) : List (List Key × D) := es.map fun e => (ik e.1, prq e.2)
theorem kvP_len {es : List Ent} : (kvP es).length = es.length := by unfold kvP; rw [List.length_map]
theorem kvP_keys {es : List Ent} : (kvP es).map (·.1) = es.map fun e => ik e.1 := by unfold kvP; rw [List.map_map]; rfl
def insP (es : List Ent) (k : List Int) (r : Rat) : List Ent := if k ∈ es.map (·.1) then es.map (fun e => if e.1 = k then (k, r) else e) else es ++ [(k, r)]
theorem put_kvP {es : List Ent} {k : List Int} {r : Rat} : putE (kvP es) (ik k) (prq r) = kvP (insP es k r) := by
  unfold insP
  by_cases c : k ∈ es.map (·.1)
  · rw [if_pos c]
    unfold putE
    have h : DL.has (kvP es) (ik k) = true := by
      unfold DL.has
      rw [List.any_eq_true]
      obtain ⟨e, he, rfl⟩ := List.mem_map.mp c
      exact ⟨(ik e.1, prq e.2), List.mem_map_of_mem he, decide_eq_true rfl⟩
    rw [if_pos h]
    unfold kvP
    rw [List.map_map, List.map_map]
    refine List.map_congr_left fun e _ => ?_
    show (if ik e.1 = ik k then (ik e.1, prq r) else (ik e.1, prq e.2)) = (fun e : Ent => (ik e.1, prq e.2)) (if e.1 = k then (k, r) else e)
    by_cases y : e.1 = k
    · rw [if_pos (by rw [y]), if_pos y, y]
    · rw [if_neg (fun z => y (ik_inj z)), if_neg y]
  · rw [if_neg c, putE_new]
    · unfold kvP
      rw [List.map_append]
      rfl
    · rw [kvP_keys]
      intro z
      obtain ⟨e, he, e2⟩ := List.mem_map.mp z
      exact c (List.mem_map.mpr ⟨e, he, ik_inj e2⟩)
theorem ins_perm {es : List Ent} (nd : (es.map (·.1)).Nodup) (k : List Int) (r : Rat) : (insP es k r).Perm (put es k r) := by
  unfold insP put oth
  induction es with
  | nil => exact .refl _
  | cons e es ih =>
    rw [List.map_cons, List.nodup_cons] at nd
    have ih := ih nd.2
    by_cases y : e.1 = k
    · have no : k ∉ es.map (·.1) := by rw [← y]; exact nd.1
      have m1 : k ∈ (e :: es).map (·.1) := by rw [List.map_cons, y]; exact List.mem_cons_self ..
      have e1 : es.map (fun x : Ent => if x.1 = k then (k, r) else x) = es := by
        refine (List.map_congr_left fun x hx => ?_).trans (List.map_id es)
        have : ¬ x.1 = k := fun z => no (by rw [← z]; exact List.mem_map_of_mem hx)
        rw [if_neg this]
        rfl
      have e2 : es.filter (fun x : Ent => !decide (x.1 = k)) = es := by
        rw [List.filter_eq_self]
        intro x hx
        have : ¬ x.1 = k := fun z => no (by rw [← z]; exact List.mem_map_of_mem hx)
        rw [decide_eq_false this]
        rfl
      rw [if_pos m1, List.map_cons, if_pos y, e1, List.filter_cons_of_neg (by rw [decide_eq_true y]; decide), e2]
      exact (List.perm_append_comm (l₁ := [(k, r)]) (l₂ := es))
    · rw [List.filter_cons_of_pos (by rw [decide_eq_false y]; rfl)]
      by_cases c : k ∈ es.map (·.1)
      · have m1 : k ∈ (e :: es).map (·.1) := by rw [List.map_cons]; exact List.mem_cons_of_mem _ c
        rw [if_pos c] at ih
        rw [if_pos m1, List.map_cons, if_neg y]
        exact ih.cons e
      · have m1 : k ∉ (e :: es).map (·.1) := by
          rw [List.map_cons]
          intro z
          rcases List.mem_cons.mp z with z | z
          · exact y z.symm
          · exact c z
        rw [if_neg c] at ih
        rw [if_neg m1]
        exact ih.cons e
theorem ins_len {es : List Ent} {k : List Int} {r : Rat} : (insP es k r).length ≤ es.length + 1 := by
  unfold insP
  split
  · rw [List.length_map]; omega
  · rw [List.length_append, List.length_singleton]; omega
theorem ge_ins {m n b : Nat} {es : List Ent} (h : GE m n b es) {k : List Int} {r : Rat} (hk : k.length = m) (nn : ∀ c ∈ k, (0 : Int) ≤ c) (sm : k.sum = (n : Int)) (rp : 0 < r) (rb : Bq b r) (hl : es.length ≤ 199) : GE m n b (insP es k r) :=
  (ge_put h hk nn sm rp rb hl).perm (ins_perm h.nd k r)
theorem sum_rep0 : ∀ m : Nat, (List.replicate m (0 : Int)).sum = 0
  | 0 => rfl
  | m + 1 => by rw [List.replicate_succ, List.sum_cons, sum_rep0 m]; rfl
theorem look_kvP {es : List Ent} (h : (es.map (·.1)).Nodup) {e : Ent} (he : e ∈ es) : look (kvP es) (ik e.1) = some (prq e.2) := by
  induction es with
  | nil => cases he
  | cons x es ih =>
    rw [List.map_cons, List.nodup_cons] at h
    show Option.map _ (List.find? _ ((ik x.1, prq x.2) :: kvP es)) = _
    by_cases c : ik x.1 = ik e.1
    · rw [List.find?_cons_of_pos (by simpa using c)]
      have c' := ik_inj c
      rcases List.mem_cons.mp he with rfl | he'
      · rfl
      · exact absurd (by rw [c']; exact List.mem_map_of_mem he') h.1
    · rw [List.find?_cons_of_neg (by simpa using c)]
      rcases List.mem_cons.mp he with rfl | he'
      · exact absurd rfl c
      · exact ih h.2 he'
theorem low_self (r : Rat) : low (fr r).1 (fr r).2 = fr r := by
  rw [low_fr (fr_ne r), fr_val]
theorem sds_st {X : Cx} {B : Hp} {W0 : Wd} {S S' : En} {sts : List Stmt} {E : Ends'} (e : S = S') (k : SDs X B W0 S' sts E) : SDs X B W0 S sts E := e ▸ k
theorem cd_skeys {X : Cx} {Q : D → Prop} {m n b : Nat} {es : List Ent} (hc : X.calm = true) (hu : X.A.units + 100 < cLine) (m1 : 1 ≤ m) (ge : GE m n b es) (hn : n ≤ 8) (q : Q (.lst ((srt es).map fun e => tI e.1))) : CD X (.builtin "sorted") [.val (.dcT (kvP es))] Q := by
  refine cd_sortKb hc hu (dd := m) (B := 9) (ls := es.map (·.1)) m1 (by rw [kvP_keys, List.map_map]; rfl) (by rw [List.length_map]; have := ge.ln; omega) (fun l hl => ?_) fun ls' pm pw => ?_
  · obtain ⟨x, hx, rfl⟩ := List.mem_map.mp hl
    exact ⟨ge.len x hx, ge.bd hn hx⟩
  · rw [keys_srt ge hn pm pw, List.map_map]
    exact q
/-! numbers over a common one -/
def Ov (M K : Nat) (r : Rat) : Prop := ∃ a : Int, r = Rat.divInt a (M : Int) ∧ a.natAbs ≤ K
theorem Ov.mono {M K L : Nat} {r : Rat} (h : Ov M K r) (k : K ≤ L) : Ov M L r := by
  obtain ⟨a, e, b⟩ := h
  exact ⟨a, e, Nat.le_trans b k⟩
theorem Ov.zero {M : Nat} : Ov M 0 0 := ⟨0, by rw [Rat.zero_divInt], Nat.le_refl _⟩
theorem Ov.bq {M K n : Nat} {r : Rat} (h : Ov M K r) (m0 : 0 < M) (h1 : M < 2 ^ n) (h2 : K < 2 ^ n) : Bq n r := by
  obtain ⟨a, e, b⟩ := h
  have m1 : (M : Int) ≠ 0 := by omega
  have lb := low_bd (t := a) (b := (M : Int)) m1 (n := n) (Nat.lt_of_le_of_lt b h2) (by rw [Int.natAbs_natCast]; exact h1)
  rw [low_fr m1, ← e] at lb
  exact lb
theorem Ov.add {M K L : Nat} {r s : Rat} (h : Ov M K r) (k : Ov M L s) (m0 : 0 < M) : Ov M (K + L) (r + s) := by
  obtain ⟨a, e, b⟩ := h
  obtain ⟨c, f, d⟩ := k
  have m1 : (M : Int) ≠ 0 := by omega
  refine ⟨a + c, ?_, by omega⟩
  rw [e, f, Rat.divInt_add_divInt _ _ m1 m1, ← Int.add_mul, Rat.divInt_mul_right m1]
theorem Ov.mul {M N K L : Nat} {r s : Rat} (h : Ov M K r) (k : Ov N L s) : Ov (M * N) (K * L) (r * s) := by
  obtain ⟨a, e, b⟩ := h
  obtain ⟨c, f, d⟩ := k
  refine ⟨a * c, ?_, ?_⟩
  · rw [e, f, Rat.divInt_mul_divInt, Int.natCast_mul]
  · rw [Int.natAbs_mul]
    exact Nat.mul_le_mul b d
theorem Ov.of {t b c : Int} {M K : Nat} (c0 : c ≠ 0) (e : b * c = (M : Int)) (k : (t * c).natAbs ≤ K) : Ov M K (Rat.divInt t b) := ⟨t * c, by rw [← e, Rat.divInt_mul_right c0], k⟩
theorem ov12 {t b : Int} (t0 : 0 ≤ t) {T : Nat} (tT : t ≤ T) (b1 : 0 < b) (b4 : b ≤ 4) : Ov 12 (12 * T) (Rat.divInt t b) := by
  have : b = 1 ∨ b = 2 ∨ b = 3 ∨ b = 4 := by omega
  rcases this with rfl | rfl | rfl | rfl
  · exact .of (c := 12) (by decide) rfl (by omega)
  · exact .of (c := 6) (by decide) rfl (by omega)
  · exact .of (c := 4) (by decide) rfl (by omega)
  · exact .of (c := 3) (by decide) rfl (by omega)
end K15

set_option Elab.async false
set_option linter.all false
set_option maxRecDepth 100000
set_option maxHeartbeats 4000000
/-! k15: numbers passed, letters, counts, what is drawn -/
namespace K15
open PySem L2 DL
section
variable {P : Program} {w : World} {K : PySem.W.Frag} {mg : Str → Option Value} {base : Heap} {C CB : Addr}
theorem nq_int {r : Rat} {b : Nat} (c : (fr r).2 = 1) (rb : Bq b r) : Nq C b (.int (fr r).1) r := by
  have er : (((fr r).1 : Int) : Rat) = r := by
    have h := fr_val r
    rw [c, Rat.divInt_eq_div] at h
    have h1 : (((1 : Int) : Int) : Rat) = 1 := rfl
    rw [h1] at h
    have h2 : (((fr r).1 : Int) : Rat) / 1 = (((fr r).1 : Int) : Rat) := by
      rw [Rat.div_def]
      grind
    rw [h2] at h
    exact h
  have h := Nq.int (C := C) (n := b) (fr r).1 (by rw [er]; exact rb)
  rw [er] at h
  exact h
abbrev spPass (C : Addr) : SpD := fun as Q => ∃ b r, as = [.pot, .val (prq r)] ∧ b ≤ 1000 ∧ Bq b r ∧ ∀ d, Nq C b d r → Q d
theorem sc_pass : FnScope ["_law_pot_here", "_law_pair_here"] ["_law_pot_here", "_law_pair_here"] (defScope (top 65)) := ⟨rfl, rfl, rfl, by decide +kernel, rfl, by decide +kernel, by decide +kernel⟩
theorem ok_pass {f : Addr} {fd : FuncData} (F : FunS K "_law_passed" "_law_passed" (top 65) f fd) (V : Rt P w K mg base C) (G : Df P w K mg base "_law_draw" 1 2 spDraw) : GnOk P w K mg base 4 f fd ["_law_pot_here", "_law_pair_here"] (lift K (spPass C)) := by
  refine gn_dl F sc_pass (fun as Q h => by obtain ⟨_, _, rfl, _⟩ := h; rfl) (fun cdv A outer s H hr hG W as Q h => ?_)
  obtain ⟨b, r, rfl, hb, rb, q⟩ := h
  refine sds_cons (sd_ifAny (fun k => k = true → (fr r).2 = 1) (td_of (tw_and (td_cmp (i1 (p := fr r) (nm 1 ⟨rfl, ed_int (od_eqi (kB ?_))⟩))))) ?_ ?_)
  · by_cases c : (fr r).2 = 1
    · rw [decide_eq_true c]
      show TW _ _ _ _ _
      exact tw_and1 (td_cmp (ed_call G (hr.mono (j := 1) (by decide)) hG (ad_pot 0 rfl rfl (ad_cons (ed_int (ad_nil ⟨2, rfl, by decide, by decide, fun d hd => ed_int (od_eqi (kB fun _ => c))⟩))))))
    · rw [decide_eq_false c]
      exact fun h => absurd h (by decide)
  · intro c
    exact sds_cons (sd_ret (i0 (p := fr r) (nm 1 ⟨rfl, q _ (nq_int (c rfl) rb)⟩)))
  · intro _
    refine sds_nil (sds_cons (sd_ret (ed_makeA V.mk2 (hr.mono (j := 3) (by decide)) hG (ad_cons (i0 (p := fr r) (nm 1 ⟨rfl, ad_cons (i1 (p := fr r) (nm 1 ⟨rfl, ad_nil (mk_ok (n := 1000) (fr_ne r) (bd_mono rb.t hb) (bd_mono rb.b hb) (by decide) ?_)⟩))⟩))))))
    rw [low_self]
    exact q _ (.rat r rb)
abbrev spPair (C : Addr) : SpD := fun as Q => ∃ r, as = [.val (Ra C (fr r))] ∧ Q (prq r)
theorem sc_pair : FnScope ["_law_value"] ["_law_value"] (defScope (top 66)) := ⟨rfl, rfl, rfl, by decide +kernel, rfl, by decide +kernel, by decide +kernel⟩
theorem ok_pair {f : Addr} {fd : FuncData} (F : FunS K "_law_pair" "_law_pair" (top 66) f fd) (V : Rt P w K mg base C) : GnOk P w K mg base 3 f fd ["_law_value"] (lift K (spPair C)) := by
  refine gn_dl F sc_pair (fun as Q h => by obtain ⟨_, rfl, _⟩ := h; rfl) (fun cdv A outer s H hr hG W as Q h => ?_)
  obtain ⟨r, rfl, q⟩ := h
  have T := V.T
  obtain ⟨t, ty, _, _, h3⟩ := (Kn.rat (C := C) (fr r)).ty T
  refine sds_cons (sd_ret (ed_ifx (td_val (ed_callB T.isi (ad_cons (nm 0 (ad_cons (ed_cls T.mC (ad_nil (cd_isi ty (.cls _) h3 (kB ?_)))))))))))
  exact ed_tup (ad_cons (pT V hr hG (nm 0 ⟨rfl, ad_cons (pB V hr hG (nm 0 ⟨rfl, ad_nil ⟨[.int _, .int _], rfl, by simp, q⟩⟩))⟩)))
/-! letters -/
theorem LetZ.sub {w z : List Nat} (h : LetZ w) (s : z.Sublist w) (l : 1 ≤ z.length) : LetZ z := ⟨l, Nat.le_trans s.length_le h.l8, fun c hc => h.lo c (s.subset hc), h.up.sublist s⟩
def lsA : List Nat := [97, 98, 99, 100, 101, 102, 103, 104]
def lsB : List Nat := [97, 99, 101, 103, 109, 113, 120, 122]
def lsC : List Nat := [115, 116, 117, 118, 119, 120, 121, 122]
def lsD : List Nat := [98, 100, 102, 104, 106, 108, 110, 112]
theorem s_lsA : ("abcdefgh" : Str) = SX.S lsA := by decide +kernel
theorem s_lsB : ("acegmqxz" : Str) = SX.S lsB := by decide +kernel
theorem s_lsC : ("stuvwxyz" : Str) = SX.S lsC := by decide +kernel
theorem s_lsD : ("bdfhjlnp" : Str) = SX.S lsD := by decide +kernel
theorem let_lsA : LetZ lsA := ⟨by decide, by decide, by decide, by decide⟩
theorem let_lsB : LetZ lsB := ⟨by decide, by decide, by decide, by decide⟩
theorem let_lsC : LetZ lsC := ⟨by decide, by decide, by decide, by decide⟩
theorem let_lsD : LetZ lsD := ⟨by decide, by decide, by decide, by decide⟩
abbrev spLets : SpD := fun as Q => ∃ m : Nat, as = [.pot, .val (.int (m : Int))] ∧ 1 ≤ m ∧ m ≤ 8 ∧ ∀ z, LetZ z → z.length = m → Q (.str (SX.S z))
theorem sc_lets : FnScope ["_law_pot_here", "_law_many"] ["_law_pot_here", "_law_many"] (defScope (top 68)) := ⟨rfl, rfl, rfl, by decide +kernel, rfl, by decide +kernel, by decide +kernel⟩
theorem ok_lets {f : Addr} {fd : FuncData} (F : FunS K "_law_letters" "_law_letters" (top 68) f fd) (PI : Df P w K mg base "_law_pick" 2 2 spPick) : GnOk P w K mg base 3 f fd ["_law_pot_here", "_law_many"] (lift K spLets) := by
  refine gn_dl F sc_lets (fun as Q h => by obtain ⟨_, rfl, _⟩ := h; rfl) (fun cdv A outer s H hr hG W as Q h => ?_)
  obtain ⟨m, rfl, m1, m8, q⟩ := h
  refine sds_cons (sd_ret (ed_call PI (hr.mono (j := 2) (by decide)) hG (ad_pot 0 rfl rfl ?_)))
  refine ad_cons (ed_lst ?_)
  refine ad_cons (ed_slSt (ed_str (nm 1 ⟨lsA, m, by rw [s_lsA], rfl, by decide, ?_⟩)))
  refine ad_cons (ed_slSt (ed_str (nm 1 ⟨lsB, m, by rw [s_lsB], rfl, by decide, ?_⟩)))
  refine ad_cons (ed_slS (ed_str (ed_bin (ed_int (nm 1 (od_sub ⟨lsC, 8 - m, by rw [s_lsC], by rw [show (8 : Int) - (m : Int) = ((8 - m : Nat) : Int) by omega], by decide, ?_⟩))))))
  refine ad_cons (ed_slSt (ed_str (nm 1 ⟨lsD, m, by rw [s_lsD], rfl, by decide, ?_⟩)))
  refine ad_nil ⟨[.str (SX.S (lsA.take m)), .str (SX.S (lsB.take m)), .str (SX.S (lsC.drop (8 - m))), .str (SX.S (lsD.take m))], rfl, by simp, ad_nil ⟨_, rfl, by simp, by simp, fun x hx => ?_⟩⟩
  have tk : ∀ w : List Nat, LetZ w → w.length = 8 → LetZ (w.take m) ∧ (w.take m).length = m := fun w hw hl => by
    have e : (w.take m).length = m := by rw [List.length_take]; omega
    exact ⟨hw.sub (List.take_sublist _ _) (by omega), e⟩
  have dp : LetZ (lsC.drop (8 - m)) ∧ (lsC.drop (8 - m)).length = m := by
    have e : (lsC.drop (8 - m)).length = m := by rw [List.length_drop]; show 8 - (8 - m) = m; omega
    exact ⟨let_lsC.sub (List.drop_sublist _ _) (by omega), e⟩
  simp only [List.mem_cons, List.not_mem_nil, or_false] at hx
  rcases hx with rfl | rfl | rfl | rfl
  · exact q _ (tk _ let_lsA rfl).1 (tk _ let_lsA rfl).2
  · exact q _ (tk _ let_lsB rfl).1 (tk _ let_lsB rfl).2
  · exact q _ dp.1 dp.2
  · exact q _ (tk _ let_lsD rfl).1 (tk _ let_lsD rfl).2
/-! counts -/
abbrev spCnt : SpD := fun as Q => ∃ m n : Nat, as = [.pot, .val (.int (m : Int)), .val (.int (n : Int))] ∧ 1 ≤ m ∧ m ≤ 8 ∧ n ≤ 8 ∧ ∀ k : List Int, k.length = m → (∀ c ∈ k, 0 ≤ c) → k.sum = (n : Int) → Q (tI k)
abbrev NCn : List Str := ["_law_pot_here", "_law_many", "_law_degree", "_law_found", "_law_turn", "_law_at"]
theorem sc_cnt : FnScope NCn ["_law_pot_here", "_law_many", "_law_degree"] (defScope (top 69)) := ⟨rfl, rfl, rfl, by decide +kernel, rfl, by decide +kernel, by decide +kernel⟩
theorem ok_cnt {f : Addr} {fd : FuncData} (F : FunS K "_law_counts" "_law_counts" (top 69) f fd) (T : Txt K mg C) (G : Df P w K mg base "_law_draw" 1 2 spDraw) : GnOk P w K mg base 2 f fd ["_law_pot_here", "_law_many", "_law_degree"] (lift K spCnt) := by
  refine gn_dl F sc_cnt (fun as Q h => by obtain ⟨_, _, rfl, _⟩ := h; rfl) (fun cdv A outer s H hr hG W as Q h => ?_)
  obtain ⟨m, n, rfl, m1, m8, n8, q⟩ := h
  have nd := sc_cnt.nd
  refine sds_cons (sd_own 3 nd rfl (fd_repL (ed_lst (ad_cons (ed_int (ad_nil ⟨[.int 0], rfl, by simp, nm 1 ⟨[.int 0], m, rfl, rfl, by rw [List.length_singleton]; omega, by omega, ?_⟩⟩))))))
  have e0 : (List.replicate m [D.int 0]).flatten = (List.replicate m (0 : Int)).map D.int := by simp
  rw [e0]
  refine sds_cons (sd_forR (n := (n : Int)) PassesOwn.never rfl T.range (fun i S' => ∃ o o5, ∃ k : List Int, k.length = m ∧ (∀ c ∈ k, 0 ≤ c) ∧ k.sum = (i : Int) ∧ S' = [some .pot, some (.val (.int (m : Int))), some (.val (.int (n : Int))), some (.own (k.map D.int)), o, o5]) (ad_cons (nm 2 (ad_nil ⟨rfl, by omega, by omega, none, none, List.replicate m 0, List.length_replicate, fun c hc => by rw [(List.mem_replicate.mp hc).2]; exact Int.le_refl _, sum_rep0 m, rfl⟩))) ?_ ?_)
  · rintro i S' hi ⟨o, o5, k, lk, nn, sk, rfl⟩
    refine gd_name 4 nd rfl ?_
    refine sds_cons (sd_set 5 nd rfl (ed_call G (hr.mono (j := 1) (by decide)) hG (ad_pot 0 rfl rfl (ad_cons (nm 1 (ad_nil ⟨(m : Int), rfl, by omega, by omega, fun d hd => ?_⟩))))))
    refine sds_cons (sd_asg (ed_bin (ed_ixOwn 3 (k.map D.int) rfl rfl (nm 5 ⟨d, .int (k.getD d 0), rfl, ?_, ed_int (od_add (gd_ownAt 3 5 (k.map D.int) rfl rfl rfl rfl (by rw [List.length_map]; omega) ?_))⟩))))
    · rw [List.getElem?_map, getD_get (by omega)]
      rfl
    refine sds_nil ⟨some (.val (.int (i : Int))), some (.val (.int (d : Int))), k.set d (k.getD d 0 + 1), by rw [List.length_set, lk], ?_, ?_, ?_⟩
    · intro c hc
      rcases List.mem_or_eq_of_mem_set hc with y | y
      · exact nn c y
      · have := nn _ (List.mem_of_getElem? (getD_get (k := k) (a := d) (by omega)))
        omega
    · rw [sum_set (by omega), sk]
      omega
    · rw [List.map_set]
      rfl
  · rintro S' ⟨o, o5, k, lk, nn, sk, rfl⟩
    refine sds_frz 3 _ rfl ?_
    rw [Int.toNat_natCast] at sk
    exact sds_cons (sd_ret (ed_callTy T.tuple (ad_cons (nm 3 (ad_nil (cd_tuple (q k lk nn sk)))))))
/-! an amount -/
abbrev spAmt : SpD := fun as Q => as = [.pot] ∧ ∀ r : Rat, 0 < r → Bq 10 r → Ov 12 360 r → Q (prq r)
theorem ok_amt {f : Addr} {fd : FuncData} (F : FunS K "_law_amount" "_law_amount" (top 70) f fd) (DR : Df P w K mg base "_law_draw" 1 2 spDraw) (PI : Df P w K mg base "_law_pick" 2 2 spPick) (LO : Df P w K mg base "_law_low" 1 2 spLow) : GnOk P w K mg base 3 f fd ["_law_pot_here"] (lift K spAmt) := by
  refine gn_dl F sc_am (fun as Q h => by obtain ⟨rfl, _⟩ := h; rfl) (fun cdv A outer s H hr hG W as Q h => ?_)
  obtain ⟨rfl, q⟩ := h
  have nd := sc_am.nd
  refine sds_cons (sd_set 1 nd rfl (ed_bin (ed_int (ed_call PI (hr.mono (j := 2) (by decide)) hG (ad_pot 0 rfl rfl ?_)))))
  refine ad_cons (ed_lst ?_)
  refine ad_cons (ed_call DR (hr.mono (j := 1) (by decide)) hG (ad_pot 0 rfl rfl (ad_cons (ed_int (ad_nil ⟨9, rfl, by decide, by decide, fun d1 hd1 => ?_⟩)))))
  refine ad_cons (ed_call DR (hr.mono (j := 1) (by decide)) hG (ad_pot 0 rfl rfl (ad_cons (ed_int (ad_nil ⟨30, rfl, by decide, by decide, fun d2 hd2 => ?_⟩)))))
  refine ad_cons (ed_int ?_)
  refine ad_nil ⟨[.int (d1 : Int), .int (d2 : Int), .int 0], rfl, by simp, ad_nil ⟨_, rfl, by simp, by simp, fun x hx => ?_⟩⟩
  have hx1 : ∃ d : Nat, d < 30 ∧ x = .int (d : Int) := by
    simp only [List.mem_cons, List.not_mem_nil, or_false] at hx
    rcases hx with rfl | rfl | rfl
    · exact ⟨d1, by omega, rfl⟩
    · exact ⟨d2, by omega, rfl⟩
    · exact ⟨0, by decide, rfl⟩
  obtain ⟨d, hd, rfl⟩ := hx1
  refine od_add ?_
  refine sds_cons (sd_ret (ed_call LO (hr.mono (j := 1) (by decide)) hG (ad_cons (nm 1 ?_))))
  refine ad_cons (ed_call PI (hr.mono (j := 2) (by decide)) hG (ad_pot 0 rfl rfl ?_))
  refine ad_cons (ed_lst ?_)
  refine ad_cons (ed_int ?_)
  refine ad_cons (ed_int ?_)
  refine ad_cons (ed_int ?_)
  refine ad_cons (ed_int ?_)
  refine ad_cons (ed_int ?_)
  refine ad_nil ⟨[.int 1, .int 1, .int 2, .int 3, .int 4], rfl, by simp, ad_nil ⟨_, rfl, by simp, by simp, fun x hx => ?_⟩⟩
  have hx2 : ∃ b : Int, x = .int b ∧ 0 < b ∧ b ≤ 4 := by
    simp only [List.mem_cons, List.not_mem_nil, or_false] at hx
    rcases hx with rfl | rfl | rfl | rfl | rfl
    · exact ⟨1, rfl, by decide, by decide⟩
    · exact ⟨1, rfl, by decide, by decide⟩
    · exact ⟨2, rfl, by decide, by decide⟩
    · exact ⟨3, rfl, by decide, by decide⟩
    · exact ⟨4, rfl, by decide, by decide⟩
  obtain ⟨b, rfl, hb, hb4⟩ := hx2
  have b0 : b ≠ 0 := by omega
  refine ad_nil (lowArg (n := 10) b0 (by show _ < 1024; omega) (by show _ < 1024; omega) (by decide) ?_)
  have lb := low_bd (t := 1 + (d : Int)) (n := 10) b0 (by show _ < 1024; omega) (by show _ < 1024; omega)
  rw [low_fr b0] at lb ⊢
  exact q _ (dv_pos (by omega) (by omega)) lb (ov12 (T := 30) (by omega) (by omega) hb hb4)
/-! drawn products -/
abbrev spDrawn : SpD := fun as Q => ∃ m n mo : Nat, as = [.pot, .val (.int (m : Int)), .val (.int (n : Int)), .val (.int (mo : Int))] ∧ 1 ≤ m ∧ m ≤ 8 ∧ n ≤ 8 ∧ mo ≤ 20 ∧ ∀ es : List Ent, GE m n 10 es → (∀ e ∈ es, Ov 12 360 e.2) → es.length ≤ mo → Q (.dcT (kvP es))
abbrev NDr : List Str := ["_law_pot_here", "_law_many", "_law_degree", "_law_most", "_law_found", "_law_turn"]
theorem sc_drn : FnScope NDr ["_law_pot_here", "_law_many", "_law_degree", "_law_most"] (defScope (top 71)) := ⟨rfl, rfl, rfl, by decide +kernel, rfl, by decide +kernel, by decide +kernel⟩
theorem ov_ins {M K0 : Nat} {es : List Ent} {k : List Int} {r : Rat} (h : ∀ e ∈ es, Ov M K0 e.2) (hr : Ov M K0 r) : ∀ e ∈ insP es k r, Ov M K0 e.2 := fun e he => by
  unfold insP at he
  split at he
  · obtain ⟨x, hx, rfl⟩ := List.mem_map.mp he
    by_cases y : x.1 = k
    · rw [if_pos y]; exact hr
    · rw [if_neg y]; exact h x hx
  · rcases List.mem_append.mp he with z | z
    · exact h e z
    · rw [List.mem_singleton.mp z]; exact hr
theorem ok_drn {f : Addr} {fd : FuncData} (F : FunS K "_law_drawn" "_law_drawn" (top 71) f fd) (T : Txt K mg C) (G : Df P w K mg base "_law_draw" 1 2 spDraw) (CN : Df P w K mg base "_law_counts" 2 3 spCnt) (AM : Df P w K mg base "_law_amount" 3 1 spAmt) : GnOk P w K mg base 4 f fd ["_law_pot_here", "_law_many", "_law_degree", "_law_most"] (lift K spDrawn) := by
  refine gn_dl F sc_drn (fun as Q h => by obtain ⟨_, _, _, rfl, _⟩ := h; rfl) (fun cdv A outer s H hr hG W as Q h => ?_)
  obtain ⟨m, n, mo, rfl, m1, m8, n8, mo20, q⟩ := h
  have nd := sc_drn.nd
  refine sds_cons (sd_newT 4 nd rfl ?_)
  refine sds_cons (sd_forR0 (N := mo) PassesOwn.never rfl T.range (fun i S' => ∃ o, ∃ es : List Ent, GE m n 10 es ∧ (∀ e ∈ es, Ov 12 360 e.2) ∧ es.length ≤ i ∧ S' = [some .pot, some (.val (.int (m : Int))), some (.val (.int (n : Int))), some (.val (.int (mo : Int))), some (.ownT (kvP es)), o]) ?_ ?_ ?_)
  · refine ad_cons (ed_call G (hr.mono (j := 1) (by decide)) hG (ad_pot 0 rfl rfl (ad_cons (ed_bin (nm 3 (ed_int (od_add (ad_nil ⟨(mo : Int) + 1, rfl, by omega, by omega, fun d hd => ad_nil ⟨d, rfl, by omega, by omega, none, [], GE.nil, nofun, Nat.le_refl _, rfl⟩⟩))))))))
  · rintro i S' hi ⟨o, es, ge, ov, li, rfl⟩
    refine gd_name 5 nd rfl ?_
    refine sds_cons (sd_putT 4 (kvP es) (un1 hr) rfl rfl (by rw [kvP_len]; omega) (ed_call AM hr hG (ad_pot 0 rfl rfl (ad_nil ⟨rfl, fun r rp rb ro => ?_⟩))))
    refine ed_call CN (hr.mono (j := 2) (by decide)) hG (ad_pot 0 rfl rfl (ad_cons (nm 1 (ad_cons (nm 2 (ad_nil ⟨m, n, rfl, m1, m8, n8, fun k lk nn sk => ⟨ik k, (tD_ik _).symm, ?_⟩⟩))))))
    rw [put_kvP]
    exact sds_nil ⟨_, insP es k r, ge_ins ge lk nn sk rp rb (by omega), ov_ins ov ro, Nat.le_trans ins_len (by omega), rfl⟩
  · rintro j S' hj ⟨o, es, ge, ov, li, rfl⟩
    refine sds_frzT 4 _ rfl ?_
    exact sds_cons (sd_ret (nm 4 (q es ge ov (by omega))))
end
end K15

set_option Elab.async false
set_option linter.all false
set_option maxRecDepth 100000
set_option maxHeartbeats 8000000
/-! k15: entries as they are passed, blends, what a blend tells -/
namespace K15
open PySem L2 DL
theorem paired_snoc {α β : Type} {R : α → β → Prop} {a : α} {b : β} (h : R a b) : ∀ {l : List α} {m : List β}, Paired R l m → Paired R (l ++ [a]) (m ++ [b])
  | _, _, .nil => .cons h .nil
  | _, _, .cons k t => .cons k (paired_snoc h t)
theorem ff {k : Nat} {A : Around} (r : Room k A) : A.units + 64 < cLine := by have := r.units; omega
section
variable {P : Program} {w : World} {K : PySem.W.Frag} {mg : Str → Option Value} {base : Heap} {C CB : Addr}
abbrev spEntr (C : Addr) : SpD := fun as Q => ∃ m n b : Nat, ∃ es, as = [.pot, .val (.dcT (kvP es))] ∧ 1 ≤ m ∧ n ≤ 8 ∧ b ≤ 1000 ∧ GE m n b es ∧ ∀ d xs ps, SeqD d xs → ps.Perm es → Paired (EntD C b) xs ps → Q d
abbrev NEn : List Str := ["_law_pot_here", "_law_own", "_law_found", "_law_counts_here", "_law_entry"]
theorem sc_ent : FnScope NEn ["_law_pot_here", "_law_own"] (defScope (top 72)) := ⟨rfl, rfl, rfl, by decide +kernel, rfl, by decide +kernel, by decide +kernel⟩
theorem ok_ent {f : Addr} {fd : FuncData} (F : FunS K "_law_entries" "_law_entries" (top 72) f fd) (T : Tb K mg C CB) (G : Df P w K mg base "_law_draw" 1 2 spDraw) (PI : Df P w K mg base "_law_pick" 2 2 spPick) (PA : Df P w K mg base "_law_passed" 4 2 (spPass C)) : GnOk P w K mg base 5 f fd ["_law_pot_here", "_law_own"] (lift K (spEntr C)) := by
  refine gn_dl F sc_ent (fun as Q h => by obtain ⟨_, _, _, _, rfl, _⟩ := h; rfl) (fun cdv A outer s H hr hG W as Q h => ?_)
  obtain ⟨m, n, b, es, rfl, m1, hn, hb, ge, q⟩ := h
  have nd := sc_ent.nd
  have ln := ge.ln
  refine sds_cons (sd_set 2 nd rfl (ed_lst (ad_nil ⟨[], rfl, by simp, ?_⟩)))
  refine sds_cons (sd_forL (l := (srt es).map fun e : Ent => tI e.1) PassesOwn.never rfl (fun i S' => ∃ o3 o4, ∃ xs ps, ps.Perm ((srt es).take i) ∧ Paired (EntD C b) xs ps ∧ S' = [some .pot, some (.val (.dcT (kvP es))), some (.val (.lst xs)), o3, o4]) (ed_callB T.sorted (ad_cons (nm 1 (ad_nil (cd_skeys rfl (un100 hr) m1 ge hn ⟨rfl, none, none, [], [], by rw [List.take_zero], .nil, rfl⟩))))) ?_ ?_)
  · rintro i d S' hi ⟨o3, o4, xs, ps, pm, pe, rfl⟩
    rw [List.getElem?_map] at hi
    obtain ⟨e, he, rfl⟩ := Option.map_eq_some_iff.mp hi
    have me := (srt_perm es).mem_iff.mp (List.mem_of_getElem? he)
    have lx : xs.length ≤ 200 := by
      rw [Paired.length pe, pm.length_eq, List.length_take, (srt_perm es).length_eq]
      omega
    refine gd_name 3 nd rfl ?_
    refine sds_cons (sd_mid (fun S' => ∃ kd ad, SeqD kd (e.1.map D.int) ∧ Nq C b ad e.2 ∧ S' = [some .pot, some (.val (.dcT (kvP es))), some (.val (.lst xs)), some (.val (tI e.1)), some (.val (.tup [kd, ad]))]) ?_ (sd_set 4 nd rfl (ed_tup (ad_cons (ed_call PI (hr.mono (j := 2) (by decide)) hG (ad_pot 0 rfl rfl ?_))))))
    rotate_left
    · refine ad_cons (ed_lst (ad_cons (nm 3 (ad_cons (ed_fd (fd_list T.T.list (nm 3 ⟨e.1.map D.int, .inr rfl, ?_⟩)))))))
      refine ad_nil ⟨[tI e.1, .lst (e.1.map D.int)], rfl, by simp, ad_nil ⟨_, rfl, by simp, by simp, fun x hx => ?_⟩⟩
      have hx2 : SeqD x (e.1.map D.int) := by
        simp only [List.mem_cons, List.not_mem_nil, or_false] at hx
        rcases hx with rfl | rfl
        · exact .inr rfl
        · exact .inl rfl
      refine ad_cons (ed_call PA hr hG (ad_pot 0 rfl rfl (ad_cons (ed_dget (un1 hr) (nm 1 (nm 3 ⟨_, ik e.1, _, rfl, (tD_ik _).symm, look_kvP ge.nd me, ad_nil ⟨b, e.2, rfl, hb, ge.bq e me, fun ad na => ad_nil ⟨[x, ad], rfl, by simp, x, ad, hx2, na, rfl⟩⟩⟩))))))
    rintro S' ⟨kd, ad, sd, na, rfl⟩
    have ed : EntD C b (.tup [kd, ad]) e := ⟨kd, ad, rfl, sd, na⟩
    have tk : (srt es).take (i + 1) = (srt es).take i ++ [e] := by rw [List.take_add_one, he]; rfl
    refine sds_cons (sd_set 2 nd rfl (ed_ifx (td_cmp (ed_call G (hr.mono (j := 1) (by decide)) hG (ad_pot 0 rfl rfl (ad_cons (ed_int (ad_nil ⟨2, rfl, by decide, by decide, fun d hd => ed_int (od_eqi (kB ?_))⟩))))))))
    cases decide ((d : Int) = 0) with
    | true =>
      show ED _ _ _ _ _
      refine ed_bin (nm 2 (ed_lst (ad_cons (nm 4 (ad_nil ⟨[.tup [kd, ad]], rfl, by simp, od_catL (l := xs) (m := [.tup [kd, ad]]) (by rw [List.length_singleton]; omega) ?_⟩)))))
      exact sds_nil ⟨_, _, xs ++ [.tup [kd, ad]], ps ++ [e], by rw [tk]; exact pm.append_right _, paired_snoc ed pe, rfl⟩
    | false =>
      show ED _ _ _ _ _
      refine ed_bin (ed_lst (ad_cons (nm 4 (ad_nil ⟨[.tup [kd, ad]], rfl, by simp, nm 2 (od_catL (l := [.tup [kd, ad]]) (m := xs) (by rw [List.length_singleton]; omega) ?_)⟩))))
      refine sds_nil ⟨_, _, [.tup [kd, ad]] ++ xs, [e] ++ ps, ?_, .cons ed pe, rfl⟩
      rw [tk]
      exact (List.perm_append_comm.trans (pm.append_right [e]))
  · rintro S' ⟨o3, o4, xs, ps, pm, pe, rfl⟩
    rw [List.length_map, List.take_length] at pm
    have pm' := pm.trans (srt_perm es)
    refine sds_cons (sd_ret (ed_ifx (td_cmp (ed_call G (hr.mono (j := 1) (by decide)) hG (ad_pot 0 rfl rfl (ad_cons (ed_int (ad_nil ⟨3, rfl, by decide, by decide, fun d hd => ed_int (od_gt (kB ?_))⟩))))))))
    cases decide ((0 : Int) < (d : Int)) with
    | true =>
      show ED _ _ _ _ _
      exact nm 2 (q _ xs ps (.inl rfl) pm' pe)
    | false =>
      show ED _ _ _ _ _
      exact ed_callTy T.T.tuple (ad_cons (nm 2 (ad_nil (cd_tuple (q _ xs ps (.inr rfl) pm' pe)))))
/-! a blend -/
abbrev spBln (C CB : Addr) : SpD := fun as Q => ∃ z, ∃ m n b : Nat, ∃ es, as = [.pot, .val (.str (SX.S z)), .val (.dcT (kvP es))] ∧ LetZ z ∧ z.length = m ∧ n ≤ 8 ∧ b ≤ 1000 ∧ GE m n b es ∧ Q (Bo C CB z n (srt es))
theorem sc_bln : FnScope ["_law_pot_here", "_law_letters_here", "_law_own"] ["_law_pot_here", "_law_letters_here", "_law_own"] (defScope (top 73)) := ⟨rfl, rfl, rfl, by decide +kernel, rfl, by decide +kernel, by decide +kernel⟩
theorem ok_bln {f : Addr} {fd : FuncData} (F : FunS K "_law_blend" "_law_blend" (top 73) f fd) (V : Bt P w K mg base C CB) (EN : Df P w K mg base "_law_entries" 5 2 (spEntr C)) : GnOk P w K mg base 9 f fd ["_law_pot_here", "_law_letters_here", "_law_own"] (lift K (spBln C CB)) := by
  refine gn_dl F sc_bln (fun as Q h => by obtain ⟨_, _, _, _, _, rfl, _⟩ := h; rfl) (fun cdv A outer s H hr hG W as Q h => ?_)
  obtain ⟨z, m, n, b, es, rfl, hz, hm, hn, hb, ge, q⟩ := h
  have m1 : 1 ≤ m := by rw [← hm]; exact hz.l1
  refine sds_cons (sd_ret (ed_makeA V.mkA (hr.mono (j := 8) (by decide)) hG (ad_cons (nm 1 (ad_cons (ed_call EN (hr.mono (j := 5) (by decide)) hG (ad_pot 0 rfl rfl (ad_cons (nm 2 (ad_nil ⟨m, n, b, es, rfl, m1, hn, hb, ge, fun d xs ps sd pm pe => ad_nil (.inl ⟨z, m, n, b, ps, xs, d, rfl, sd, hz, hm, hn, hb, ge.perm pm, pe, ?_⟩)⟩))))))))))
  rw [srt_congr ge hn pm]
  exact q
/-! len -/
abbrev spBLen (C CB : Addr) : SpD := fun as Q => ∃ z n es, as = [.val (Bo C CB z n es)] ∧ Q (.int (es.length : Int))
/-! what a blend tells -/
abbrev spTold (C CB : Addr) : SpD := fun as Q => ∃ z, ∃ m n b : Nat, ∃ es, as = [.val (Bo C CB z n es), .val (.str (SX.S z))] ∧ LetZ z ∧ z.length = m ∧ n ≤ 8 ∧ b ≤ 1000 ∧ GE m n b es ∧ srt es = es ∧ Q (.dcT (kvP es))
abbrev NTo : List Str := ["_law_blend_here", "_law_letters_here", "_law_found", "_law_entry", "_law_degree"]
end
end K15

set_option Elab.async false
set_option linter.all false
set_option maxRecDepth 100000
set_option maxHeartbeats 4000000
/-! for x, y, z in zip(a, b, c) -/
namespace Z3
open PySem PySem.Spec PyProof.Rows ZX
def ItAt : Bool → Addr → Addr → Nat → Heap → Prop
  | true => fun it l i h => h.IsTupleIter it l i
  | false => fun it l i h => h.IsListIter it l i
theorem ItAt.at {t : Bool} {it l : Addr} {i : Nat} {h h' : Heap} (x : ItAt t it l i h) (k : ∀ o, h.get? it = some o → h'.get? it = some o) : ItAt t it l i h' := by
  cases t with
  | true => exact Heap.IsTupleIter.at x k
  | false => exact Heap.IsListIter.at x k
theorem ItAt.obj {t : Bool} {it l : Addr} {i : Nat} {h : Heap} (x : ItAt t it l i h) : ∃ o, h.get? it = some o ∧ ∀ v, o.data ≠ .cell v := by
  cases t with
  | true =>
    obtain ⟨o, ho, _, d⟩ := x
    exact ⟨o, ho, fun v q => by rw [d] at q; cases q⟩
  | false =>
    obtain ⟨o, ho, _, d⟩ := x
    exact ⟨o, ho, fun v q => by rw [d] at q; cases q⟩
theorem drawsB {prog : Program} {w : World} {A : Around} (t : Bool) (hh : A.handled = none) (it l : Addr) (hne : l ≠ it) (items : Array Value) :
    Draws prog w A it [it, l] items.size (fun i v => items[i]? = some v) (fun i h => ItAt t it l i h ∧ Stand t h l items) := by
  cases t with
  | true => exact Draws.tuple hh it l hne items
  | false => exact Draws.list hh it l hne items
/-- how the zip stands ahead of turn i -/
structure St (t u v : Bool) (a b c z TI TO i1 i2 i3 : Addr) (i : Nat) (h : Heap) : Prop where
  z : IsZip h z TI TO .none
  ti : IsTupOf3 h TI (.ref i1) (.ref i2) (.ref i3)
  to : ∃ x y w, IsTupOf3 h TO x y w
  f : ItAt t i1 a i h
  g : ItAt u i2 b i h
  e : ItAt v i3 c i h
end Z3
namespace DL
open PySem PySem.Spec PyProof.Rows L2 ZX Z3
def Itm3 (K : PySem.W.Frag) (t u v : Bool) (a b c : Addr) : It where
  go := fun i H => ∃ (xs ys ws : List V) (x y w : V), SqB K t H a xs ∧ SqB K u H b ys ∧ SqB K v H c ws ∧ xs[i]? = some x ∧ ys[i]? = some y ∧ ws[i]? = some w
  yld := fun i H r H' => ∃ T x y w, r = .ref T ∧ H T = none ∧ H' = upd H T (.tup [x, y, w]) ∧ (∀ xs, SqB K t H a xs → xs[i]? = some x) ∧ (∀ ys, SqB K u H b ys → ys[i]? = some y) ∧ ∀ ws, SqB K v H c ws → ws[i]? = some w
  stop := fun i H => ∃ xs ys ws : List V, SqB K t H a xs ∧ SqB K u H b ys ∧ SqB K v H c ws ∧ i ≤ xs.length ∧ i ≤ ys.length ∧ i ≤ ws.length ∧ (i = xs.length ∨ i = ys.length ∨ i = ws.length)
theorem turn_m3 {P : Program} {w : World} {K : PySem.W.Frag} {elts : List Expr} {kk : Nat} {tpos : Pos} {t u v : Bool} {a b c z TI TO i1 i2 i3 : Addr} (D : ZipSep3 z TI TO i1 i2 i3 [i1, a] [i2, b] [i3, c]) (na : a ≠ i1) (nb : b ≠ i2) (nc : c ≠ i3) : Turn P w K (.Tuple elts kk tpos) (Itm3 K t u v a b c) [z, TI, TO, i1, i2, i3] z (Z3.St t u v a b c z TI TO i1 i2 i3) where
  mem := by simp
  obj := fun i h st q hq => by
    obtain ⟨x, y, r, hTO⟩ := st.to
    have e : q = z ∨ q = TI ∨ q = TO ∨ q = i1 ∨ q = i2 ∨ q = i3 := by simpa using hq
    rcases e with e | e | e | e | e | e <;> subst e
    · exact ⟨_, st.z, fun v q => nomatch q⟩
    · exact ⟨_, st.ti, fun v q => nomatch q⟩
    · exact ⟨_, hTO, fun v q => nomatch q⟩
    · exact st.f.obj
    · exact st.g.obj
    · exact st.e.obj
  keep := fun i h h' st k => by
    obtain ⟨x, y, r, hTO⟩ := st.to
    exact ⟨k z (by simp) _ st.z, k TI (by simp) _ st.ti, ⟨x, y, r, k TO (by simp) _ hTO⟩, st.f.at (k i1 (by simp)), st.g.at (k i2 (by simp)), st.e.at (k i3 (by simp))⟩
  item := by
    intro X hP hw hK hc i pins s σ H E I hf st hg
    subst hP hw hK
    obtain ⟨xs, ys, ws, x, y, r, qx, qy, qw, hx, hy, hr⟩ := hg
    obtain ⟨m1, r1, p1⟩ := qx.stand I
    obtain ⟨m2, r2, p2⟩ := qy.stand I
    obtain ⟨m3, r3, p3⟩ := qw.stand I
    obtain ⟨v1, e1, rv1⟩ := r1.get hx
    obtain ⟨v2, e2, rv2⟩ := r2.get hy
    obtain ⟨v3, e3, rv3⟩ := r3.get hr
    obtain ⟨x0, y0, z0, hTO⟩ := st.to
    have zlt : z < s.heap.objs.size := Heap.lt_size st.z
    have hd : X.A.in1.handled = none := I.ok.hd hc
    have l1 : i < m1.toArray.size := by rw [List.size_toArray]; exact (List.getElem?_eq_some_iff.mp e1).1
    have l2 : i < m2.toArray.size := by rw [List.size_toArray]; exact (List.getElem?_eq_some_iff.mp e2).1
    have l3 : i < m3.toArray.size := by rw [List.size_toArray]; exact (List.getElem?_eq_some_iff.mp e3).1
    refine wpAny_pyNext_zipD3_item D (drawsB t hd i1 a na m1.toArray) (drawsB u hd i2 b nb m2.toArray) (drawsB v hd i3 c nc m3.toArray) st.z st.ti hTO ⟨st.f, p1⟩ ⟨st.g, p2⟩ ⟨st.e, p3⟩ l1 l2 l3 fun u1 u2 u3 h' tk y1 y2 y3 z' t' f' g' e' T' size' keep => ?_
    have q1 : u1 = v1 := by
      have y1' : m1.toArray[i]? = some u1 := y1
      rw [List.getElem?_toArray, e1] at y1'
      exact (Option.some.inj y1').symm
    have q2 : u2 = v2 := by
      have y1' : m2.toArray[i]? = some u2 := y2
      rw [List.getElem?_toArray, e2] at y1'
      exact (Option.some.inj y1').symm
    have q3 : u3 = v3 := by
      have y1' : m3.toArray[i]? = some u3 := y3
      rw [List.getElem?_toArray, e3] at y1'
      exact (Option.some.inj y1').symm
    subst q1 q2 q3
    refine ⟨_, rfl, wpAny_letOwnedTupleGo_zip (s := { s with heap := h', toks := tk }) z' fun h'' z'' sb => ?_⟩
    have T2 : h''.get? s.heap.objs.size = some { cls := .type "tuple", data := .seq #[u1, u2, u3] } := (sb.2 _ (Nat.ne_of_gt zlt)).trans T'
    have new : ObjOk X.prog X.w (upd H s.heap.objs.size (.tup [x, y, r])) h'' s.heap.objs.size (.tup [x, y, r]) := ⟨by show 3 ≤ sizeLine; decide, [u1, u2, u3], .cons rv1 (.cons rv2 (.cons rv3 .nil)), ⟨_, T2, rfl, _, rfl⟩⟩
    have far : ∀ c, c ∉ [z, TI, TO, i1, i2, i3] → c ≠ z ∧ c ≠ TO ∧ c ≠ i1 ∧ c ≠ i2 ∧ c ≠ i3 := fun c hb => ⟨fun q => hb (by simp [q]), fun q => hb (by simp [q]), fun q => hb (by simp [q]), fun q => hb (by simp [q]), fun q => hb (by simp [q])⟩
    have I1 : Inv X pins σ (upd H s.heap.objs.size (.tup [x, y, r])) { s with heap := h'', toks := tk } :=
      I.turnedNew (t' := tk) (ch := [z, TI, TO, i1, i2, i3]) (fun c o hb q => let ⟨q1, q2, q3, q4, q5⟩ := far c hb; (sb.2 c q1).trans (keep c o q1 q2 q3 q4 q5 q)) hf (Nat.le_refl _) new
    refine ⟨.ref s.heap.objs.size, _, I1, rfl, ⟨_, x, y, r, rfl, I.hok.fresh (Nat.le_refl _), rfl, fun l hl => by rw [hl.inj I qx]; exact hx, fun l hl => by rw [hl.inj I qy]; exact hy, fun l hl => by rw [hl.inj I qw]; exact hr⟩, ⟨z'', ?_, ⟨u1, u2, u3, ?_⟩, ?_, ?_, ?_⟩, fun c hcm => ?_⟩
    · exact (sb.2 _ D.TIz).trans (keep _ _ D.TIz D.TITO D.TIi1 D.TIi2 D.TIi3 st.ti)
    · exact (sb.2 _ D.TOz).trans t'
    · exact f'.1.at fun o e => (sb.2 _ D.zi1.symm).trans e
    · exact g'.1.at fun o e => (sb.2 _ D.zi2.symm).trans e
    · exact e'.1.at fun o e => (sb.2 _ D.zi3.symm).trans e
    · have lt : c < s.heap.objs.size := by
        have e' : c = z ∨ c = TI ∨ c = TO ∨ c = i1 ∨ c = i2 ∨ c = i3 := by simpa using hcm
        rcases e' with q | q | q | q | q | q <;> rw [q]
        · exact zlt
        · exact Heap.lt_size st.ti
        · exact Heap.lt_size hTO
        · obtain ⟨_, e, _⟩ := st.f.obj; exact Heap.lt_size e
        · obtain ⟨_, e, _⟩ := st.g.obj; exact Heap.lt_size e
        · obtain ⟨_, e, _⟩ := st.e.obj; exact Heap.lt_size e
      rw [upd_ne (Nat.ne_of_lt lt)]
      exact (hf c hcm).1
  done := by
    intro X hP hw hK hc i pins s σ H E I hf st hg
    subst hP hw hK
    obtain ⟨xs, ys, ws, qx, qy, qw, h1, h2, h3, hend⟩ := hg
    obtain ⟨m1, r1, p1⟩ := qx.stand I
    obtain ⟨m2, r2, p2⟩ := qy.stand I
    obtain ⟨m3, r3, p3⟩ := qw.stand I
    have l1 := r1.length
    have l2 := r2.length
    have l3 := r3.length
    obtain ⟨x0, y0, z0, hTO⟩ := st.to
    have hd : X.A.in1.handled = none := I.ok.hd hc
    refine wpAny_pyNext_zipD3_end D (drawsB t hd i1 a na m1.toArray) (drawsB u hd i2 b nb m2.toArray) (drawsB v hd i3 c nc m3.toArray) st.z st.ti hTO ⟨st.f, p1⟩ ⟨st.g, p2⟩ ⟨st.e, p3⟩ (by rw [List.size_toArray]; omega) (by rw [List.size_toArray]; omega) (by rw [List.size_toArray]; omega) (by rw [List.size_toArray, List.size_toArray, List.size_toArray]; omega) fun h' tk keep =>
      ⟨rfl, I.turnedL (t' := tk) (ch := [z, TI, TO, i1, i2, i3]) (fun c o hb q => keep c o (fun q' => hb (by simp [q'])) (fun q' => hb (by simp [q'])) (fun q' => hb (by simp [q'])) (fun q' => hb (by simp [q'])) (fun q' => hb (by simp [q'])) q) hf⟩
  self := fun A i s Q E st h => wpAny_pyIter_zip st.z h
theorem beginsB (t : Bool) (l : Addr) (items : Array Value) : ∃ o, Begins (.ref l) o (fun h => Stand t h l items) ∧ ∀ (h : Heap) it, h.get? it = some o → ItAt t it l 0 h := by
  cases t with
  | true => exact ⟨_, begins_tuple l items, fun h it e => ⟨_, e, rfl, rfl⟩⟩
  | false => exact ⟨_, begins_list l items, fun h it e => ⟨_, e, rfl, rfl⟩⟩
def iZm3 (K : PySem.W.Frag) (ta : TA) : TI := fun σ H R => ta σ H fun vs H1 => ∃ t u v a b c xs ys ws, vs = [.ref a, .ref b, .ref c] ∧ SqB K t H1 a xs ∧ SqB K u H1 b ys ∧ SqB K v H1 c ws ∧ R (Itm3 K t u v a b c) H1
theorem pi_zm3 {X : Cx} {e e2 e3 : Expr} {ta : TA} {p pos tpos : Pos} {elts : List Expr} {kk : Nat} (hg : Gl X "zip") (hm : X.mg "zip" = none) (ha : PA X [e, e2, e3] ta)
    (hs : starEach [e, e2, e3] X.env = (false, eval e X.env) :: starEach [e2, e3] X.env) (hpl : (backTo pos (starEach [e2, e3] X.env)).any (·.1) = false) : PI X (.Tuple elts kk tpos) (.Call (.Name "zip" p) [e, e2, e3] [] pos) (iZm3 X.K ta) := by
  refine ⟨fun pins s σ H R I h => Call_ (ld_blt I hg hm PyProof.Rows.boot_zip (PyProof.Rows.callWith_type1 (thn (ha.run pos pins s σ H _ I h) fun us s1 ⟨vs, H1, I1, rv, q1⟩ => ?_) hs hpl))⟩
  obtain ⟨t, u, v, a, b, c, xs, ys, ws, rfl, qx, qy, qw, q⟩ := q1
  obtain ⟨v1, v2, v3, rfl, r1, r2, r3⟩ := (show ∃ v1 v2 v3, us = [v1, v2, v3] ∧ RelV (.ref a) v1 ∧ RelV (.ref b) v2 ∧ RelV (.ref c) v3 from by
    cases rv with
    | cons r rr => cases rr with
      | cons r' rr => cases rr with
        | cons r'' rr => cases rr; exact ⟨_, _, _, rfl, r, r', r''⟩)
  cases r1
  cases r2
  cases r3
  obtain ⟨m1, w1, p1⟩ := qx.stand I1
  obtain ⟨m2, w2, p2⟩ := qy.stand I1
  obtain ⟨m3, w3, p3⟩ := qw.stand I1
  obtain ⟨o1, B1, f1⟩ := beginsB t a m1.toArray
  obtain ⟨o2, B2, f2⟩ := beginsB u b m2.toArray
  obtain ⟨o3, B3, f3⟩ := beginsB v c m3.toArray
  have la := stand_lt p1
  have lb := stand_lt p2
  have lc := stand_lt p3
  refine zip_begins3 B1 B2 B3 p1 p2 p3 fun h' z' ti' to' g1 g2 g3 size' hk => wpAny_pyIter_zip z' ?_
  have I2 : Inv X pins σ H1 { s1 with heap := h' } := I1.kept (t' := s1.toks) hk
  refine ⟨s1.heap.objs.size + 5, [s1.heap.objs.size + 5, s1.heap.objs.size + 3, s1.heap.objs.size + 4, s1.heap.objs.size, s1.heap.objs.size + 1, s1.heap.objs.size + 2], _, _, H1, rfl, I2, turn_m3 (zip_sep3 (fp1 := [a]) (fp2 := [b]) (fp3 := [c]) (by simpa using la) (by simpa using lb) (by simpa using lc)) (Nat.ne_of_lt la) (Nat.ne_of_lt (Nat.lt_succ_of_lt lb)) (Nat.ne_of_lt (Nat.lt_succ_of_lt (Nat.lt_succ_of_lt lc))), ⟨z', ti', ⟨_, _, _, to'⟩, f1 _ _ g1, f2 _ _ g2, f3 _ _ g3⟩, fun c hc => ?_, q⟩
  have le : s1.heap.objs.size ≤ c := by
    have e' : c = s1.heap.objs.size + 5 ∨ c = s1.heap.objs.size + 3 ∨ c = s1.heap.objs.size + 4 ∨ c = s1.heap.objs.size ∨ c = s1.heap.objs.size + 1 ∨ c = s1.heap.objs.size + 2 := by simpa using hc
    rcases e' with q | q | q | q | q | q <;> rw [q]
    · exact Nat.le_add_right _ _
    · exact Nat.le_add_right _ _
    · exact Nat.le_add_right _ _
    · exact Nat.le_refl _
    · exact Nat.le_add_right _ _
    · exact Nat.le_add_right _ _
  exact I1.fpOk le (I1.hok.fresh le)
section
variable {X : Cx} {B : Hp} {W0 : Wd} {S : En} {pos p p1 : Pos} {e e2 e3 : Expr} {E : Ends'}
theorem three_args {K : PySem.W.Frag} {W : Wd} {d d' d2 : D} {vs : List V} (h : Args K W [.val d, .val d', .val d2] vs) : ∃ v u r, vs = [v, u, r] ∧ Dn K W.I d v ∧ Dn K W.I d' u ∧ Dn K W.I d2 r := by
  cases h with
  | cons h r => cases r with
    | cons h' r' => cases r' with
      | cons h2 r2 => cases r2; exact ⟨_, _, _, rfl, h, h', h2⟩
/-- for x, y, z in zip(a, b, c), all alike long -/
theorem sd_forZ3 {elts : List Expr} {kk : Nat} {tpos : Pos} {body : List Stmt} {l l' l2 : List D} (hp : PassesOwn (model X.prog X.w) X.A X.env X.xe) (hc : X.calm = true) (hm : X.mg "zip" = none) (hll : l.length = l'.length) (hl2 : l.length = l2.length) (Inv : Nat → En → Prop)
    (h : AD X B S [e, e2, e3] fun as => ∃ d d' d2, as = [.val d, .val d', .val d2] ∧ SeqD d l ∧ SeqD d' l' ∧ SeqD d2 l2 ∧ Inv 0 S)
    (hs : ∀ (i : Nat) d d' d2 S', l[i]? = some d → l'[i]? = some d' → l2[i]? = some d2 → Inv i S' → GD X B W0 S' (.Tuple elts kk tpos) (.tup [d, d', d2]) fun S2 => SDs X B W0 S2 body { nx := Inv (i + 1), rt := E.rt, bk := E.nx, ct := Inv (i + 1) })
    (hd : ∀ S', Inv l.length S' → E.nx S') (hg : Gl X "zip" := by rfl) (hst : starEach [e, e2, e3] X.env = (false, eval e X.env) :: starEach [e2, e3] X.env := by rfl) (hpl : (backTo p1 (starEach [e2, e3] X.env)).any (·.1) = false := by rfl)
    (hf : ∀ x, foldedSetIterable (.Call (.Name "zip" p) [e, e2, e3] [] p1) X.env x = pure x := by intro _; rfl) :
    SD X B W0 S (.For (.Tuple elts kk tpos) (.Call (.Name "zip" p) [e, e2, e3] [] p1) body [] pos) E := fun σ W H r z D' k => by
  refine PS.w (ps_for hp hc (pi_zm3 hg hm wa_pa hst hpl) wg_pg wss_pss hf) ?_
  refine h σ W H r _ fun as vs W1 H1 s1 ok1 n1 q1 => ?_
  obtain ⟨d, d', d2, rfl, sd, sd', sd2, i0⟩ := q1
  obtain ⟨v, v', v2, rfl, m, m', m2⟩ := three_args n1
  obtain ⟨t, a, xs, rfl, w, hx⟩ := sd.at m
  obtain ⟨u, b, ys, rfl, w', hy⟩ := sd'.at m'
  obtain ⟨tt, c, ws, rfl, w2, hw⟩ := sd2.at m2
  have lxy : xs.length = ys.length := by rw [← w.length, ← w'.length, hll]
  have lxw : xs.length = ws.length := by rw [← w.length, ← w2.length, hl2]
  refine ⟨t, u, tt, a, b, c, xs, ys, ws, rfl, hx _ ok1.ex, hy _ ok1.ex, hw _ ok1.ex, fun i n σ' H' => n = xs.length - i ∧ i ≤ xs.length ∧ ∃ S' W', Rep X.K (gOf X) B S' σ' W' H' ∧ Stp W0 B W' H' ∧ Ex W1.I W'.I ∧ Inv i S', ⟨_, rfl, Nat.zero_le _, S, W1, r.step s1 ok1, z.trans r.ok s1, Ex.refl _, i0⟩, ?_⟩
  rintro i n σ' H' ⟨rfl, lx, S', W', r', z', e', i'⟩
  have qx := hx H' fun c o y => r'.ok.ex _ _ (e' _ _ y)
  have qy := hy H' fun c o y => r'.ok.ex _ _ (e' _ _ y)
  have qw := hw H' fun c o y => r'.ok.ex _ _ (e' _ _ y)
  by_cases c : i < xs.length
  · have ex : xs[i]? = some xs[i] := List.getElem?_eq_getElem c
    have ey : ys[i]? = some (ys[i]'(lxy ▸ c)) := List.getElem?_eq_getElem (lxy ▸ c)
    have ew : ws[i]? = some (ws[i]'(lxw ▸ c)) := List.getElem?_eq_getElem (lxw ▸ c)
    refine .inr ⟨⟨xs, ys, ws, _, _, _, qx, qy, qw, ex, ey, ew⟩, fun σ2 H2 => ∃ S2 W2, Rep X.K (gOf X) B S2 σ2 W2 H2 ∧ Stp W0 B W2 H2 ∧ Ex W1.I W2.I ∧ Inv (i + 1) S2, fun σ2 H2 y => ⟨xs.length - (i + 1), by omega, rfl, c, y⟩, ?_⟩
    rintro x H2 ⟨T, x1, y1, w1, rfl, hT, rfl, f1, f2, f3⟩
    have e1 := f1 xs qx
    have e2 := f2 ys qy
    have e3 := f3 ws qw
    obtain ⟨d1, hd1, nd1⟩ := w.get e1
    obtain ⟨d2, hd2, nd2⟩ := w'.get e2
    obtain ⟨d3, hd3, nd3⟩ := w2.get e3
    have st := Stp.new (o := .tup [x1, y1, w1]) r'.ok hT
    have ok2 := r'.ok.new (o := .tup [x1, y1, w1]) hT
    refine hs i d1 d2 d3 S' hd1 hd2 hd3 i' σ' _ _ _ (r'.step st ok2) (z'.trans r'.ok st) (.tup (show upd W'.I T _ T = _ from upd_same) (.cons ((nd1.mono e').mono st.I) (.cons ((nd2.mono e').mono st.I) (.cons ((nd3.mono e').mono st.I) .nil)))) _ fun S3 σ3 W3 H3 r3 z3 e3 q3 => ?_
    have e4 := (e'.trans st.I).trans e3
    exact q3 σ3 W3 H3 r3 z3 _ ⟨fun S5 σ5 W5 H5 r5 z5 e5 q5 => ⟨S5, W5, r5, z5, e4.trans e5, q5⟩, fun d5 v5 W5 H5 r5 z5 e5 n5 q5 => k.rt d5 v5 W5 H5 r5 z5 ((s1.I.trans e4).trans e5) n5 q5,
      fun S5 σ5 W5 H5 r5 z5 e5 q5 => k.nx S5 σ5 W5 H5 r5 z5 ((s1.I.trans e4).trans e5) q5, fun S5 σ5 W5 H5 r5 z5 e5 q5 => ⟨S5, W5, r5, z5, e4.trans e5, q5⟩⟩
  · refine .inl ⟨⟨xs, ys, ws, qx, qy, qw, by omega, by omega, by omega, .inl (by omega)⟩, ?_⟩
    have : i = l.length := by rw [w.length]; omega
    rw [this] at i'
    exact k.nx S' σ' W' H' r' z' (s1.I.trans e') (hd S' i')
end
end DL

set_option Elab.async false
set_option linter.all false
set_option maxRecDepth 100000
set_option maxHeartbeats 8000000
/-! k15: numbers along lines -/
namespace K15
open PySem L2 DL
abbrev RF (C : Addr) (r : Rat) : D := Ra C (fr r)
def Tl (line : List Rat) (w c : Rat) : List Rat := List.zipWith (· + ·) (line.map (· * w) ++ [0]) (0 :: line.map (· * c))
def rep (line : List Rat) (w c : Rat) : Nat → List Rat
  | 0 => line
  | n + 1 => Tl (rep line w c n) w c
def partL : List Rat → List Int → List Rat → List Rat → List Rat
  | l, k :: ks, w :: ws, c :: cs => partL (rep l w c k.toNat) ks ws cs
  | l, _, _, _ => l
def lineR (n : Nat) (es : List Ent) (ws cs : List Rat) : List Rat := es.foldl (fun line e => List.zipWith (· + ·) line (partL [e.2] e.1 ws cs)) (List.replicate (n + 1) 0)
theorem tl_len {line : List Rat} {w c : Rat} : (Tl line w c).length = line.length + 1 := by
  unfold Tl
  rw [List.length_zipWith, List.length_append, List.length_map, List.length_singleton, List.length_cons, List.length_map]
  omega
/-! what stands ahead -/
def mulN (a w : Rat) : Nat → Rat
  | 0 => a
  | n + 1 => mulN a w n * w
def mono : Rat → List Int → List Rat → Rat
  | a, k :: ks, w :: ws => mono (mulN a w k.toNat) ks ws
  | a, _, _ => a
def wsum (es : List Ent) (ws : List Rat) : Rat := es.foldl (fun s e => s + mono e.2 e.1 ws) 0
theorem hd_tl {x : Rat} {l : List Rat} {w c : Rat} : (Tl (x :: l) w c).getD 0 0 = x * w ∧ Tl (x :: l) w c ≠ [] := by
  refine ⟨?_, fun h => ?_⟩
  · show x * w + 0 = x * w
    exact Rat.add_zero _
  · have := congrArg List.length h
    rw [tl_len] at this
    cases this
theorem hd_rep {l : List Rat} (h : l ≠ []) (w c : Rat) : ∀ k : Nat, (rep l w c k).getD 0 0 = mulN (l.getD 0 0) w k ∧ rep l w c k ≠ []
  | 0 => ⟨rfl, h⟩
  | k + 1 => by
    obtain ⟨h1, h2⟩ := hd_rep h w c k
    cases e : rep l w c k with
    | nil => exact absurd e h2
    | cons x xs =>
      rw [e] at h1
      have h3 : x = mulN (l.getD 0 0) w k := h1
      obtain ⟨g1, g2⟩ := hd_tl (x := x) (l := xs) (w := w) (c := c)
      show (Tl (rep l w c k) w c).getD 0 0 = mulN (l.getD 0 0) w k * w ∧ Tl (rep l w c k) w c ≠ []
      rw [e, g1, h3]
      exact ⟨rfl, h3 ▸ g2⟩
theorem hd_part : ∀ {l : List Rat} {ks : List Int} {ws cs : List Rat}, l ≠ [] → ks.length = ws.length → ks.length = cs.length → (partL l ks ws cs).getD 0 0 = mono (l.getD 0 0) ks ws ∧ partL l ks ws cs ≠ []
  | l, [], [], [], h, _, _ => ⟨rfl, h⟩
  | l, k :: ks, w :: ws, c :: cs, h, e1, e2 => by
    obtain ⟨h1, h2⟩ := hd_rep h w c k.toNat
    have := hd_part (l := rep l w c k.toNat) (ks := ks) (ws := ws) (cs := cs) h2 (Nat.succ.inj e1) (Nat.succ.inj e2)
    rw [h1] at this
    exact this
theorem hd_zip {a b : List Rat} (ha : a ≠ []) (hb : b ≠ []) : (List.zipWith (· + ·) a b).getD 0 0 = a.getD 0 0 + b.getD 0 0 ∧ List.zipWith (· + ·) a b ≠ [] := by
  cases a with
  | nil => exact absurd rfl ha
  | cons x a => cases b with
    | nil => exact absurd rfl hb
    | cons y b => exact ⟨rfl, by simp⟩
theorem hd_fold {m : Nat} {ws cs : List Rat} (hw : ws.length = m) (hc : cs.length = m) : ∀ {es : List Ent} {l : List Rat}, (∀ e ∈ es, e.1.length = m) → l ≠ [] → (es.foldl (fun line e => List.zipWith (· + ·) line (partL [e.2] e.1 ws cs)) l).getD 0 0 = es.foldl (fun s e => s + mono e.2 e.1 ws) (l.getD 0 0)
  | [], l, _, _ => rfl
  | e :: es, l, hm, hl => by
    obtain ⟨p1, p2⟩ := hd_part (l := [e.2]) (ks := e.1) (ws := ws) (cs := cs) (by simp) (by rw [hm e (List.mem_cons_self ..), hw]) (by rw [hm e (List.mem_cons_self ..), hc])
    obtain ⟨z1, z2⟩ := hd_zip hl p2
    rw [List.foldl_cons, List.foldl_cons, hd_fold hw hc (fun x hx => hm x (List.mem_cons_of_mem _ hx)) z2, z1, p1]
    rfl
theorem hd_line {m n : Nat} {es : List Ent} {ws cs : List Rat} (hw : ws.length = m) (hc : cs.length = m) (hm : ∀ e ∈ es, e.1.length = m) : (lineR n es ws cs).getD 0 0 = wsum es ws := by
  unfold lineR wsum
  rw [hd_fold hw hc hm (by simp)]
  rfl
/-! bounds -/
theorem bq0 {n : Nat} (h : 1 ≤ n) : Bq n (0 : Rat) := Bq.int (i := 0) (by show 0 < 2 ^ n; exact Nat.pow_pos (by decide)) h
theorem tl_ov {M N K0 L : Nat} {line : List Rat} {w c : Rat} (m0 : 0 < M) (n0 : 0 < N) (h : ∀ r ∈ line, Ov M K0 r) (hw : Ov N L w) (hc : Ov N L c) : ∀ r ∈ Tl line w c, Ov (M * N) (K0 * (2 * L + 1)) r := fun r hr => by
  have mn : 0 < M * N := Nat.mul_pos m0 n0
  obtain ⟨i, hi, e⟩ := List.getElem_of_mem hr
  have gi : (Tl line w c)[i]? = some r := by rw [List.getElem?_eq_getElem hi, e]
  unfold Tl at gi
  rw [List.getElem?_zipWith] at gi
  have el : ∀ {x : Rat} {q : Rat}, Ov N L q → (x = 0 ∨ ∃ y ∈ line, x = y * q) → Ov (M * N) (K0 * L) x := fun {x q} hq hx => by
    rcases hx with rfl | ⟨y, hy, rfl⟩
    · exact Ov.zero.mono (Nat.zero_le _)
    · exact (h y hy).mul hq
  cases h1 : (line.map (· * w) ++ [0])[i]? with
  | none => rw [h1] at gi; cases gi
  | some x => cases h2 : ((0 : Rat) :: line.map (· * c))[i]? with
    | none => rw [h1, h2] at gi; cases gi
    | some y =>
      rw [h1, h2] at gi
      cases gi
      have ox : Ov (M * N) (K0 * L) x := el hw (by
        rcases List.mem_append.mp (List.mem_of_getElem? h1) with z | z
        · obtain ⟨y, hy, rfl⟩ := List.mem_map.mp z
          exact .inr ⟨y, hy, rfl⟩
        · exact .inl (List.mem_singleton.mp z))
      have oy : Ov (M * N) (K0 * L) y := el hc (by
        rcases List.mem_cons.mp (List.mem_of_getElem? h2) with z | z
        · exact .inl z
        · obtain ⟨y, hy, rfl⟩ := List.mem_map.mp z
          exact .inr ⟨y, hy, rfl⟩)
      refine (ox.add oy mn).mono ?_
      have : K0 * (2 * L + 1) = K0 * L + K0 * L + K0 := by rw [Nat.mul_add, Nat.mul_one, ← Nat.mul_add, Nat.two_mul]
      omega
theorem zip_outR {C : Addr} {a b : List Rat} {out : List D} (hl : a.length = b.length) (lo : out.length = a.length) (h : ∀ (n : Nat) (x y : Rat) z, a[n]? = some x → b[n]? = some y → out[n]? = some z → z = RF C (x + y)) : out = (List.zipWith (· + ·) a b).map (RF C) := by
  refine List.ext_getElem? fun i => ?_
  rw [List.getElem?_map, List.getElem?_zipWith]
  by_cases c : i < a.length
  · have a1 : a[i]? = some a[i] := List.getElem?_eq_getElem c
    have a2 : b[i]? = some (b[i]'(hl ▸ c)) := List.getElem?_eq_getElem (hl ▸ c)
    have a3 : out[i]? = some (out[i]'(lo ▸ c)) := List.getElem?_eq_getElem (lo ▸ c)
    rw [a1, a2, a3, h i _ _ _ a1 a2 a3]
    rfl
  · rw [List.getElem?_eq_none (by omega), List.getElem?_eq_none (l := a) (by omega)]
    rfl
theorem RF_inj {C : Addr} {x y : Rat} (h : RF C x = RF C y) : x = y := by
  have h1 : (fr x).1 = (fr y).1 ∧ (fr x).2 = (fr y).2 := by simpa [RF, Ra, rf] using h
  rw [← fr_val x, ← fr_val y, h1.1, h1.2]
theorem low0 : low 0 1 = fr 0 := by decide +kernel
section
variable {P : Program} {w : World} {K : PySem.W.Frag} {mg : Str → Option Value} {base : Heap} {C CB : Addr}
abbrev spTl (C : Addr) : SpD := fun as Q => ∃ line : List Rat, ∃ wd w cd c, as = [.val (.lst (line.map (RF C))), .val wd, .val cd] ∧ line.length ≤ 100 ∧ Nq C 1000 wd w ∧ Nq C 1000 cd c ∧ (∀ r ∈ line, Bq 3000 r ∧ Bq 3000 (r * w) ∧ Bq 3000 (r * c)) ∧ Q (.lst ((Tl line w c).map (RF C)))
abbrev NTl : List Str := ["line", "weight", "change", "kept", "moved", "number", "one", "two"]
theorem sc_tl : FnScope NTl ["line", "weight", "change"] (defScope (top 51)) := ⟨rfl, rfl, rfl, by decide +kernel, rfl, by decide +kernel, by decide +kernel⟩
theorem ok_tl {f : Addr} {fd : FuncData} (F : FunS K "_times_letter" "_times_letter" (top 51) f fd) (L : Lv P w K mg base C) : GnOk P w K mg base 7 f fd ["line", "weight", "change"] (lift K (spTl C)) := by
  refine gn_dl F sc_tl (fun as Q h => by obtain ⟨_, _, _, _, _, rfl, _⟩ := h; rfl) (fun cdv A outer s H hr hG W as Q h => ?_)
  obtain ⟨line, wd, w', cd, c, rfl, ll, hw, hc, bq, q⟩ := h
  have nd := sc_tl.nd
  have V := L.V
  have T := V.T
  refine sds_cons (sd_set 3 nd rfl (ed_bin (ed_fd (fd_mp (f := RF C) (u := fun r => RF C (r * w')) (l := line) 5 rfl nd (own := [("number", 5)]) (blkOk_by (by show blkC NTl (defScope (top 51)) _ _ = true; decide +kernel)) (fun _ _ _ _ _ => pg_name (i := 5) nd rfl (Or.inl rfl)) (by simp) (by omega) (.inl rfl) (nm 0 rfl) ?_ ?_))))
  · intro r hr' s2 H0 C2 cl fp
    exact ed_bin (nm 5 (nm 1 (od_mulR L hr hG (bq r hr').1 (hw.mono (by decide)) rfl)))
  refine ed_lst (ad_cons (ed_make V.mk1 (hr.mono (j := 3) (by decide)) hG (ad_cons (ed_int (ad_nil (mk_ok (n := 1) (t := 0) (b := 1) (by decide) (by decide) (by decide) (by decide) ?_))))))
  rw [low0]
  refine ad_nil ⟨[RF C 0], rfl, by simp, od_catL (by rw [List.length_map, List.length_singleton]; omega) ?_⟩
  refine sds_cons (sd_set 4 nd rfl (ed_bin (ed_lst (ad_cons (ed_make V.mk1 (hr.mono (j := 3) (by decide)) hG (ad_cons (ed_int (ad_nil (mk_ok (n := 1) (t := 0) (b := 1) (by decide) (by decide) (by decide) (by decide) ?_)))))))))
  rw [low0]
  refine ad_nil ⟨[RF C 0], rfl, by simp, ?_⟩
  refine ed_fd (fd_mp (f := RF C) (u := fun r => RF C (r * c)) (l := line) 5 rfl nd (own := [("number", 5)]) (blkOk_by (by show blkC NTl (defScope (top 51)) _ _ = true; decide +kernel)) (fun _ _ _ _ _ => pg_name (i := 5) nd rfl (Or.inl rfl)) (by simp) (by omega) (.inl rfl) (nm 0 rfl) ?_ ?_)
  · intro r hr' s2 H0 C2 cl fp
    exact ed_bin (nm 5 (nm 2 (od_mulR L hr hG (bq r hr').1 (hc.mono (by decide)) rfl)))
  refine od_catL (by rw [List.length_map, List.length_singleton]; omega) ?_
  have ek : line.map (fun r => RF C (r * w')) ++ [RF C 0] = (line.map (· * w') ++ [0]).map (RF C) := by rw [List.map_append, List.map_map]; rfl
  have em : [RF C 0] ++ line.map (fun r => RF C (r * c)) = ((0 : Rat) :: line.map (· * c)).map (RF C) := by rw [List.map_cons, List.map_map]; rfl
  rw [ek, em]
  have lk : ((line.map (· * w') ++ [0]) : List Rat).length = ((0 : Rat) :: line.map (· * c)).length := by
    rw [List.length_append, List.length_map, List.length_singleton, List.length_cons, List.length_map]
  have l1 : ((line.map (· * w') ++ [0]) : List Rat).length ≤ 101 := by
    rw [List.length_append, List.length_map, List.length_singleton]
    omega
  refine sds_cons (sd_ret (ed_fd (fd_relZ (l := (line.map (· * w') ++ [0]).map (RF C)) (l' := ((0 : Rat) :: line.map (· * c)).map (RF C)) (fun a b y => ∀ x z, a = RF C x → b = RF C z → y = RF C (x + z)) 6 7 (own := [("one", 6), ("two", 7)]) rfl nd T.zip (blkOk_by (by show blkC NTl (defScope (top 51)) _ _ = true; decide +kernel)) (fun _ _ _ _ _ => pg_tup rfl (pgs_cons (pg_name (i := 6) nd rfl (Or.inl rfl)) (pgs_cons (pg_name (i := 7) nd rfl (Or.inl rfl)) pgs_nil rfl) rfl)) (by rw [List.length_map, List.length_map, lk]) (by rw [List.length_map]; omega) (.inl rfl) (.inl rfl) (ad_cons (nm 3 (ad_cons (nm 4 (ad_nil rfl))))) (by simp) (by simp) ?_ ?_)))
  · intro n' a b ha hb s2 H0 C2 cl fp
    obtain ⟨x, hx, rfl⟩ := List.mem_map.mp (List.mem_of_getElem? ha)
    obtain ⟨y, hy, rfl⟩ := List.mem_map.mp (List.mem_of_getElem? hb)
    have bx : Bq 3000 x := by
      rcases List.mem_append.mp hx with z | z
      · obtain ⟨r, hr', rfl⟩ := List.mem_map.mp z
        exact (bq r hr').2.1
      · rw [List.mem_singleton.mp z]; exact bq0 (by decide)
    have by' : Bq 3000 y := by
      rcases List.mem_cons.mp hy with z | z
      · rw [z]; exact bq0 (by decide)
      · obtain ⟨r, hr', rfl⟩ := List.mem_map.mp z
        exact (bq r hr').2.2
    refine ed_bin (nm 6 (nm 7 (od_addQ L hr hG bx (.rat _ by') ?_)))
    intro x' z' h1 h2
    rw [RF_inj h1, RF_inj h2]
  · intro out lo ho
    rw [List.length_map] at lo
    have eo := zip_outR (C := C) (a := line.map (· * w') ++ [0]) (b := (0 : Rat) :: line.map (· * c)) lk lo fun n x y z h1 h2 h3 => ho n (RF C x) (RF C y) z (by rw [List.getElem?_map, h1]; rfl) (by rw [List.getElem?_map, h2]; rfl) h3 x y rfl rfl
    rw [eo]
    exact q
end
end K15

set_option Elab.async false
set_option linter.all false
set_option maxRecDepth 100000
set_option maxHeartbeats 8000000
/-! k15: lines, worths -/
namespace K15
open PySem L2 DL
theorem take_sum_le : ∀ {ks : List Int} {i : Nat}, (∀ c ∈ ks, (0 : Int) ≤ c) → (ks.take i).sum ≤ ks.sum
  | [], i, _ => by rw [List.take_nil]; exact Int.le_refl _
  | k :: ks, 0, h => (le_sum h).1
  | k :: ks, i + 1, h => by
    have := take_sum_le (ks := ks) (i := i) fun c hc => h c (List.mem_cons_of_mem _ hc)
    rw [List.take_succ_cons, List.sum_cons, List.sum_cons]
    omega
theorem take_sum {ks : List Int} {i : Nat} {k : Int} (h : ks[i]? = some k) : (ks.take (i + 1)).sum = (ks.take i).sum + k := by
  rw [List.take_add_one, h, List.sum_append]
  simp
theorem part_step {l : List Rat} {ks : List Int} {ws cs : List Rat} {i : Nat} {k : Int} {w c : Rat} (h1 : ks[i]? = some k) (h2 : ws[i]? = some w) (h3 : cs[i]? = some c) : partL l (ks.drop i) (ws.drop i) (cs.drop i) = partL (rep l w c k.toNat) (ks.drop (i + 1)) (ws.drop (i + 1)) (cs.drop (i + 1)) := by
  have d : ∀ {α : Type} {l : List α} {a : α}, l[i]? = some a → l.drop i = a :: l.drop (i + 1) := fun {α l a} h => by
    obtain ⟨lt, e⟩ := List.getElem?_eq_some_iff.mp h
    rw [← e]
    exact (List.drop_eq_getElem_cons lt)
  rw [d h1, d h2, d h3]
  rfl
theorem rep_len (l : List Rat) (w c : Rat) : ∀ k : Nat, (rep l w c k).length = l.length + k
  | 0 => rfl
  | k + 1 => by
    show (Tl _ w c).length = _
    rw [tl_len, rep_len l w c k]
    omega
theorem paired_at {α β : Type} {R : α → β → Prop} : ∀ {l : List α} {m : List β} {i : Nat} {x : α} {y : β}, Paired R l m → l[i]? = some x → m[i]? = some y → R x y
  | _, _, _, _, _, .nil, e, _ => by simp at e
  | _, _, 0, _, _, .cons h _, e, f => by cases e; cases f; exact h
  | _, _, i + 1, _, _, .cons _ t, e, f => paired_at (i := i) t e f
section
variable {P : Program} {w : World} {K : PySem.W.Frag} {mg : Str → Option Value} {base : Heap} {C CB : Addr}
/-! numbers -/
abbrev spNums (C : Addr) : SpD := fun as Q => ∃ wd, ∃ m : Nat, ∃ xs ws, as = [.val wd, .val (.int (m : Int))] ∧ SeqD wd xs ∧ Paired (Nq C 1000) xs ws ∧ ws.length = m ∧ m ≤ 8 ∧ Q (.bl true)
theorem sc_nums : FnScope ["value", "many", "number"] ["value", "many"] (defScope (top 27)) := ⟨rfl, rfl, rfl, by decide +kernel, rfl, by decide +kernel, by decide +kernel⟩
theorem ok_nums {f : Addr} {fd : FuncData} (F : FunS K "is_numbers" "is_numbers" (top 27) f fd) (T : Txt K mg C) (IL : Df P w K mg base "is_list" 1 1 spL) (IN : Df P w K mg base "is_number" 2 1 (spB C isN)) : GnOk P w K mg base 3 f fd ["value", "many"] (lift K (spNums C)) := by
  refine gn_dl F sc_nums (fun as Q h => by obtain ⟨_, _, _, _, rfl, _⟩ := h; rfl) (fun cdv A outer s H hr hG W as Q h => ?_)
  obtain ⟨wd, m, xs, ws, rfl, sd, pe, lw, m8, q⟩ := h
  have nd := sc_nums.nd
  have lx : xs.length = m := by rw [Paired.length pe, lw]
  have sd' : SeqD wd (xs.map fun d => d) := by rw [List.map_id']; exact sd
  refine sds_cons (sd_ret (ed_and (ed_call IL (hr.mono (j := 1) (by decide)) hG (ad_cons (nm 0 (ad_nil ⟨wd, xs, rfl, sd, kB ?_⟩))))))
  show ED _ _ _ _ _
  refine ed_and (ed_cmp (ed_callB T.len (ad_cons (nm 0 (ad_nil (cd_len (l := xs) sd (nm 1 (od_eqi (kB ?_)))))))))
  rw [decide_eq_true (by rw [lx])]
  show ED _ _ _ _ _
  refine ed_one (ed_callB T.all (ad_cons (ed_fd (fd_mp (f := fun d : D => d) (u := fun _ => .bl true) (l := xs) 2 rfl nd (own := [("number", 2)]) (blkOk_by (by show blkC ["value", "many", "number"] (defScope (top 27)) _ _ = true; decide +kernel)) (fun _ _ _ _ _ => pg_name (i := 2) nd rfl (Or.inl rfl)) (by simp) (by omega) sd' (nm 0 rfl) ?_ (ad_nil (cd_allT rfl (fun y hy => by obtain ⟨_, _, rfl⟩ := List.mem_map.mp hy; rfl) q))))))
  intro d hd s2 H0 C2 cl fp
  obtain ⟨i, hi⟩ := List.getElem?_of_mem hd
  obtain ⟨r, hr', nq⟩ := paired_get pe hi
  refine ed_call IN hr hG (ad_cons (nm 2 (ad_nil ⟨d, rfl, nq.kn, ?_⟩)))
  rw [nq.num]
/-! weights -/
abbrev spCkw (C : Addr) : SpD := fun as Q => ∃ wd, ∃ m : Nat, ∃ xs ws, as = [.val wd, .val (.int (m : Int))] ∧ SeqD wd xs ∧ Paired (Nq C 1000) xs ws ∧ ws.length = m ∧ m ≤ 8 ∧ (∀ w ∈ ws, (0 : Rat) < w) ∧ Q .non
theorem sc_ckw : FnScope ["weights", "many", "weight"] ["weights", "many"] (defScope (top 40)) := ⟨rfl, rfl, rfl, by decide +kernel, rfl, by decide +kernel, by decide +kernel⟩
theorem ok_ckw {f : Addr} {fd : FuncData} (F : FunS K "check_weights" "check_weights" (top 40) f fd) (T : Txt K mg C) (NU : Df P w K mg base "is_numbers" 3 2 (spNums C)) (AB : Df P w K mg base "is_above" 5 1 (spAbove C)) : GnOk P w K mg base 6 f fd ["weights", "many"] (lift K (spCkw C)) := by
  refine gn_dl F sc_ckw (fun as Q h => by obtain ⟨_, _, _, _, rfl, _⟩ := h; rfl) (fun cdv A outer s H hr hG W as Q h => ?_)
  obtain ⟨wd, m, xs, ws, rfl, sd, pe, lw, m8, w0, q⟩ := h
  have nd := sc_ckw.nd
  have lx : xs.length = m := by rw [Paired.length pe, lw]
  have sd' : SeqD wd (xs.map fun d => d) := by rw [List.map_id']; exact sd
  refine sds_cons (sd_if (td_of (tw_or (td_not (td_val (ed_call NU (hr.mono (j := 3) (by decide)) hG (ad_cons (nm 0 (ad_cons (nm 1 (ad_nil ⟨wd, m, xs, ws, rfl, sd, pe, lw, m8, kB ?_⟩)))))))))))
  show TW _ _ _ _ _
  refine tw_or1 (td_not (td_val (ed_callB T.all (ad_cons (ed_fd (fd_mp (f := fun d : D => d) (u := fun _ => .bl true) (l := xs) 2 rfl nd (own := [("weight", 2)]) (blkOk_by (by show blkC ["weights", "many", "weight"] (defScope (top 40)) _ _ = true; decide +kernel)) (fun _ _ _ _ _ => pg_name (i := 2) nd rfl (Or.inl rfl)) (by simp) (by omega) sd' (nm 0 rfl) ?_ (ad_nil (cd_allT rfl (fun y hy => by obtain ⟨_, _, rfl⟩ := List.mem_map.mp hy; rfl) (kB ?_)))))))))
  · intro d hd s2 H0 C2 cl fp
    obtain ⟨i, hi⟩ := List.getElem?_of_mem hd
    obtain ⟨r, hr', nq⟩ := paired_get pe hi
    exact ed_call AB hr hG (ad_cons (nm 2 (ad_nil ⟨d, r, rfl, nq, w0 r (List.mem_of_getElem? hr'), rfl⟩)))
  · show SDs _ _ _ _ _ _
    exact sds_nil (sds_nil q)
/-! what stands with a power -/
abbrev spTerm (C : Addr) : SpD := fun as Q => ∃ line : List Rat, ∃ i : Nat, as = [.val (.lst (line.map (RF C))), .val (.int (i : Int))] ∧ Q (RF C (line.getD i 0))
theorem sc_term : FnScope ["line", "power"] ["line", "power"] (defScope (top 49)) := ⟨rfl, rfl, rfl, by decide +kernel, rfl, by decide +kernel, by decide +kernel⟩
theorem ok_term {f : Addr} {fd : FuncData} (F : FunS K "_term" "_term" (top 49) f fd) (V : Rt P w K mg base C) : GnOk P w K mg base 4 f fd ["line", "power"] (lift K (spTerm C)) := by
  refine gn_dl F sc_term (fun as Q h => by obtain ⟨_, _, rfl, _⟩ := h; rfl) (fun cdv A outer s H hr hG W as Q h => ?_)
  obtain ⟨line, i, rfl, q⟩ := h
  have T := V.T
  refine sds_cons (sd_ret (ed_ifx (td_cmp (nm 1 (ed_callB T.len (ad_cons (nm 0 (ad_nil (cd_len (.inl rfl) (od_lt (kB ?_)))))))))))
  rw [List.length_map]
  by_cases c : i < line.length
  · rw [decide_eq_true (by omega)]
    show ED _ _ _ _ _
    have g : line[i]? = some (line.getD i 0) := by
      rw [List.getD_eq_getElem?_getD, List.getElem?_eq_getElem c]
      rfl
    exact ed_ix (nm 0 (nm 1 ⟨_, (i : Int), RF C (line.getD i 0), .inl rfl, rfl, atI_nat (by rw [List.getElem?_map, g]; rfl), q⟩))
  · rw [decide_eq_false (by omega)]
    show ED _ _ _ _ _
    refine ed_make V.mk1 hr hG (ad_cons (ed_int (ad_nil (mk_ok (n := 1) (t := 0) (b := 1) (by decide) (by decide) (by decide) (by decide) ?_))))
    rw [low0]
    rw [List.getD_eq_getElem?_getD, List.getElem?_eq_none (by omega)] at q
    exact q
/-! a line -/
abbrev spLine (C CB : Addr) : SpD := fun as Q => ∃ z, ∃ m n b : Nat, ∃ es wd cd xs ys ws cs, ∃ M N K0 L0 : Nat, as = [.val (Bo C CB z n es), .val wd, .val cd] ∧ SeqD wd xs ∧ SeqD cd ys ∧ Paired (Nq C 1000) xs ws ∧ Paired (Nq C 1000) ys cs ∧ ws.length = m ∧ cs.length = m ∧ n ≤ 8 ∧ m ≤ 8 ∧ GE m n b es ∧ (∀ e ∈ es, Ov M K0 e.2) ∧ (∀ w ∈ ws, Ov N L0 w) ∧ (∀ c ∈ cs, Ov N L0 c) ∧ 0 < M ∧ 0 < N ∧ M * N ^ n < 2 ^ 2900 ∧ 201 * (K0 * (2 * L0 + 1) ^ n) < 2 ^ 2900 ∧ Q (.lst ((if es.isEmpty = true then [] else lineR n es ws cs).map (RF C)))
abbrev NLn : List Str := ["blend", "weights", "direction", "line", "counts", "amount", "part", "count", "weight", "change", "_", "one", "two"]
theorem sc_line : FnScope NLn ["blend", "weights", "direction"] (defScope (top 50)) := ⟨rfl, rfl, rfl, by decide +kernel, rfl, by decide +kernel, by decide +kernel⟩
theorem line_snoc {n : Nat} {es : List Ent} {ws cs : List Rat} {i : Nat} {e : Ent} (h : es[i]? = some e) : lineR n (es.take (i + 1)) ws cs = List.zipWith (· + ·) (lineR n (es.take i) ws cs) (partL [e.2] e.1 ws cs) := by
  unfold lineR
  rw [List.take_add_one, h, List.foldl_append]
  rfl
theorem pow_mono {N i n : Nat} (h : 0 < N) (k : i ≤ n) : N ^ i ≤ N ^ n := Nat.pow_le_pow_right h k
theorem ok_line {f : Addr} {fd : FuncData} (F : FunS K "line_of" "line_of" (top 50) f fd) (V : Bt P w K mg base C CB) (TL : Df P w K mg base "_times_letter" 7 3 (spTl C)) : GnOk P w K mg base 8 f fd ["blend", "weights", "direction"] (lift K (spLine C CB)) := by
  refine gn_dl F sc_line (fun as Q h => by obtain ⟨_, _, _, _, _, _, _, _, _, _, _, _, _, _, _, rfl, _⟩ := h; rfl) (fun cdv A outer s H hr hG W as Q h => ?_)
  obtain ⟨z, m, n, b, es, wd, cd, xs, ys, ws, cs, M, N, K0, L0, rfl, sw, sc, pw, pc, lw, lc, n8, m8, ge, oe, ow, oc, m0, n0, bM, bK, q⟩ := h
  have nd := sc_line.nd
  have T := V.T
  have L := V.L
  have ln := ge.ln
  have lxs : xs.length = m := by rw [Paired.length pw, lw]
  have lys : ys.length = m := by rw [Paired.length pc, lc]
  refine sds_cons (sd_if (td_val (pN V (hr.mono (j := 2) (by decide)) hG (nm 0 ⟨rfl, kB ?_⟩))))
  cases hes : es.isEmpty with
  | true =>
    rw [hes] at q
    show SDs _ _ _ _ _ _
    exact sds_cons (sd_ret (ed_lst (ad_nil ⟨[], rfl, by simp, q⟩)))
  | false =>
    rw [hes] at q
    have q : Q (.lst ((lineR n es ws cs).map (RF C))) := q
    show SDs _ _ _ _ _ _
    refine sds_nil ?_
    refine sds_cons (sd_set 3 nd rfl (ed_fd (fd_repL (ed_lst (ad_cons (ed_make L.V.mk1 (hr.mono (j := 3) (by decide)) hG (ad_cons (ed_int (ad_nil (mk_ok (n := 1) (t := 0) (b := 1) (by decide) (by decide) (by decide) (by decide) ?_))))))))))
    rw [low0]
    have ed : dgD n es = .int (n : Int) := by unfold dgD; rw [hes]; rfl
    refine ad_nil ⟨[RF C 0], rfl, by simp, ed_bin (pD V (hr.mono (j := 2) (by decide)) hG (nm 0 ⟨rfl, ?_⟩))⟩
    rw [ed]
    refine ed_int (od_add ⟨[RF C 0], n + 1, rfl, rfl, by rw [List.length_singleton]; omega, by omega, ?_⟩)
    have e0 : (List.replicate (n + 1) [RF C 0]).flatten = (lineR n (es.take 0) ws cs).map (RF C) := by
      rw [List.take_zero]
      show _ = (List.replicate (n + 1) (0 : Rat)).map (RF C)
      simp
    rw [e0]
    have mnn : ∀ t, t ≤ n → M * N ^ t < 2 ^ 2900 := fun t ht => Nat.lt_of_le_of_lt (Nat.mul_le_mul_left _ (pow_mono n0 ht)) bM
    have knn : ∀ t, t ≤ n → 201 * (K0 * (2 * L0 + 1) ^ t) < 2 ^ 2900 := fun t ht => Nat.lt_of_le_of_lt (Nat.mul_le_mul_left _ (Nat.mul_le_mul_left _ (pow_mono (by omega) ht))) bK
    refine sds_cons (sd_forL (l := enD C es) PassesOwn.never rfl (fun i S' => ∃ o4 o5 o6 o7 o8 o9 o10 o11 o12, (lineR n (es.take i) ws cs).length = n + 1 ∧ (∀ r ∈ lineR n (es.take i) ws cs, Ov (M * N ^ n) (i * (K0 * (2 * L0 + 1) ^ n)) r) ∧ S' = [some (.val (Bo C CB z n es)), some (.val wd), some (.val cd), some (.val (.lst ((lineR n (es.take i) ws cs).map (RF C)))), o4, o5, o6, o7, o8, o9, o10, o11, o12]) (mE V ge (hr.mono (j := 1) (by decide)) hG (nm 0 ⟨rfl, rfl, none, none, none, none, none, none, none, none, none, ?_, ?_, rfl⟩)) ?_ ?_)
    · rw [List.take_zero]
      exact List.length_replicate
    · intro r hr'
      rw [List.take_zero] at hr'
      rw [(List.mem_replicate.mp hr').2, Nat.zero_mul]
      exact Ov.zero
    · rintro i d S' hi ⟨o4, o5, o6, o7, o8, o9, o10, o11, o12, ll, lo, rfl⟩
      obtain ⟨e, he, rfl⟩ := enD_get hi
      have me := List.mem_of_getElem? he
      have li : i < es.length := (List.getElem?_eq_some_iff.mp he).1
      have lk := ge.len e me
      have nn := ge.nn e me
      have sm := ge.sum e me
      refine gd_tup rfl (gds_cons (gd_name 4 nd rfl (gds_cons (gd_name 5 nd rfl (gds_nil ?_))))) rfl
      refine sds_cons (sd_set 6 nd rfl (ed_lst (ad_cons (nm 5 (ad_nil ⟨[RF C e.2], rfl, by simp, ?_⟩)))))
      refine sds_cons (sd_forZ3 (l := e.1.map D.int) (l' := xs) (l2 := ys) PassesOwn.never rfl T.T.zip (by rw [List.length_map]; omega) (by rw [List.length_map]; omega) (fun j S' => ∃ o7 o8 o9 o10, ∃ cur : List Rat, ∃ t : Nat, (t : Int) = (e.1.take j).sum ∧ cur.length = t + 1 ∧ (∀ r ∈ cur, Ov (M * N ^ t) (K0 * (2 * L0 + 1) ^ t) r) ∧ partL [e.2] e.1 ws cs = partL cur (e.1.drop j) (ws.drop j) (cs.drop j) ∧ S' = [some (.val (Bo C CB z n es)), some (.val wd), some (.val cd), some (.val (.lst ((lineR n (es.take i) ws cs).map (RF C)))), some (.val (tI e.1)), some (.val (RF C e.2)), some (.val (.lst (cur.map (RF C)))), o7, o8, o9, o10, o11, o12]) (ad_cons (nm 4 (ad_cons (nm 1 (ad_cons (nm 2 (ad_nil ⟨_, _, _, rfl, .inr rfl, sw, sc, o7, o8, o9, o10, [e.2], 0, ?_, rfl, ?_, rfl, rfl⟩))))))) ?_ ?_)
      · rw [List.take_zero]
        rfl
      · intro r hr'
        rw [List.mem_singleton.mp hr', Nat.pow_zero, Nat.pow_zero, Nat.mul_one, Nat.mul_one]
        exact oe e me
      · rintro j dk dw dc S' hj hw hc ⟨o7, o8, o9, o10, cur, t, ht, lcur, oc', pt, rfl⟩
        obtain ⟨k, hk, rfl⟩ : ∃ k, e.1[j]? = some k ∧ dk = .int k := by
          rw [List.getElem?_map] at hj
          cases h : e.1[j]? with
          | none => rw [h] at hj; cases hj
          | some x => rw [h] at hj; cases hj; exact ⟨x, rfl, rfl⟩
        obtain ⟨w0, hw0, nw⟩ := paired_get pw hw
        obtain ⟨c0, hc0, nc⟩ := paired_get pc hc
        have k0 := nn k (List.mem_of_getElem? hk)
        have ow0 := ow w0 (List.mem_of_getElem? hw0)
        have oc0 := oc c0 (List.mem_of_getElem? hc0)
        have ts := take_sum hk
        have tl := take_sum_le (i := j + 1) nn
        have tn : t + k.toNat ≤ n := by omega
        refine gd_tup rfl (gds_cons (gd_name 7 nd rfl (gds_cons (gd_name 8 nd rfl (gds_cons (gd_name 9 nd rfl (gds_nil ?_))))))) rfl
        refine sds_cons (sd_forR (n := k) PassesOwn.never rfl T.T.range (fun u S' => ∃ o10, (∀ r ∈ rep cur w0 c0 u, Ov (M * N ^ (t + u)) (K0 * (2 * L0 + 1) ^ (t + u)) r) ∧ S' = [some (.val (Bo C CB z n es)), some (.val wd), some (.val cd), some (.val (.lst ((lineR n (es.take i) ws cs).map (RF C)))), some (.val (tI e.1)), some (.val (RF C e.2)), some (.val (.lst ((rep cur w0 c0 u).map (RF C)))), some (.val (.int k)), some (.val dw), some (.val dc), o10, o11, o12]) (ad_cons (nm 7 (ad_nil ⟨rfl, by omega, by omega, o10, oc', rfl⟩))) ?_ ?_)
        · rintro u S' hu ⟨o10, ou, rfl⟩
          have tu : t + u + 1 ≤ n := by omega
          have mn0 : 0 < M * N ^ (t + u) := Nat.mul_pos m0 (Nat.pow_pos n0)
          have kx : K0 * (2 * L0 + 1) ^ (t + u) * L0 ≤ K0 * (2 * L0 + 1) ^ (t + u + 1) := by
            rw [Nat.pow_succ, ← Nat.mul_assoc]
            exact Nat.mul_le_mul_left _ (by omega)
          have b1 := mnn (t + u) (by omega)
          have b2 := knn (t + u) (by omega)
          have b3 := mnn (t + u + 1) tu
          have b4 := knn (t + u + 1) tu
          have e3 : M * N ^ (t + u) * N = M * N ^ (t + u + 1) := by rw [Nat.pow_succ, Nat.mul_assoc]
          have bb : ∀ r ∈ rep cur w0 c0 u, Bq 3000 r ∧ Bq 3000 (r * w0) ∧ Bq 3000 (r * c0) := fun r hr' => by
            have o := ou r hr'
            refine ⟨(o.bq (n := 2900) mn0 b1 (by omega)).le (by decide), ?_, ?_⟩
            · exact ((o.mul ow0).bq (n := 2900) (Nat.mul_pos mn0 n0) (by rw [e3]; exact b3) (by omega)).le (by decide)
            · exact ((o.mul oc0).bq (n := 2900) (Nat.mul_pos mn0 n0) (by rw [e3]; exact b3) (by omega)).le (by decide)
          refine gd_name 10 nd rfl ?_
          refine sds_cons (sd_set 6 nd rfl (ed_call TL hr hG (ad_cons (nm 6 (ad_cons (nm 8 (ad_cons (nm 9 (ad_nil ⟨rep cur w0 c0 u, dw, w0, dc, c0, rfl, by rw [rep_len]; omega, nw, nc, bb, ?_⟩)))))))))
          refine sds_nil ⟨some (.val (.int (u : Int))), ?_, rfl⟩
          have := tl_ov mn0 n0 ou ow0 oc0
          rw [e3] at this
          have e4 : K0 * (2 * L0 + 1) ^ (t + u) * (2 * L0 + 1) = K0 * (2 * L0 + 1) ^ (t + u + 1) := by rw [Nat.pow_succ, Nat.mul_assoc]
          rw [e4] at this
          exact this
        · rintro S' ⟨o10, ou, rfl⟩
          refine sds_nil ⟨some (.val (.int k)), some (.val dw), some (.val dc), o10, rep cur w0 c0 k.toNat, t + k.toNat, by rw [ts, ← ht]; omega, by rw [rep_len, lcur]; omega, ou, ?_, rfl⟩
          rw [pt, part_step hk hw0 hc0]
      · rintro S' ⟨o7, o8, o9, o10, cur, t, ht, lcur, oc', pt, rfl⟩
        rw [List.length_map] at ht pt
        have tn : t = n := by
          rw [List.take_length, sm] at ht
          omega
        subst tn
        have pe : partL [e.2] e.1 ws cs = cur := by
          rw [pt, List.drop_length, List.drop_of_length_le (by omega), List.drop_of_length_le (by omega)]
          rfl
        have mn0 : 0 < M * N ^ t := Nat.mul_pos m0 (Nat.pow_pos n0)
        have b1 := mnn t (Nat.le_refl _)
        have b2 := knn t (Nat.le_refl _)
        have iK : i * (K0 * (2 * L0 + 1) ^ t) ≤ 200 * (K0 * (2 * L0 + 1) ^ t) := Nat.mul_le_mul_right _ (by omega)
        have ll2 : (lineR t (es.take i) ws cs).length = cur.length := by rw [ll, lcur]
        refine sds_cons (sd_ownLc (i := 3) (g := gTup K 2 (gCons (gName 11) (gCons (gName 12) gNil))) (own := [("one", 11), ("two", 12)]) rfl nd rfl rfl (pi_zm rfl T.T.zip wa_pa rfl rfl) (blkOk_by (by show blkC NLn (defScope (top 50)) _ _ = true; decide +kernel)) (fun _ _ _ _ _ => pg_tup rfl (pgs_cons (pg_name (i := 11) nd rfl (Or.inl rfl)) (pgs_cons (pg_name (i := 12) nd rfl (Or.inl rfl)) pgs_nil rfl) rfl)) (lc_relZ (l := (lineR t (es.take i) ws cs).map (RF C)) (l' := cur.map (RF C)) (fun a b y => ∀ x z, a = RF C x → b = RF C z → y = RF C (x + z)) 11 12 (by rw [List.length_map, List.length_map, ll2]) (by rw [List.length_map]; omega) (.inl rfl) (.inl rfl) (ad_cons (nm 3 (ad_cons (nm 6 (ad_nil rfl))))) (by simp) (by simp) ?_ ?_))
        · intro n' a b ha hb s2 H0 C2 cl fp
          obtain ⟨x, hx, rfl⟩ := List.mem_map.mp (List.mem_of_getElem? ha)
          obtain ⟨y, hy, rfl⟩ := List.mem_map.mp (List.mem_of_getElem? hb)
          refine ed_bin (nm 11 (nm 12 (od_addQ L (hr.mono (j := 6) (by decide)) hG ((lo x hx).bq (n := 2900) mn0 b1 (by omega) |>.le (by decide)) (.rat _ ((oc' y hy).bq (n := 2900) mn0 b1 (by omega) |>.le (by decide))) ?_)))
          intro x' z' h1 h2
          rw [RF_inj h1, RF_inj h2]
        · intro out lo' ho
          rw [List.length_map] at lo'
          have eo := zip_outR (C := C) (a := lineR t (es.take i) ws cs) (b := cur) ll2 lo' fun n x y z h1 h2 h3 => ho n (RF C x) (RF C y) z (by rw [List.getElem?_map, h1]; rfl) (by rw [List.getElem?_map, h2]; rfl) h3 x y rfl rfl
          rw [eo, ← pe, ← line_snoc he]
          refine sds_frz 3 _ rfl ?_
          refine sds_nil ⟨_, _, _, _, _, _, _, _, _, ?_, ?_, rfl⟩
          · rw [line_snoc he, List.length_zipWith, pe]
            omega
          · intro r hr'
            rw [line_snoc he, pe] at hr'
            obtain ⟨k, hk, e1⟩ := List.getElem_of_mem hr'
            have gk : (List.zipWith (· + ·) (lineR t (es.take i) ws cs) cur)[k]? = some r := by rw [List.getElem?_eq_getElem hk, e1]
            rw [List.getElem?_zipWith] at gk
            cases h1 : (lineR t (es.take i) ws cs)[k]? with
            | none => rw [h1] at gk; cases gk
            | some x => cases h2 : cur[k]? with
              | none => rw [h1, h2] at gk; cases gk
              | some y =>
                rw [h1, h2] at gk
                cases gk
                refine ((lo x (List.mem_of_getElem? h1)).add (oc' y (List.mem_of_getElem? h2)) mn0).mono ?_
                have : (i + 1) * (K0 * (2 * L0 + 1) ^ t) = i * (K0 * (2 * L0 + 1) ^ t) + K0 * (2 * L0 + 1) ^ t := Nat.succ_mul _ _
                omega
    · rintro S' ⟨o4, o5, o6, o7, o8, o9, o10, o11, o12, ll, lo, rfl⟩
      rw [enD_len, List.take_length]
      exact sds_cons (sd_ret (nm 3 q))
/-! a worth -/
structure Wo (C : Addr) (m n : Nat) (es : List Ent) (ws : List Rat) (xs : List D) (M N K0 L0 : Nat) : Prop where
  pw : Paired (Nq C 1000) xs ws
  lw : ws.length = m
  w0 : ∀ w ∈ ws, (0 : Rat) < w
  oe : ∀ e ∈ es, Ov M K0 e.2
  ow : ∀ w ∈ ws, Ov N L0 w
  m0 : 0 < M
  n0 : 0 < N
  bM : M * N ^ n < 2 ^ 2900
  bK : 201 * (K0 * (2 * L0 + 1) ^ n) < 2 ^ 2900
abbrev spWorth (C CB : Addr) : SpD := fun as Q => ∃ z, ∃ m n b : Nat, ∃ es wd xs ws, ∃ M N K0 L0 : Nat, as = [.val (Bo C CB z n es), .val wd] ∧ LetZ z ∧ z.length = m ∧ n ≤ 8 ∧ GE m n b es ∧ SeqD wd xs ∧ Wo C m n es ws xs M N K0 L0 ∧ Q (RF C (wsum es ws))
theorem sc_worth : FnScope ["blend", "weights"] ["blend", "weights"] (defScope (top 43)) := ⟨rfl, rfl, rfl, by decide +kernel, rfl, by decide +kernel, by decide +kernel⟩
theorem ok_worth {f : Addr} {fd : FuncData} (F : FunS K "worth" "worth" (top 43) f fd) (V : Bt P w K mg base C CB) (CW : Df P w K mg base "check_weights" 6 2 (spCkw C)) (TE : Df P w K mg base "_term" 4 2 (spTerm C)) (LI : Df P w K mg base "line_of" 8 3 (spLine C CB)) : GnOk P w K mg base 9 f fd ["blend", "weights"] (lift K (spWorth C CB)) := by
  refine gn_dl F sc_worth (fun as Q h => by obtain ⟨_, _, _, _, _, _, _, _, _, _, _, _, rfl, _⟩ := h; rfl) (fun cdv A outer s H hr hG W as Q h => ?_)
  obtain ⟨z, m, n, b, es, wd, xs, ws, M, N, K0, L0, rfl, hz, hm, hn, ge, sd, o, q⟩ := h
  have T := V.T
  have hl : ((SX.S z).length : Int) = (m : Int) := by rw [SX.S_len, hm]
  have m8 : m ≤ 8 := by rw [← hm]; exact hz.l8
  have lx : xs.length = m := by rw [Paired.length o.pw, o.lw]
  refine sds_cons (sd_expr (ed_call V.ck (hr.mono (j := 1) (by decide)) hG (ad_cons (nm 0 (ad_nil ⟨z, n, es, rfl, ?_⟩)))))
  refine sds_cons (sd_expr (ed_call CW (hr.mono (j := 6) (by decide)) hG (ad_cons (nm 1 (ad_cons (ed_callB T.T.len (ad_cons (pL V (hr.mono (j := 2) (by decide)) hG (nm 0 ⟨rfl, ad_nil (cd_lenS (z := SX.S z) (by rw [SX.S_len]; omega) (ad_nil ⟨wd, m, xs, ws, by rw [hl], sd, o.pw, o.lw, m8, o.w0, ?_⟩))⟩)))))))))
  refine sds_cons (sd_ret (ed_call TE (hr.mono (j := 4) (by decide)) hG (ad_cons (ed_call LI hr hG (ad_cons (nm 0 (ad_cons (nm 1 (ad_cons (ed_fd (fd_repL (ed_lst (ad_cons (ed_int (ad_nil ⟨[.int 0], rfl, by simp, ed_callB T.T.len (ad_cons (nm 1 (ad_nil (cd_len (l := xs) sd ⟨[.int 0], m, rfl, by rw [lx], by rw [List.length_singleton]; omega, by omega, ?_⟩))))⟩)))))))))))))))
  have e0 : (List.replicate m [D.int 0]).flatten = List.replicate m (D.int 0) := by simp
  rw [e0]
  have pz : ∀ k : Nat, Paired (Nq C 1000) (List.replicate k (D.int 0)) (List.replicate k (0 : Rat)) := fun k => by
    induction k with
    | zero => exact .nil
    | succ k ih => exact .cons (Nq.int (C := C) (n := 1000) 0 (bq0 (by decide))) ih
  refine ad_nil ⟨z, m, n, b, es, wd, _, xs, _, ws, List.replicate m 0, M, N, K0, L0, rfl, sd, .inl rfl, o.pw, pz m, o.lw, List.length_replicate, hn, m8, ge, o.oe, o.ow, ?_, o.m0, o.n0, o.bM, o.bK, ?_⟩
  · intro c hc
    rw [(List.mem_replicate.mp hc).2]
    exact Ov.zero.mono (Nat.zero_le _)
  · refine ad_cons (ed_int (ad_nil ⟨_, 0, rfl, ?_⟩))
    have e : (if es.isEmpty = true then ([] : List Rat) else lineR n es ws (List.replicate m 0)).getD 0 0 = wsum es ws := by
      by_cases c : es.isEmpty = true
      · rw [if_pos c]
        cases es with
        | nil => rfl
        | cons _ _ => cases c
      · rw [if_neg c]
        exact hd_line o.lw List.length_replicate ge.len
    rw [e]
    exact q
end
end K15

set_option Elab.async false
set_option linter.all false
set_option maxRecDepth 100000
set_option maxHeartbeats 8000000
/-! k15: the law's own worths; weights -/
namespace K15
open PySem L2 DL
theorem mono_step {a : Rat} {ks : List Int} {ws : List Rat} {i : Nat} {k : Int} {w : Rat} (h1 : ks[i]? = some k) (h2 : ws[i]? = some w) : mono a (ks.drop i) (ws.drop i) = mono (mulN a w k.toNat) (ks.drop (i + 1)) (ws.drop (i + 1)) := by
  have d : ∀ {α : Type} {l : List α} {a : α}, l[i]? = some a → l.drop i = a :: l.drop (i + 1) := fun {α l a} h => by
    obtain ⟨lt, e⟩ := List.getElem?_eq_some_iff.mp h
    rw [← e]
    exact (List.drop_eq_getElem_cons lt)
  rw [d h1, d h2]
  rfl
theorem wsum_snoc {es : List Ent} {ws : List Rat} {i : Nat} {e : Ent} (h : es[i]? = some e) : wsum (es.take (i + 1)) ws = wsum (es.take i) ws + mono e.2 e.1 ws := by
  unfold wsum
  rw [List.take_add_one, h, List.foldl_append]
  rfl
section
variable {P : Program} {w : World} {K : PySem.W.Frag} {mg : Str → Option Value} {base : Heap} {C CB : Addr}
/-- the same as Wo, the numbers of any sign, as pairs -/
structure Wp (m n : Nat) (es : List Ent) (ws : List Rat) (M N K0 L0 : Nat) : Prop where
  lw : ws.length = m
  oe : ∀ e ∈ es, Ov M K0 e.2
  ow : ∀ w ∈ ws, Ov N L0 w
  m0 : 0 < M
  n0 : 0 < N
  bM : M * N ^ n < 2 ^ 2900
  bK : 201 * (K0 * (2 * L0 + 1) ^ n) < 2 ^ 2900
  bN : N < 2 ^ 2900
  bL : L0 < 2 ^ 2900
abbrev spLWo : SpD := fun as Q => ∃ m n b : Nat, ∃ es ws, ∃ M N K0 L0 : Nat, as = [.val (.dcT (kvP es)), .val (.lst (ws.map prq))] ∧ 1 ≤ m ∧ m ≤ 8 ∧ n ≤ 8 ∧ GE m n b es ∧ Wp m n es ws M N K0 L0 ∧ Q (prq (wsum (srt es) ws))
abbrev NLw : List Str := ["_law_own", "_law_numbers", "_law_found", "_law_counts_here", "_law_part", "_law_at", "_law_turn"]
theorem sc_lwo : FnScope NLw ["_law_own", "_law_numbers"] (defScope (top 74)) := ⟨rfl, rfl, rfl, by decide +kernel, rfl, by decide +kernel, by decide +kernel⟩
theorem ok_lwo {f : Addr} {fd : FuncData} (F : FunS K "_law_worth" "_law_worth" (top 74) f fd) (T : Tb K mg C CB) (SU : Df P w K mg base "_law_sum" 2 2 (spFF addF)) (BY : Df P w K mg base "_law_by" 2 2 (spFF mulF)) : GnOk P w K mg base 3 f fd ["_law_own", "_law_numbers"] (lift K spLWo) := by
  refine gn_dl F sc_lwo (fun as Q h => by obtain ⟨_, _, _, _, _, _, _, _, _, rfl, _⟩ := h; rfl) (fun cdv A outer s H hr hG W as Q h => ?_)
  obtain ⟨m, n, b, es, ws, M, N, K0, L0, rfl, m1, m8, n8, ge, o, q⟩ := h
  have nd := sc_lwo.nd
  have ln := ge.ln
  have lw := o.lw
  have p1 : prq ((0 : Nat) : Rat) = .tup [.int 0, .int 1] := rfl
  have mnn : ∀ t, t ≤ n → M * N ^ t < 2 ^ 2900 := fun t ht => Nat.lt_of_le_of_lt (Nat.mul_le_mul_left _ (pow_mono o.n0 ht)) o.bM
  have knn : ∀ t, t ≤ n → 201 * (K0 * (2 * L0 + 1) ^ t) < 2 ^ 2900 := fun t ht => Nat.lt_of_le_of_lt (Nat.mul_le_mul_left _ (Nat.mul_le_mul_left _ (pow_mono (by omega) ht))) o.bK
  refine sds_cons (sd_set 2 nd rfl (ed_tup (ad_cons (ed_int (ad_cons (ed_int (ad_nil ⟨[.int 0, .int 1], rfl, by simp, ?_⟩)))))))
  rw [← p1]
  refine sds_cons (sd_forL (l := (srt es).map fun e : Ent => tI e.1) PassesOwn.never rfl (fun i S' => ∃ o3 o4 o5 o6, Ov (M * N ^ n) (i * (K0 * (2 * L0 + 1) ^ n)) (wsum ((srt es).take i) ws) ∧ S' = [some (.val (.dcT (kvP es))), some (.val (.lst (ws.map prq))), some (.val (prq (wsum ((srt es).take i) ws))), o3, o4, o5, o6]) (ed_callB T.sorted (ad_cons (nm 0 (ad_nil (cd_skeys rfl (un100 hr) m1 ge n8 ⟨rfl, none, none, none, none, ?_, rfl⟩))))) ?_ ?_)
  · rw [List.take_zero, Nat.zero_mul]
    exact Ov.zero
  · rintro i d S' hi ⟨o3, o4, o5, o6, ov, rfl⟩
    rw [List.getElem?_map] at hi
    obtain ⟨e, he, rfl⟩ := Option.map_eq_some_iff.mp hi
    have li : i < es.length := by rw [← (srt_perm es).length_eq]; exact (List.getElem?_eq_some_iff.mp he).1
    have me := (srt_perm es).mem_iff.mp (List.mem_of_getElem? he)
    have lk := ge.len e me
    have nn := ge.nn e me
    have sm := ge.sum e me
    refine gd_name 3 nd rfl ?_
    refine sds_cons (sd_set 4 nd rfl (ed_dget (un1 hr) (nm 0 (nm 3 ⟨_, ik e.1, _, rfl, (tD_ik _).symm, look_kvP ge.nd me, ?_⟩))))
    refine sds_cons (sd_forR (n := (m : Int)) PassesOwn.never rfl T.T.range (fun j S' => ∃ o5 o6, ∃ cur : Rat, ∃ t : Nat, (t : Int) = (e.1.take j).sum ∧ Ov (M * N ^ t) (K0 * (2 * L0 + 1) ^ t) cur ∧ mono e.2 e.1 ws = mono cur (e.1.drop j) (ws.drop j) ∧ S' = [some (.val (.dcT (kvP es))), some (.val (.lst (ws.map prq))), some (.val (prq (wsum ((srt es).take i) ws))), some (.val (tI e.1)), some (.val (prq cur)), o5, o6]) (ad_cons (ed_callB T.T.len (ad_cons (nm 3 (ad_nil (cd_len (l := e.1.map D.int) (.inr rfl) (ad_nil ⟨by rw [List.length_map, lk], by omega, by omega, o5, o6, e.2, 0, by rw [List.take_zero]; rfl, ?_, rfl, rfl⟩))))))) ?_ ?_)
    · rw [Nat.pow_zero, Nat.pow_zero, Nat.mul_one, Nat.mul_one]
      exact o.oe e me
    · rintro j S' hj ⟨o5, o6, cur, t, ht, oc, mt, rfl⟩
      have jm : j < m := by omega
      obtain ⟨k, hk⟩ : ∃ k, e.1[j]? = some k := ⟨_, List.getElem?_eq_getElem (by omega)⟩
      obtain ⟨w0, hw0⟩ : ∃ w, ws[j]? = some w := ⟨_, List.getElem?_eq_getElem (by omega)⟩
      have k0 := nn k (List.mem_of_getElem? hk)
      have ow0 := o.ow w0 (List.mem_of_getElem? hw0)
      have ts := take_sum hk
      have tl := take_sum_le (i := j + 1) nn
      have tn : t + k.toNat ≤ n := by omega
      refine gd_name 5 nd rfl ?_
      refine sds_cons (sd_forR (n := k) PassesOwn.never rfl T.T.range (fun u S' => ∃ o6, Ov (M * N ^ (t + u)) (K0 * (2 * L0 + 1) ^ (t + u)) (mulN cur w0 u) ∧ S' = [some (.val (.dcT (kvP es))), some (.val (.lst (ws.map prq))), some (.val (prq (wsum ((srt es).take i) ws))), some (.val (tI e.1)), some (.val (prq (mulN cur w0 u))), some (.val (.int (j : Int))), o6]) (ad_cons (ed_ix (nm 3 (nm 5 ⟨_, (j : Int), .int k, .inr rfl, rfl, atI_nat (by rw [List.getElem?_map, hk]; rfl), ad_nil ⟨rfl, by omega, by omega, o6, oc, rfl⟩⟩)))) ?_ ?_)
      · rintro u S' hu ⟨o6, ou, rfl⟩
        have tu : t + u + 1 ≤ n := by omega
        have mn0 : 0 < M * N ^ (t + u) := Nat.mul_pos o.m0 (Nat.pow_pos o.n0)
        have kx : K0 * (2 * L0 + 1) ^ (t + u) * L0 ≤ K0 * (2 * L0 + 1) ^ (t + u + 1) := by
          rw [Nat.pow_succ, ← Nat.mul_assoc]
          exact Nat.mul_le_mul_left _ (by omega)
        have b1 := mnn (t + u) (by omega)
        have b2 := knn (t + u) (by omega)
        have e3 : M * N ^ (t + u) * N = M * N ^ (t + u + 1) := by rw [Nat.pow_succ, Nat.mul_assoc]
        refine gd_name 6 nd rfl ?_
        refine sds_cons (sd_set 4 nd rfl (ed_call BY hr hG (ad_cons (nm 4 (ad_cons (ed_ix (nm 1 (nm 5 ⟨_, (j : Int), prq w0, .inl rfl, rfl, atI_nat (by rw [List.getElem?_map, hw0]; rfl), ad_nil ⟨_, _, rfl, (ou.bq (n := 2900) mn0 b1 (by omega)).le (by decide), (ow0.bq (n := 2900) o.n0 o.bN o.bL).le (by decide), ?_⟩⟩))))))))
        rw [mulF_fr]
        refine sds_nil ⟨some (.val (.int (u : Int))), ?_, rfl⟩
        have := ou.mul ow0
        rw [e3] at this
        exact this.mono kx
      · rintro S' ⟨o6, ou, rfl⟩
        refine sds_nil ⟨some (.val (.int (j : Int))), o6, mulN cur w0 k.toNat, t + k.toNat, by rw [ts, ← ht]; omega, ou, ?_, rfl⟩
        rw [mt, mono_step hk hw0]
    · rintro S' ⟨o5, o6, cur, t, ht, oc, mt, rfl⟩
      rw [Int.toNat_natCast] at ht mt
      have tn : t = n := by
        rw [← lk, List.take_length, sm] at ht
        omega
      subst tn
      have me2 : mono e.2 e.1 ws = cur := by
        rw [mt, List.drop_of_length_le (by omega), List.drop_of_length_le (by omega)]
        rfl
      have mn0 : 0 < M * N ^ t := Nat.mul_pos o.m0 (Nat.pow_pos o.n0)
      have b1 := mnn t (Nat.le_refl _)
      have b2 := knn t (Nat.le_refl _)
      have iK : i * (K0 * (2 * L0 + 1) ^ t) ≤ 200 * (K0 * (2 * L0 + 1) ^ t) := Nat.mul_le_mul_right _ (by omega)
      refine sds_cons (sd_set 2 nd rfl (ed_call SU hr hG (ad_cons (nm 2 (ad_cons (nm 4 (ad_nil ⟨_, _, rfl, (ov.bq (n := 2900) mn0 b1 (by omega)).le (by decide), (oc.bq (n := 2900) mn0 b1 (by omega)).le (by decide), ?_⟩)))))))
      rw [addF_fr, ← me2, ← wsum_snoc he]
      refine sds_nil ⟨_, _, _, _, ?_, rfl⟩
      rw [wsum_snoc he, me2]
      refine (ov.add oc mn0).mono ?_
      have : (i + 1) * (K0 * (2 * L0 + 1) ^ t) = i * (K0 * (2 * L0 + 1) ^ t) + K0 * (2 * L0 + 1) ^ t := Nat.succ_mul _ _
      omega
  · rintro S' ⟨o3, o4, o5, o6, ov, rfl⟩
    rw [List.length_map, List.take_length]
    exact sds_cons (sd_ret (nm 2 q))
/-! weights -/
abbrev spWts : SpD := fun as Q => ∃ m : Nat, as = [.pot, .val (.int (m : Int))] ∧ m ≤ 8 ∧ ∀ ws : List Rat, ws.length = m → (∀ w ∈ ws, (0 : Rat) < w ∧ Bq 20 w ∧ Ov 6 600000 w) → Q (.lst (ws.map prq))
abbrev NWt : List Str := ["_law_pot_here", "_law_many", "_law_found", "_law_at", "_law_top"]
theorem sc_wts : FnScope NWt ["_law_pot_here", "_law_many"] (defScope (top 75)) := ⟨rfl, rfl, rfl, by decide +kernel, rfl, by decide +kernel, by decide +kernel⟩
theorem ok_wts {f : Addr} {fd : FuncData} (F : FunS K "_law_weights" "_law_weights" (top 75) f fd) (T : Txt K mg C) (DR : Df P w K mg base "_law_draw" 1 2 spDraw) (PI : Df P w K mg base "_law_pick" 2 2 spPick) (LO : Df P w K mg base "_law_low" 1 2 spLow) : GnOk P w K mg base 3 f fd ["_law_pot_here", "_law_many"] (lift K spWts) := by
  refine gn_dl F sc_wts (fun as Q h => by obtain ⟨_, rfl, _⟩ := h; rfl) (fun cdv A outer s H hr hG W as Q h => ?_)
  obtain ⟨m, rfl, m8, q⟩ := h
  have nd := sc_wts.nd
  refine sds_cons (sd_own 2 nd rfl (fd_lst (ad_nil ⟨[], rfl, by simp, ?_⟩)))
  refine sds_cons (sd_forR (n := (m : Int)) PassesOwn.never rfl T.range (fun i S' => ∃ o3 o4, ∃ ws : List Rat, ws.length = i ∧ (∀ w ∈ ws, (0 : Rat) < w ∧ Bq 20 w ∧ Ov 6 600000 w) ∧ S' = [some .pot, some (.val (.int (m : Int))), some (.own (ws.map prq)), o3, o4]) (ad_cons (nm 1 (ad_nil ⟨rfl, by omega, by omega, none, none, [], rfl, nofun, rfl⟩))) ?_ ?_)
  · rintro i S' hi ⟨o3, o4, ws, lw, hw, rfl⟩
    refine gd_name 3 nd rfl ?_
    refine sds_cons (sd_set 4 nd rfl (ed_bin (ed_int (ed_call PI (hr.mono (j := 2) (by decide)) hG (ad_pot 0 rfl rfl ?_)))))
    refine ad_cons (ed_lst ?_)
    refine ad_cons (ed_call DR (hr.mono (j := 1) (by decide)) hG (ad_pot 0 rfl rfl (ad_cons (ed_int (ad_nil ⟨9, rfl, by decide, by decide, fun d1 hd1 => ?_⟩)))))
    refine ad_cons (ed_call DR (hr.mono (j := 1) (by decide)) hG (ad_pot 0 rfl rfl (ad_cons (ed_int (ad_nil ⟨9, rfl, by decide, by decide, fun d2 hd2 => ?_⟩)))))
    refine ad_cons (ed_int ?_)
    refine ad_nil ⟨[.int (d1 : Int), .int (d2 : Int), .int 99999], rfl, by simp, ad_nil ⟨_, rfl, by simp, by simp, fun x hx => ?_⟩⟩
    have hx1 : ∃ d : Nat, d ≤ 99999 ∧ x = .int (d : Int) := by
      simp only [List.mem_cons, List.not_mem_nil, or_false] at hx
      rcases hx with rfl | rfl | rfl
      · exact ⟨d1, by omega, rfl⟩
      · exact ⟨d2, by omega, rfl⟩
      · exact ⟨99999, by decide, rfl⟩
    obtain ⟨d, hd, rfl⟩ := hx1
    refine od_add ?_
    refine sds_cons (sd_append 2 (ws.map prq) rfl rfl (by rw [List.length_map]; omega) (ed_call LO (hr.mono (j := 1) (by decide)) hG (ad_cons (nm 4 ?_))))
    refine ad_cons (ed_bin (ed_int (ed_call DR (hr.mono (j := 1) (by decide)) hG (ad_pot 0 rfl rfl (ad_cons (ed_int (ad_nil ⟨3, rfl, by decide, by decide, fun d3 hd3 => od_add ?_⟩)))))))
    have b0 : (1 : Int) + (d3 : Int) ≠ 0 := by omega
    refine ad_nil (lowArg (n := 20) b0 (by show _ < 1048576; omega) (by show _ < 1048576; omega) (by decide) ?_)
    have lb := low_bd (t := 1 + (d : Int)) (n := 20) b0 (by show _ < 1048576; omega) (by show _ < 1048576; omega)
    rw [low_fr b0] at lb ⊢
    have ov : Ov 6 600000 (Rat.divInt (1 + (d : Int)) (1 + (d3 : Int))) := by
      have : (1 : Int) + (d3 : Int) = 1 ∨ (1 : Int) + (d3 : Int) = 2 ∨ (1 : Int) + (d3 : Int) = 3 := by omega
      rcases this with e | e | e <;> rw [e]
      · exact .of (c := 6) (by decide) rfl (by omega)
      · exact .of (c := 3) (by decide) rfl (by omega)
      · exact .of (c := 2) (by decide) rfl (by omega)
    have e1 : ws.map prq ++ [prq (Rat.divInt (1 + (d : Int)) (1 + (d3 : Int)))] = (ws ++ [Rat.divInt (1 + (d : Int)) (1 + (d3 : Int))]).map prq := by rw [List.map_append]; rfl
    refine sds_nil ⟨some (.val (.int (i : Int))), some (.val (.int (1 + (d : Int)))), ws ++ [Rat.divInt (1 + (d : Int)) (1 + (d3 : Int))], by rw [List.length_append, lw, List.length_singleton], fun x hx => ?_, by rw [← e1]; rfl⟩
    rcases List.mem_append.mp hx with z | z
    · exact hw x z
    · rw [List.mem_singleton.mp z]
      exact ⟨dv_pos (by omega) (by omega), lb, ov⟩
  · rintro S' ⟨o3, o4, ws, lw, hw, rfl⟩
    refine sds_frz 2 _ rfl ?_
    exact sds_cons (sd_ret (nm 2 (q ws (by rw [lw, Int.toNat_natCast]) hw)))
/-! as they are passed -/
abbrev spGvn (C : Addr) : SpD := fun as Q => ∃ ws : List Rat, ∃ b : Nat, as = [.pot, .val (.lst (ws.map prq))] ∧ ws.length ≤ 8 ∧ b ≤ 1000 ∧ (∀ w ∈ ws, Bq b w) ∧ ∀ d xs, SeqD d xs → Paired (Nq C b) xs ws → Q d
theorem sc_gvn : FnScope ["_law_pot_here", "_law_pairs_here", "_law_some", "_law_pair_here"] ["_law_pot_here", "_law_pairs_here"] (defScope (top 77)) := ⟨rfl, rfl, rfl, by decide +kernel, rfl, by decide +kernel, by decide +kernel⟩
theorem ok_gvn {f : Addr} {fd : FuncData} (F : FunS K "_law_given" "_law_given" (top 77) f fd) (T : Txt K mg C) (DR : Df P w K mg base "_law_draw" 1 2 spDraw) (PA : Df P w K mg base "_law_passed" 4 2 (spPass C)) : GnOk P w K mg base 5 f fd ["_law_pot_here", "_law_pairs_here"] (lift K (spGvn C)) := by
  refine gn_dl F sc_gvn (fun as Q h => by obtain ⟨_, _, rfl, _⟩ := h; rfl) (fun cdv A outer s H hr hG W as Q h => ?_)
  obtain ⟨ws, b, rfl, l8, hb, hw, q⟩ := h
  have nd := sc_gvn.nd
  refine sds_cons (sd_ownLc (i := 2) (g := gName 3) (own := [("_law_pair_here", 3)]) rfl nd rfl rfl (pi_list we_pe) (blkOk_by (by show blkC ["_law_pot_here", "_law_pairs_here", "_law_some", "_law_pair_here"] (defScope (top 77)) _ _ = true; decide +kernel)) (fun _ _ _ _ _ => pg_name (i := 3) nd rfl (Or.inl rfl)) (lc_L (l := ws.map prq) (fun i acc => Paired (Nq C b) acc (ws.take i)) (fun d => itE _ [("_law_pair_here", 3)] 3 d) (nm 1 ⟨rfl, by rw [List.length_map]; omega, by rw [List.take_zero]; exact .nil⟩) (fun d _ => pat_name 3 (by simp)) ?_ ?_))
  · rintro i d acc hi ha pe s2 H0 C2 cl fp
    rw [List.getElem?_map] at hi
    obtain ⟨r, hr', rfl⟩ := Option.map_eq_some_iff.mp hi
    refine ed_call PA hr hG (ad_pot 0 rfl rfl (ad_cons (nm 3 (ad_nil ⟨b, r, rfl, hb, hw r (List.mem_of_getElem? hr'), fun d nq => ?_⟩))))
    rw [List.take_add_one, hr']
    exact paired_snoc nq pe
  · intro acc ha pe
    rw [List.length_map, List.take_length] at pe
    refine sds_frz 2 _ rfl ?_
    refine sds_cons (sd_ret (ed_ifx (td_cmp (ed_call DR (hr.mono (j := 1) (by decide)) hG (ad_pot 0 rfl rfl (ad_cons (ed_int (ad_nil ⟨3, rfl, by decide, by decide, fun d hd => ed_int (od_gt (kB ?_))⟩))))))))
    cases decide ((0 : Int) < (d : Int)) with
    | true =>
      show ED _ _ _ _ _
      exact nm 2 (q _ acc (.inl rfl) pe)
    | false =>
      show ED _ _ _ _ _
      exact ed_callTy T.tuple (ad_cons (nm 2 (ad_nil (cd_tuple (q _ acc (.inr rfl) pe)))))
end
end K15

set_option Elab.async false
set_option linter.all false
set_option maxRecDepth 100000
set_option maxHeartbeats 4000000
/-! k15: sums over products -/
namespace K15
open PySem L2 DL
def lin (φ : List Int → Rat) : List Ent → Rat
  | [] => 0
  | e :: es => φ e.1 * e.2 + lin φ es
theorem lin_app (φ : List Int → Rat) : ∀ a b : List Ent, lin φ (a ++ b) = lin φ a + lin φ b
  | [], b => (Rat.zero_add _).symm
  | e :: a, b => by
    show φ e.1 * e.2 + lin φ (a ++ b) = φ e.1 * e.2 + lin φ a + lin φ b
    rw [lin_app φ a b, Rat.add_assoc]
theorem lin_perm {φ : List Int → Rat} {a b : List Ent} (h : a.Perm b) : lin φ a = lin φ b := by
  induction h with
  | nil => rfl
  | cons x _ ih => show _ + _ = _ + _; rw [ih]
  | swap x y l =>
    show φ y.1 * y.2 + (φ x.1 * x.2 + lin φ l) = φ x.1 * x.2 + (φ y.1 * y.2 + lin φ l)
    rw [← Rat.add_assoc, ← Rat.add_assoc, Rat.add_comm (φ y.1 * y.2)]
  | trans _ _ h1 h2 => rw [h1, h2]
theorem lin_map {φ : List Int → Rat} {p : Ent} : ∀ {acc : List Ent}, (acc.map (·.1)).Nodup → p.1 ∈ acc.map (·.1) → lin φ (acc.map fun e => if e.1 = p.1 then (e.1, e.2 + p.2) else e) = lin φ acc + φ p.1 * p.2
  | [], _, h => by cases h
  | e :: acc, nd, h => by
    rw [List.map_cons, List.nodup_cons] at nd
    by_cases y : e.1 = p.1
    · have e1 : acc.map (fun x : Ent => if x.1 = p.1 then (x.1, x.2 + p.2) else x) = acc := by
        refine (List.map_congr_left fun x hx => ?_).trans (List.map_id acc)
        have : ¬ x.1 = p.1 := fun z => nd.1 (by rw [y, ← z]; exact List.mem_map_of_mem hx)
        rw [if_neg this]
        rfl
      rw [List.map_cons, if_pos y, e1]
      show φ e.1 * (e.2 + p.2) + lin φ acc = φ e.1 * e.2 + lin φ acc + φ p.1 * p.2
      rw [Rat.mul_add, y]
      grind
    · have h2 : p.1 ∈ acc.map (·.1) := by
        rw [List.map_cons] at h
        rcases List.mem_cons.mp h with z | z
        · exact absurd z.symm y
        · exact z
      rw [List.map_cons, if_neg y]
      show φ e.1 * e.2 + lin φ _ = φ e.1 * e.2 + lin φ acc + φ p.1 * p.2
      rw [lin_map nd.2 h2, Rat.add_assoc]
theorem lin_ins {φ : List Int → Rat} {acc : List Ent} {p : Ent} (nd : (acc.map (·.1)).Nodup) : lin φ (insE acc p) = lin φ acc + φ p.1 * p.2 := by
  unfold insE
  by_cases c : p.1 ∈ acc.map (·.1)
  · rw [if_pos c, lin_map nd c]
  · rw [if_neg c, lin_app]
    show _ + (φ p.1 * p.2 + 0) = _
    rw [Rat.add_zero]
theorem lin_fold {φ : List Int → Rat} : ∀ {ps acc : List Ent}, (acc.map (·.1)).Nodup → lin φ (ps.foldl insE acc) = lin φ acc + lin φ ps
  | [], acc, _ => (Rat.add_zero _).symm
  | p :: ps, acc, nd => by
    rw [List.foldl_cons, lin_fold (insE_nd nd), lin_ins nd]
    show _ + _ + _ = _ + (φ p.1 * p.2 + lin φ ps)
    rw [Rat.add_assoc]
theorem lin_gath {φ : List Int → Rat} (ps : List Ent) : lin φ (gath ps) = lin φ ps := by
  unfold gath
  rw [lin_fold (by simp)]
  exact Rat.zero_add _
theorem lin_zero (es : List Ent) : lin (fun _ => 0) es = 0 := by
  induction es with
  | nil => rfl
  | cons e es ih =>
    show 0 * e.2 + lin _ es = 0
    rw [ih, Rat.zero_mul, Rat.add_zero]
theorem lin_add (φ ψ : List Int → Rat) (es : List Ent) : lin (fun k => φ k + ψ k) es = lin φ es + lin ψ es := by
  induction es with
  | nil => exact (Rat.add_zero _).symm
  | cons e es ih =>
    show (φ e.1 + ψ e.1) * e.2 + lin _ es = (φ e.1 * e.2 + lin φ es) + (ψ e.1 * e.2 + lin ψ es)
    rw [ih, Rat.add_mul]
    grind
theorem lin_smul (φ : List Int → Rat) (c : Rat) (es : List Ent) : lin (fun k => φ k * c) es = lin φ es * c := by
  induction es with
  | nil => exact (Rat.zero_mul _).symm
  | cons e es ih =>
    show φ e.1 * c * e.2 + lin _ es = (φ e.1 * e.2 + lin φ es) * c
    rw [ih, Rat.add_mul]
    grind
theorem lin_congr {φ ψ : List Int → Rat} : ∀ {es : List Ent}, (∀ e ∈ es, φ e.1 = ψ e.1) → lin φ es = lin ψ es
  | [], _ => rfl
  | e :: es, h => by
    show φ e.1 * e.2 + lin φ es = ψ e.1 * e.2 + lin ψ es
    rw [h e (List.mem_cons_self ..), lin_congr fun x hx => h x (List.mem_cons_of_mem _ hx)]
/-! coefficients -/
def ind (k x : List Int) : Rat := if x = k then 1 else 0
def cf (es : List Ent) (k : List Int) : Rat := lin (ind k) es
end K15

set_option Elab.async false
set_option linter.all false
set_option maxRecDepth 100000
set_option maxHeartbeats 4000000
/-! texts of lists and tuples that hold own objects -/
namespace DL
open PySem PySem.Spec PyProof.Rows L2
mutual
/-- data that can be written, each told by where it stands -/
inductive Rp : D → Prop
  | non : Rp .non
  | bl (b) : Rp (.bl b)
  | int (i) : Rp (.int i)
  | str (s) : Rp (.str s)
  | tup {l} : Rps l → Rp (.tup l)
  | lst {l} : Rps l → Rp (.lst l)
  | obj {C fs} : Rpf fs → Rp (.obj C fs)
  | dcT {kvs} : Rpt kvs → Rp (.dcT kvs)
inductive Rps : List D → Prop
  | nil : Rps []
  | cons {d l} : Rp d → Rps l → Rps (d :: l)
inductive Rpf : List (Str × D) → Prop
  | nil : Rpf []
  | cons {f d l} : Rp d → Rpf l → Rpf ((f, d) :: l)
inductive Rpt : List (List Key × D) → Prop
  | nil : Rpt []
  | cons {k d l} : Rp d → Rpt l → Rpt ((k, d) :: l)
end
section
variable {K : PySem.W.Frag} {I : Hp}
mutual
theorem Dn.uniq : ∀ {d d' : D} {v : V}, Dn K I d v → Rp d → Rp d' → Dn K I d' v → d = d'
  | _, _, _, .non, _, r', n' => by cases n' <;> first | rfl | cases r'
  | _, _, _, .bl b, _, r', n' => by cases n' <;> first | rfl | cases r'
  | _, _, _, .int i, _, r', n' => by cases n' <;> first | rfl | cases r'
  | _, _, _, .str s, _, r', n' => by cases n' <;> first | rfl | cases r'
  | _, _, _, .ty n, r, _, _ => by cases r
  | _, _, _, .cls a, r, _, _ => by cases r
  | _, _, _, .frl h, r, _, _ => by cases r
  | _, _, _, .dct h, r, _, _ => by cases r
  | _, _, _, .dcK h _, r, _, _ => by cases r
  | _, _, _, .tup h m, r, r', n' => by
    cases n' with
    | tup h' m' =>
      rw [h] at h'
      cases h'
      cases r with
      | tup r => cases r' with
        | tup r' => rw [Dns.uniq m r r' m']
    | lst h' m' => rw [h] at h'; cases h'
    | obj h' m' => rw [h] at h'; cases h'
    | cls _ => cases r'
    | dct _ => cases r'
    | dcT h' m' => rw [h] at h'; cases h'
    | dcK _ _ => cases r'
    | frl _ => cases r'
  | _, _, _, .lst h m, r, r', n' => by
    cases n' with
    | lst h' m' =>
      rw [h] at h'
      cases h'
      cases r with
      | lst r => cases r' with
        | lst r' => rw [Dns.uniq m r r' m']
    | tup h' m' => rw [h] at h'; cases h'
    | obj h' m' => rw [h] at h'; cases h'
    | cls _ => cases r'
    | dct _ => cases r'
    | dcT h' m' => rw [h] at h'; cases h'
    | dcK _ _ => cases r'
    | frl _ => cases r'
  | _, _, _, .obj h m, r, r', n' => by
    cases n' with
    | obj h' m' =>
      rw [h] at h'
      cases h'
      cases r with
      | obj r => cases r' with
        | obj r' => rw [Dnf.uniq m r r' m']
    | tup h' m' => rw [h] at h'; cases h'
    | lst h' m' => rw [h] at h'; cases h'
    | cls _ => cases r'
    | dct _ => cases r'
    | dcT h' m' => rw [h] at h'; cases h'
    | dcK _ _ => cases r'
    | frl _ => cases r'
  | _, _, _, .dcT h m, r, r', n' => by
    cases n' with
    | dcT h' m' =>
      rw [h] at h'
      cases h'
      cases r with
      | dcT r => cases r' with
        | dcT r' => rw [Dnt.uniq m r r' m']
    | tup h' m' => rw [h] at h'; cases h'
    | lst h' m' => rw [h] at h'; cases h'
    | obj h' m' => rw [h] at h'; cases h'
    | cls _ => cases r'
    | dct _ => cases r'
    | dcK _ _ => cases r'
    | frl _ => cases r'
termination_by structural _ _ _ x => x
theorem Dnt.uniq : ∀ {l l' : List (List Key × D)} {xs : List (List Key × V)}, Dnt K I l xs → Rpt l → Rpt l' → Dnt K I l' xs → l = l'
  | _, _, _, .nil, _, _, n' => by cases n'; rfl
  | _, _, _, .cons h m, r, r', n' => by
    cases n' with
    | cons h' m' =>
      cases r with
      | cons r1 r2 => cases r' with
        | cons r1' r2' => rw [Dn.uniq h r1 r1' h', Dnt.uniq m r2 r2' m']
termination_by structural _ _ _ x => x
theorem Dns.uniq : ∀ {l l' : List D} {xs : List V}, Dns K I l xs → Rps l → Rps l' → Dns K I l' xs → l = l'
  | _, _, _, .nil, _, _, n' => by cases n'; rfl
  | _, _, _, .cons h m, r, r', n' => by
    cases n' with
    | cons h' m' =>
      cases r with
      | cons r1 r2 => cases r' with
        | cons r1' r2' => rw [Dn.uniq h r1 r1' h', Dns.uniq m r2 r2' m']
termination_by structural _ _ _ x => x
theorem Dnf.uniq : ∀ {l l' : List (Str × D)} {xs : List (Str × V)}, Dnf K I l xs → Rpf l → Rpf l' → Dnf K I l' xs → l = l'
  | _, _, _, .nil, _, _, n' => by cases n'; rfl
  | _, _, _, .cons h m, r, r', n' => by
    cases n' with
    | cons h' m' =>
      cases r with
      | cons r1 r2 => cases r' with
        | cons r1' r2' => rw [Dn.uniq h r1 r1' h', Dnf.uniq m r2 r2' m']
termination_by structural _ _ _ x => x
end
open Classical in
noncomputable def del (I : Hp) (a : Addr) : Hp := fun b => if b = a then none else I b
theorem del_same {a : Addr} : del I a a = none := if_pos rfl
theorem del_ne {a b : Addr} (h : b ≠ a) : del I a b = I b := if_neg h
/-- the same data without what stands at a, which is greater than they are -/
theorem del_sub {a : Addr} {big : D} (rb : Rp big) (nb : Dn K I big (.ref a)) : ∀ n, (∀ d v, sizeOf d < n → sizeOf d < sizeOf big → Rp d → Dn K I d v → Dn K (del I a) d v) ∧ (∀ l xs, sizeOf l < n → sizeOf l < sizeOf big → Rps l → Dns K I l xs → Dns K (del I a) l xs) ∧ (∀ l xs, sizeOf l < n → sizeOf l < sizeOf big → Rpf l → Dnf K I l xs → Dnf K (del I a) l xs) ∧ (∀ l xs, sizeOf l < n → sizeOf l < sizeOf big → Rpt l → Dnt K I l xs → Dnt K (del I a) l xs) := by
  intro n
  induction n with
  | zero => exact ⟨fun _ _ h => absurd h (Nat.not_lt_zero _), fun _ _ h => absurd h (Nat.not_lt_zero _), fun _ _ h => absurd h (Nat.not_lt_zero _), fun _ _ h => absurd h (Nat.not_lt_zero _)⟩
  | succ n ih =>
    obtain ⟨i1, i2, i3, i4⟩ := ih
    refine ⟨fun d v hn hb r m => ?_, fun l xs hn hb r m => ?_, fun l xs hn hb r m => ?_, fun l xs hn hb r m => ?_⟩
    · have ne : ∀ b, v = .ref b → b ≠ a := fun b e z => by
        subst z
        subst e
        have := Dn.uniq m r rb nb
        rw [this] at hb
        exact Nat.lt_irrefl _ hb
      cases m with
      | non => exact .non
      | bl b => exact .bl b
      | int i => exact .int i
      | str s => exact .str s
      | ty _ => cases r
      | cls _ => cases r
      | frl _ => cases r
      | dct _ => cases r
      | dcT h m =>
        cases r with
        | dcT r =>
          simp only [D.dcT.sizeOf_spec] at hn hb
          exact .dcT (by rw [del_ne (ne _ rfl)]; exact h) (i4 _ _ (by omega) (by omega) r m)
      | dcK _ _ => cases r
      | tup h m =>
        cases r with
        | tup r =>
          simp only [D.tup.sizeOf_spec] at hn hb
          exact .tup (by rw [del_ne (ne _ rfl)]; exact h) (i2 _ _ (by omega) (by omega) r m)
      | lst h m =>
        cases r with
        | lst r =>
          simp only [D.lst.sizeOf_spec] at hn hb
          exact .lst (by rw [del_ne (ne _ rfl)]; exact h) (i2 _ _ (by omega) (by omega) r m)
      | obj h m =>
        cases r with
        | obj r =>
          simp only [D.obj.sizeOf_spec] at hn hb
          exact .obj (by rw [del_ne (ne _ rfl)]; exact h) (i3 _ _ (by omega) (by omega) r m)
    · cases m with
      | nil => exact .nil
      | cons h m =>
        cases r with
        | cons r1 r2 =>
          simp only [List.cons.sizeOf_spec] at hn hb
          exact .cons (i1 _ _ (by omega) (by omega) r1 h) (i2 _ _ (by omega) (by omega) r2 m)
    · cases m with
      | nil => exact .nil
      | cons h m =>
        cases r with
        | cons r1 r2 =>
          simp only [List.cons.sizeOf_spec, Prod.mk.sizeOf_spec] at hn hb
          exact .cons (i1 _ _ (by omega) (by omega) r1 h) (i3 _ _ (by omega) (by omega) r2 m)
    · cases m with
      | nil => exact .nil
      | cons h m =>
        cases r with
        | cons r1 r2 =>
          simp only [List.cons.sizeOf_spec, Prod.mk.sizeOf_spec] at hn hb
          exact .cons (i1 _ _ (by omega) (by omega) r1 h) (i4 _ _ (by omega) (by omega) r2 m)
theorem del_lst {a : Addr} {l : List D} {xs : List V} (r : Rps l) (h : I a = some (.lst xs)) (m : Dns K I l xs) : Dns K (del I a) l xs :=
  (del_sub (big := .lst l) (.lst r) (.lst h m) (sizeOf l + 1)).2.1 l xs (by omega) (by simp only [D.lst.sizeOf_spec]; omega) r m
theorem del_tup {a : Addr} {l : List D} {xs : List V} (r : Rps l) (h : I a = some (.tup xs)) (m : Dns K I l xs) : Dns K (del I a) l xs :=
  (del_sub (big := .tup l) (.tup r) (.tup h m) (sizeOf l + 1)).2.1 l xs (by omega) (by simp only [D.tup.sizeOf_spec]; omega) r m
end
/-! being written: a stands no more among what never changes, and is back behind it -/
section
variable {g : List Code} {W W2 : Wd} {H H2 : Hp} {a : Addr} {o : HO}
theorem Ok.write {id : String} {rest : List Value} {kw : List (Str × Value)} (ok : Ok g W H) (ha : W.I a = some o) (hk : ∀ ks : List Key, o ≠ .tup (ks.map kV)) : Ok (.builtin id ⟨.ref a :: rest, kw⟩ :: g) ⟨del W.I a, W.P⟩ H where
  gd := fun b hb => by
    obtain ⟨i, r, k, h⟩ := hb
    rcases List.mem_cons.mp h with e | h
    · cases e
      exact ⟨del_same, (fun z => by rw [ok.ex _ _ ha] at z; cases z), fun ks z => by rw [ok.ex _ _ ha] at z; exact hk ks (Option.some.inj z)⟩
    · obtain ⟨n1, n2⟩ := ok.gd b ⟨i, r, k, h⟩
      refine ⟨?_, n2⟩
      show del W.I a b = none
      rw [del_ne (fun z => by rw [z, ha] at n1; cases n1)]
      exact n1
  ex := fun b u e => by
    have e' : del W.I a b = some u := e
    by_cases z : b = a
    · rw [z, del_same] at e'; cases e'
    · rw [del_ne z] at e'; exact ok.ex b u e'
  pot := fun b pb => by
    obtain ⟨n, x⟩ := ok.pot b pb
    refine ⟨?_, x⟩
    by_cases z : b = a
    · rw [z]; exact del_same
    · show del W.I a b = none
      rw [del_ne z]; exact n
theorem InG.cons {c : Code} {b : Addr} (h : InG g b) : InG (c :: g) b := let ⟨i, r, k, m⟩ := h; ⟨i, r, k, List.mem_cons_of_mem _ m⟩
/-- behind the writing -/
theorem written_stp {c : Code} (hc : InG (c :: g) a) (ok : Ok g W H) (ha : W.I a = some o) (st : Stp ⟨del W.I a, W.P⟩ H W2 H2) (ok2 : Ok (c :: g) W2 H2) : Stp W H (W2.new a o) H2 ∧ Ok g (W2.new a o) H2 := by
  have hH : H a = some o := ok.ex _ _ ha
  have nP : ¬ W.P a := fun z => by rw [(ok.pot a z).1] at ha; cases ha
  have h2 : H2 a = some o := st.keep a o hH nP
  have i2 : W2.I a = none := (ok2.gd a hc).1
  have nP2 : ¬ W2.P a := fun z => nP (st.oldP a o hH z)
  have ng : ¬ InG g a := fun z => by rw [(ok.gd a z).1] at ha; cases ha
  refine ⟨⟨fun b u e => ?_, st.P, st.keep, fun b u e hu n => ?_, st.oldP⟩, ?_⟩
  · show upd W2.I a o b = some u
    by_cases z : b = a
    · subst z
      rw [ha] at e
      cases e
      exact upd_same
    · rw [upd_ne z]
      exact st.I b u (by show del W.I a b = some u; rw [del_ne z]; exact e)
  · show upd W2.I a o b = none
    have z : b ≠ a := fun z => by rw [z, ha] at n; cases n
    rw [upd_ne z]
    exact st.old b u e hu (by show del W.I a b = none; rw [del_ne z]; exact n)
  · exact {
      gd := fun b hb => by
        obtain ⟨n1, n2⟩ := ok2.gd b hb.cons
        refine ⟨?_, n2⟩
        show upd W2.I a o b = none
        have ne : b ≠ a := fun z => ng (z ▸ hb)
        rw [upd_ne ne]
        exact n1
      ex := fun b u e => by
        have e' : upd W2.I a o b = some u := e
        by_cases z : b = a
        · subst z; rw [upd_same] at e'; cases e'; exact h2
        · rw [upd_ne z] at e'; exact ok2.ex b u e'
      pot := fun b pb => by
        obtain ⟨n, x⟩ := ok2.pot b pb
        refine ⟨?_, x⟩
        show upd W2.I a o b = none
        have ne : b ≠ a := fun z => nP2 (z ▸ pb)
        rw [upd_ne ne]
        exact n }
end
end DL

set_option Elab.async false
set_option linter.all false
set_option maxRecDepth 100000
set_option maxHeartbeats 4000000
/-! how lists and tuples that hold own objects are written -/
namespace DL
open PySem PySem.Spec PyProof.Rows L2 Builtin Builtin.List
/-- an around that stands in the same def -/
structure Ar (X : Cx) (k : Nat) (A : Around) : Prop where
  r : Room k A
  f : A.frames = some X.stack
theorem Ar.mono {X : Cx} {j k : Nat} {A : Around} (h : Ar X k A) (e : j ≤ k) : Ar X j A := ⟨h.r.mono e, h.f⟩
theorem Ar.env {X : Cx} {k : Nat} {A : Around} {pins : List (Addr × Obj)} {σ : L2.St} {H : Hp} {s : Shared} (h : Ar X k A) (I : Inv X pins σ H s) : Env0 X.prog X.w X.K X.mg X.base A X.stack s H :=
  let e := I.env0
  ⟨h.f, e.mod, e.bs, e.bsz, e.funs, e.frf, e.hok, e.bare⟩
theorem ar_loop {X : Cx} {k : Nat} {A : Around} {args : PySem.Args} (h : Ar X (k + 1) A) : Ar X k (A.under (.builtin "list.__repr__.loop" args)) where
  r := ⟨h.r.hd, by
    have := h.r.dp
    have e : (A.under (.builtin "list.__repr__.loop" args)).depth ≤ A.depth + 1 := by
      first | exact Nat.le_refl _ | exact Nat.le_succ _ | simp [Around.under, Code.weight, Code.isCreation, Code.isGuard, Code.isCaller, Code.frames, Code.isFrame, guardIds]
    omega, by have := h.r.un; rw [units_under_list_loop]; omega⟩
  f := by first | exact h.f | (simpa [Around.under, Code.envs, Code.isFrame, pushEnvs] using h.f)
theorem ar_tup {X : Cx} {k : Nat} {A : Around} {id : String} {args : PySem.Args} (h : Ar X (k + 1) A) (hi : id = "tuple.__repr__" ∨ id = "tuple.__repr__.under") : Ar X k (A.under (.builtin id args)) := by
  rcases hi with rfl | rfl
  · exact ⟨⟨h.r.hd, by
      have := h.r.dp
      have e : (A.under (.builtin "tuple.__repr__" args)).depth ≤ A.depth + 1 := by
        first | exact Nat.le_refl _ | exact Nat.le_succ _ | simp [Around.under, Code.weight, Code.isCreation, Code.isGuard, Code.isCaller, Code.frames, Code.isFrame, guardIds]
      omega, by have := h.r.un; rw [units_under_tuple_repr]; omega⟩, by first | exact h.f | (simpa [Around.under, Code.envs, Code.isFrame, pushEnvs] using h.f)⟩
  · exact ⟨⟨h.r.hd, by
      have := h.r.dp
      have e : (A.under (.builtin "tuple.__repr__.under" args)).depth ≤ A.depth + 1 := by
        first | exact Nat.le_refl _ | exact Nat.le_succ _ | simp [Around.under, Code.weight, Code.isCreation, Code.isGuard, Code.isCaller, Code.frames, Code.isFrame, guardIds]
      omega, by have := h.r.un; rw [units_under_tuple_repr_under]; omega⟩, by first | exact h.f | (simpa [Around.under, Code.envs, Code.isFrame, pushEnvs] using h.f)⟩
/-- d is written as t -/
def Wr (X : Cx) (k : Nat) (d : D) (t : Str) : Prop := ∀ (A : Around) (g : List Code) (W : Wd) (H : Hp) (pins : List (Addr × Obj)) (σ : L2.St) (s : Shared) (v : V) (u : Value) (base : Nat) (Q : Str → Shared → Prop) (E : Value → Shared → Prop), Ar X k A → A.guards = some g → Ok g W H → Inv X pins σ H s → Dn X.K W.I d v → RelV v u → base + t.length ≤ sizeLine →
  (∀ W' H' s', Stp W H W' H' → Ok g W' H' → Inv X pins σ H' s' → Q t s') → wpAny (model X.prog X.w) A (pyReprUnder base u) Q E s
section
variable {X : Cx} {k : Nat}
theorem wr_is {d : D} {t : Str} (h : ∀ K I v u, Dn K I d v → RelV v u → ReprIs X.prog X.w u t) : Wr X k d t := fun A g W H pins σ s v u base Q E hA hg ok I n r hb q =>
  h _ _ _ _ n r base hb A E s Q fun tk => q W H _ Stp.refl ok (I.tok tk)
theorem wr_int {i : Int} (hi : i.natAbs.log2 < 1920) : Wr X k (.int i) (toString i) := wr_is fun K I v u n r => by
  cases n
  obtain ⟨t, rfl⟩ := r
  exact ReprIs.int t hi
theorem Ok.swap {g : List Code} {W : Wd} {H : Hp} {id id' : String} {a : Addr} {r r' : List Value} {kw kw' : List (Str × Value)} (ok : Ok (.builtin id ⟨.ref a :: r, kw⟩ :: g) W H) : Ok (.builtin id' ⟨.ref a :: r', kw'⟩ :: g) W H where
  gd := fun b hb => by
    obtain ⟨i, rr, k, h⟩ := hb
    rcases List.mem_cons.mp h with e | h
    · cases e
      exact ok.gd _ ⟨id, r, kw, List.mem_cons_self⟩
    · exact ok.gd b ⟨i, rr, k, List.mem_cons_of_mem _ h⟩
  ex := ok.ex
  pot := ok.pot
theorem vals_strs : ∀ {ts : List Str} {its : List Value}, Vals (ts.map V.str) its → ∃ done : List (Str × Tok), its = strValues done ∧ done.map (·.1) = ts
  | [], _, .nil => ⟨[], rfl, rfl⟩
  | t :: ts, _, .cons ⟨tk, e⟩ r => by
    obtain ⟨done, e1, e2⟩ := vals_strs r
    subst e e1
    exact ⟨(t, tk) :: done, rfl, by rw [List.map_cons, e2]⟩
theorem dns_strs {K : PySem.W.Frag} {I : Hp} : ∀ {ts : List Str} {xs : List V}, Dns K I (ts.map D.str) xs → xs = ts.map V.str
  | [], _, .nil => rfl
  | t :: ts, _, .cons (.str _) r => by rw [List.map_cons, dns_strs r]
section
variable {A : Around} {g : List Code} {a P : Addr} {W1 : Wd} {H1 : Hp} {pins : List (Addr × Obj)} {σ : L2.St} {l : List D} {xs : List V} {ts : List Str} {base : Nat} {R : PySem.Result → Shared → Prop}
theorem wr_loop (hA : Ar X (k + 1) A) (hg : A.guards = some g) (ha : H1 a = some (.lst xs)) (nP : ¬ W1.P a) (hm : Dns X.K W1.I l xs) (hP : H1 P = none) (hlen : ts.length = l.length) (hl : l.length ≤ 1000)
    (hT : ∀ (i : Nat) d, l[i]? = some d → ∃ t, ts[i]? = some t ∧ Wr X k d t) (hsz : base + (listText ts).length ≤ sizeLine)
    (hR : ∀ W' H' s' u, Stp W1 H1 W' H' → (∀ r kw, Ok (.builtin "list.__repr__.loop" ⟨.ref a :: r, kw⟩ :: g) W' H') → Inv X pins σ H' s' → R (.ok (.ret (.str (listText ts) u))) s') :
    ∀ (n i : Nat) (s : Shared) (W : Wd) (H : Hp), l.length - i = n → i ≤ l.length → Mid X.K (.builtin "list.__repr__.loop" ⟨.ref a :: [], []⟩ :: g) W1 H1 P ((ts.take i).map D.str) W H → Inv X pins σ H s →
      codeAny (model X.prog X.w) A (.builtin "list.__repr__.loop" ⟨[.ref a, rawInt i, .ref P, rawInt ((base + piled (ts.take i) : Nat) : Int)], []⟩) R s := by
  have t0 := textFrom_len ts 0 "["
  have tx : (listText ts).length = (textFrom 0 "[" ts).length + 1 := by show (textFrom 0 "[" ts ++ "]").length = _; rw [strLen_append]; rfl
  have each : ∀ t ∈ ts, t.length ≤ sizeLine := fun t ht => by have := t0.2.1 t ht; omega
  have top := piled_le_listText ts
  intro n
  induction n with
  | zero =>
    intro i s W H hn hi m I
    have ei : i = l.length := by omega
    obtain ⟨_, its, n0, rv, _, get⟩ := I.lstM (m.st.keep a _ ha nP)
    have li : its.length = l.length := by rw [← rv.length, ← hm.length]
    refine codeAny_builtin F.entry_list_repr_loop ?_
    show wpAny _ _ («list.__repr__.loop» ⟨[.ref a, .int i 0, .ref P, .int ((base + piled (ts.take i) : Nat) : Int) 0], []⟩) _ _ s
    rw [repr_loop_tree]; refine wpAny_bind (wpAny_listItems get rfl ?_)
    have none_ : its.toArray[(i : Int).toNat]? = none := by simp; omega
    simp only [none_]; unfold reprEnd
    obtain ⟨ps, hp, dp⟩ := m.h
    obtain ⟨_, its2, n2, rv2, _, get2⟩ := I.lstM hp
    rw [dns_strs dp] at rv2
    obtain ⟨done, e1, e2⟩ := vals_strs rv2
    refine wpAny_bind (wpAny_listItems get2 rfl ?_)
    rw [show its2.toArray.toList = strValues done by simpa using e1, repr_fold]
    refine wpAny_bind (wpAny_pure ?_); rw [e2, ei, ← hlen, List.take_length]
    refine wpAny_bind (wpAny_mkStr (wpAny_pure ?_) (by show (listText ts).length ≤ sizeLine; omega))
    exact hR W H _ _ m.st (fun r kw => m.ok.swap) (I.tok _)
  | succ n ih =>
    intro i s W H hn hi m I
    have lt : i < l.length := by omega
    have el : l[i]? = some l[i] := List.getElem?_eq_getElem lt
    obtain ⟨t, et, wr⟩ := hT i _ el
    have p1 := piled_take_succ et
    have p2 := piled_take_le ts (i + 1)
    obtain ⟨_, its, n0, rv, _, get⟩ := I.lstM (m.st.keep a _ ha nP)
    obtain ⟨v, ev, dv⟩ := hm.get' el
    obtain ⟨u, eu, ru⟩ := rv.get ev
    refine codeAny_builtin F.entry_list_repr_loop ?_
    show wpAny _ _ («list.__repr__.loop» ⟨[.ref a, .int i 0, .ref P, .int ((base + piled (ts.take i) : Nat) : Int) 0], []⟩) _ _ s
    rw [repr_loop_tree]; refine wpAny_bind (wpAny_listItems get rfl ?_)
    have some_ : its.toArray[(i : Int).toNat]? = some u := by simpa using eu
    simp only [some_]; rw [Int.toNat_natCast]
    refine wpAny_bind (wpAny_holding (wr _ _ W H pins σ s v u (base + piled (ts.take i) + 1) _ _ (ar_loop hA) (guards_under_guard (isGuard_list_loop _) hg) m.ok.swap I (dv.mono m.st.I) ru (by omega) fun W2 H2 s2 st2 ok2 I2 => ?_))
    refine wpAny_bind (wpAny_mkStr ?_ (each t (List.mem_of_getElem? et)))
    have m2 := m.step st2 ok2.swap
    obtain ⟨ps, hp, dp⟩ := m2.h
    have lp := dp.length
    rw [List.length_map, List.length_take] at lp
    obtain ⟨_, its2, n2, rv2, l2, get2⟩ := I2.lstM hp
    have lq : its2.length ≤ 1000 := by rw [← l2]; omega
    obtain ⟨ps', hp', _, m3⟩ := m2.more (d := .str t) hP (.str t) (by rw [List.length_map, List.length_take]; omega)
    rw [hp] at hp'
    cases hp'
    refine wpAny_bind ?_; show wpAny _ _ (updateSeq P _) _ _ _
    refine wpAny_updateSeq get2 rfl (wpAny_pure ⟨F.quiet_list_repr_loop _, ?_⟩) (by rw [List.size_toArray]; exact Nat.le_trans lq (by decide))
    have I3 := I2.lset (its' := its2 ++ [.str t s2.toks]) (ys := ps ++ [V.str t]) (f := (·.push (.str t s2.toks))) (t' := s2.toks + 1) hp get2 (by simp) (rv2.append (.cons ⟨_, rfl⟩ .nil)) (by rw [List.length_append, List.length_singleton, l2]; exact Nat.le_trans (Nat.succ_le_succ lq) (by decide))
    have e3 : (ts.take i).map D.str ++ [D.str t] = (ts.take (i + 1)).map D.str := by rw [List.take_add_one, et, List.map_append]; rfl
    rw [e3] at m3
    have e4 : ((i : Int) + 1) = ((i + 1 : Nat) : Int) := by omega
    have e5 : base + piled (ts.take i) + (t.length + 2) = base + piled (ts.take (i + 1)) := by omega
    rw [e4, e5]
    exact ih (i + 1) _ _ _ (by omega) lt m3 I3
end
end
end DL

set_option Elab.async false
set_option linter.all false
set_option maxRecDepth 100000
set_option maxHeartbeats 4000000
namespace DL
open PySem PySem.Spec PyProof.Rows L2 Builtin Builtin.List
section
variable {X : Cx} {k : Nat}
theorem wr_lstBody {A : Around} {g : List Code} {l : List D} {ts : List Str} {a : Addr} {xs : List V} {W : Wd} {H : Hp} {pins : List (Addr × Obj)} {σ : L2.St} {s : Shared} {base : Nat} {R : PySem.Result → Shared → Prop} (hl : l.length ≤ 1000) (hA : Ar X (k + 1) A) (hg : A.guards = some g) (ok : Ok g W H) (I : Inv X pins σ H s) (ha : W.I a = some (.lst xs)) (hm : Dns X.K W.I l xs)
    (rp : Rps l) (hlen : ts.length = l.length) (hT : ∀ (i : Nat) d, l[i]? = some d → ∃ t, ts[i]? = some t ∧ Wr X k d t) (hb : base + (listText ts).length ≤ sizeLine) (q : ∀ W' H' s' u, Stp W H W' H' → Ok g W' H' → Inv X pins σ H' s' → R (.ok (.ret (.str (listText ts) u))) s') :
    wpAny (model X.prog X.w) A.in1 (Builtin.listReprAt base ⟨[.ref a], []⟩) (fun fin s' => match fin with | .done f => R (.ok f) s' | .again c' => c'.quiet = true ∧ codeAny (model X.prog X.w) A c' R s') (fun e s' => R (.error e) s') s := by
  have hH := ok.ex _ _ ha
  obtain ⟨_, its, n0, rv, le, get⟩ := I.lstM hH
  have nP : ¬ W.P a := fun z => by rw [(ok.pot a z).1] at ha; cases ha
  have clr : ∀ b, InG g b → b ≠ a := fun b z e => by rw [e] at z; rw [(ok.gd a z).1] at ha; cases ha
  cases its with
  | nil =>
    have l0 : l = [] := List.length_eq_zero_iff.mp (by rw [hm.length, le]; rfl)
    subst l0
    have t0 : ts = [] := List.length_eq_zero_iff.mp hlen
    subst t0
    exact wpAny_list_repr_empty get rfl (q W H _ _ Stp.refl ok (I.tok _))
  | cons x r =>
    refine wpAny_list_repr_head (A := A.in1) hg (fun v rest kw h => listSameRef_of_ne fun e => clr a ⟨_, rest, kw, e ▸ h⟩ rfl) get rfl ?_
    refine wpAny_bind (m := newList []) (wpAny_newObj_type ?_); refine wpAny_pure ⟨F.quiet_list_repr_loop _, ?_⟩
    have hP := I.fresh
    have ok1 : ∀ r kw, Ok (.builtin "list.__repr__.loop" ⟨.ref a :: r, kw⟩ :: g) ⟨del W.I a, W.P⟩ H := fun r kw => ok.write ha fun ks z => by cases z
    have I1 := I.lnew (its := []) (ys := []) (t' := s.toks) .nil (Nat.zero_le _)
    refine wr_loop (W1 := ⟨del W.I a, W.P⟩) (H1 := H) (xs := xs) (pins := pins) (σ := σ) hA hg hH nP (del_lst rp ha hm) hP hlen hl hT hb (fun W' H' s' u st okc I' => ?_) _ 0 _ ⟨del W.I a, W.P⟩ _ rfl (Nat.zero_le _) ⟨Stp.own hP, (ok1 [] []).own hP, (ok1 [] []).notP hP, (ok1 [] []).free hP, [], upd_same, .nil⟩ I1
    obtain ⟨st2, ok2⟩ := written_stp ⟨_, _, _, List.mem_cons_self ..⟩ ok ha st (okc [] [])
    exact q _ _ _ u st2 ok2 I'
theorem wr_list {l : List D} {ts : List Str} (hl : l.length ≤ 1000) (rp : Rps l) (hlen : ts.length = l.length) (hT : ∀ (i : Nat) d, l[i]? = some d → ∃ t, ts[i]? = some t ∧ Wr X k d t) : Wr X (k + 1) (.lst l) (listText ts) := fun A g W H pins σ s v u base Q E hA hg ok I n r hb q => by
  cases n with
  | @lst _ a xs ha hm =>
    cases r
    obtain ⟨_, its, n0, rv, le, get⟩ := I.lstM (ok.ex _ _ ha)
    have ty : s.TypeIs (.ref a) "list" := ⟨_, get, rfl⟩
    refine wpAny_pyReprUnder_ref (by omega) ?_
    refine wpAny_pyReprObjUnder_twin (twin := "list.__repr__.under") ty F.slot_list_repr.toG rfl hA.r.units0 ?_
    refine call_twin_plain F.plain_list_repr_under F.entry_list_repr_under F.check_list_repr_under ty F.slot_list_repr.toG (F.args_list_repr_1 _) ?_
    exact wr_lstBody hl hA hg ok I ha hm rp hlen hT hb fun W' H' s' u st ok' I' => ⟨⟨_, _, rfl⟩, _, _, rfl, q _ _ _ st ok' I'⟩
theorem wr_fold {A : Around} {g : List Code} (hA : Ar X k A) (hg : A.guards = some g) {W1 : Wd} {H1 : Hp} {pins : List (Addr × Obj)} {σ : L2.St} {E : Value → Shared → Prop} (l : List D) : ∀ (xs : List V) (us : List Value) (ts : List Str) (acc : Array Str) (n : Nat) (s : Shared) (W : Wd) (H : Hp) (Q : (Array Str × Nat) → Shared → Prop),
    Dns X.K W1.I l xs → Vals xs us → ts.length = l.length → (∀ (i : Nat) d, l[i]? = some d → ∃ t, ts[i]? = some t ∧ Wr X k d t) → n + piled ts ≤ sizeLine → Stp W1 H1 W H → Ok g W H → Inv X pins σ H s →
    (∀ W' H' s', Stp W1 H1 W' H' → Ok g W' H' → Inv X pins σ H' s' → Q ⟨acc ++ ts.toArray, n + piled ts⟩ s') → wpAny (model X.prog X.w) A (forIn us (⟨acc, n⟩ : (Array Str × Nat)) tupBody) Q E s := by
  induction l with
  | nil =>
    intro xs us ts acc n s W H Q hm hr hlen hT hn st ok I q
    cases hm
    cases hr
    have t0 : ts = [] := List.length_eq_zero_iff.mp hlen
    subst t0
    simp only [List.forIn_nil]
    exact wpAny_pure (by simpa [piled] using q W H s st ok I)
  | cons d l ih =>
    intro xs us ts acc n s W H Q hm hr hlen hT hn st ok I q
    cases hm with
    | cons m ms => cases hr with
      | cons r rs => cases ts with
        | nil => cases hlen
        | cons t ts =>
          rw [piled_cons] at hn
          rw [List.forIn_cons]
          obtain ⟨t', e, wr⟩ := hT 0 d rfl
          cases e
          refine wpAny_bind (wpAny_bind (wr A g W H pins σ s _ _ (n + 1) _ E hA hg ok I (m.mono st.I) r (by omega) fun W2 H2 s2 st2 ok2 I2 => wpAny_pure ?_))
          refine ih _ _ ts (acc.push t) (n + (t.length + 2)) s2 W2 H2 Q ms rs (Nat.succ.inj hlen) (fun i d h => hT (i + 1) d h) (by omega) (st.trans ok st2) ok2 I2 fun W' H' s' st' ok' I' => ?_
          have h1 := q W' H' s' st' ok' I'
          have e : n + piled (t :: ts) = n + (t.length + 2) + piled ts := by rw [piled_cons]; omega
          rw [e] at h1
          simpa using h1
theorem wr_tupBody {A : Around} {g : List Code} {id : String} {rest : List Value} {l : List D} {ts : List Str} {a : Addr} {xs : List V} {W : Wd} {H : Hp} {pins : List (Addr × Obj)} {σ : L2.St} {s : Shared} {base : Nat} {R : PySem.Result → Shared → Prop} (hi : id = "tuple.__repr__" ∨ id = "tuple.__repr__.under") (hA : Ar X (k + 1) A) (hg : A.guards = some g) (ok : Ok g W H) (I : Inv X pins σ H s) (ha : W.I a = some (.tup xs)) (hk : ∀ ks : List Key, HO.tup xs ≠ .tup (ks.map kV)) (hm : Dns X.K W.I l xs)
    (rp : Rps l) (hlen : ts.length = l.length) (hT : ∀ (i : Nat) d, l[i]? = some d → ∃ t, ts[i]? = some t ∧ Wr X k d t) (hb : base + (tupleText ts).length ≤ sizeLine) (q : ∀ W' H' s' u, Stp W H W' H' → Ok g W' H' → Inv X pins σ H' s' → R (.ok (.ret (.str (tupleText ts) u))) s') :
    wpOwn (model X.prog X.w) A (.builtin id ⟨.ref a :: rest, []⟩) (Builtin.tupleReprAt base ⟨[.ref a], []⟩) (fun fin s' => match fin with | .done f => R (.ok f) s' | .again c' => c'.quiet = true ∧ codeAny (model X.prog X.w) A c' R s') (fun e s' => R (.error e) s') s := by
  have hH := ok.ex _ _ ha
  obtain ⟨its, rv, ⟨o, ho, hc, n0, hd⟩, _⟩ := I.tuple (SqT.of hH)
  have tl := piled_le_tupleText ts
  have li : its.length = ts.length := by rw [← rv.length, ← hm.length, hlen]
  have clr : Clear g a := clear_of fun z => by rw [(ok.gd a z).1] at ha; cases ha
  have hcg : (Code.builtin id ⟨.ref a :: rest, []⟩).isGuard = true := by
    rcases hi with rfl | rfl
    · exact isGuard_tuple_repr _
    · exact isGuard_tuple_repr_under _
  rw [tuple_repr_tree, tupleReprUnderWay_eq]; refine wpOwn_bind (wpOwn_stackTailAny hg (tupGuardF_off _) (tupGuardF_pos _) ?_)
  have no : (g.any fun c => tupGuardF (.ref a) (c, default)) = false := by
    rw [List.any_eq_false]; intro c hcm; rw [tupGuardF_of_clear clr c hcm]; exact Bool.false_ne_true
  rw [no]; refine wpOwn_of_wpAny ?_
  show wpAny _ _ (tupleReprRest base (.ref a)) _ _ s
  unfold tupleReprRest Builtin.Tuple.tupleItemsOf; refine wpAny_bind (wpAny_bind (wpAny_seqItems ho hd (wpAny_pure ?_)))
  rw [← Array.forIn_toList]
  refine wpAny_bind (wr_fold (W1 := ⟨del W.I a, W.P⟩) (H1 := H) (ar_tup hA hi) (guards_under_guard hcg hg) l xs its ts _ _ _ ⟨del W.I a, W.P⟩ H _ (del_tup rp ha hm) rv hlen hT (by omega) Stp.refl (ok.write ha hk) I fun W' H' s' st okc I' => ?_)
  refine wpAny_bind (wpAny_mkStr (wpAny_pure ?_) (by simpa [tupleText, li] using (show (tupleText ts).length ≤ sizeLine by omega)))
  obtain ⟨st2, ok2⟩ := written_stp ⟨_, _, _, List.mem_cons_self ..⟩ ok ha st okc
  have z := q _ _ _ s'.toks st2 ok2 (I'.tok (s'.toks + 1))
  simpa [tupleText, li] using z
theorem keys_back {K : PySem.W.Frag} {I : Hp} : ∀ {l : List D} {ks : List Key}, Dns K I l (ks.map kV) → l = ks.map kD
  | _, [], m => by cases m; rfl
  | _, k :: ks, m => by
    cases m with
    | cons h t =>
      rw [keys_back t]
      have e : ∀ {d : D}, Dn K I d (kV k) → d = kD k := fun {d} h => by
        cases k with
        | inl i => cases h; rfl
        | inr s => cases h; rfl
      rw [e h]
      rfl
theorem wr_tup {l : List D} {ts : List Str} (nk : ∀ ks : List Key, l ≠ ks.map kD) (rp : Rps l) (hlen : ts.length = l.length) (hT : ∀ (i : Nat) d, l[i]? = some d → ∃ t, ts[i]? = some t ∧ Wr X k d t) : Wr X (k + 1) (.tup l) (tupleText ts) := fun A g W H pins σ s v u base Q E hA hg ok I n r hb q => by
  cases n with
  | @tup _ a xs ha hm =>
    cases r
    obtain ⟨its, rv, ⟨o, ho, hc, n0, hd⟩, _⟩ := I.tuple (SqT.of (ok.ex _ _ ha))
    have ty : s.TypeIs (.ref a) "tuple" := ⟨o, ho, hc⟩
    refine wpAny_pyReprUnder_ref (by omega) ?_
    refine wpAny_pyReprObjUnder_twin (twin := "tuple.__repr__.under") ty F.slot_tuple_repr rfl hA.r.units0 ?_
    refine call_twin_own (F.quiet_tuple_repr_under _) F.entry_tuple_repr_under F.check_tuple_repr_under ty F.slot_tuple_repr (F.args_tuple_repr_1 _) ?_
    exact wr_tupBody (.inr rfl) hA hg ok I ha (fun ks z => by cases z; exact nk ks (keys_back hm)) hm rp hlen hT hb fun W' H' s' u st ok' I' => ⟨⟨_, _, rfl⟩, _, _, rfl, q _ _ _ st ok' I'⟩
/-- a tuple of ints -/
theorem wr_foldI {A : Around} {g : List Code} {E : Value → Shared → Prop} (is : List Int) : ∀ (us : List Value) (acc : Array Str) (n : Nat) (s : Shared) (Q : (Array Str × Nat) → Shared → Prop),
    (∀ i ∈ is, i.natAbs.log2 < 1920) → Vals (is.map V.int) us → n + piled (is.map fun i => (toString i : Str)) ≤ sizeLine → (∀ tk, Q ⟨acc ++ (is.map fun i => (toString i : Str)).toArray, n + piled (is.map fun i => (toString i : Str))⟩ { s with toks := tk }) → wpAny (model X.prog X.w) A (forIn us (⟨acc, n⟩ : (Array Str × Nat)) tupBody) Q E s := by
  induction is with
  | nil =>
    intro us acc n s Q hi hv hn q
    cases hv
    simp only [List.forIn_nil]
    exact wpAny_pure (by simpa [piled] using q s.toks)
  | cons i is ih =>
    intro us acc n s Q hi hv hn q
    rw [List.map_cons] at hv
    cases hv with
    | cons r rs =>
      obtain ⟨t, rfl⟩ := r
      rw [List.map_cons, piled_cons] at hn
      rw [List.forIn_cons]
      refine wpAny_bind (wpAny_bind (ReprIs.int t (hi i (List.mem_cons_self ..)) (n + 1) (by omega) A E s _ fun tk => wpAny_pure ?_))
      refine ih _ (acc.push (toString i : Str)) (n + (((toString i : Str)).length + 2)) _ Q (fun i h => hi i (List.mem_cons_of_mem _ h)) rs (by omega) fun tk2 => ?_
      have h1 := q tk2
      rw [List.map_cons, piled_cons] at h1
      have e : n + ((toString i : Str).length + 2 + piled (is.map fun i => (toString i : Str))) = n + ((toString i : Str).length + 2) + piled (is.map fun i => (toString i : Str)) := by omega
      rw [e] at h1
      simpa using h1
theorem wr_tupI {is : List Int} (hi : ∀ i ∈ is, i.natAbs.log2 < 1920) : Wr X (k + 1) (tI is) (tupleText (is.map fun i => (toString i : Str))) := fun A g W H pins σ s v u base Q E hA hg ok I n r hb q => by
  cases n with
  | @tup _ a xs ha hm =>
    cases r
    rw [Dns.ints hm] at ha
    have hH := ok.ex _ _ ha
    obtain ⟨its, rv, ⟨o, ho, hc, n0, hd⟩, _⟩ := I.tuple (SqT.of hH)
    have ty : s.TypeIs (.ref a) "tuple" := ⟨o, ho, hc⟩
    refine wpAny_pyReprUnder_ref (by omega) ?_
    refine wpAny_pyReprObjUnder_twin (twin := "tuple.__repr__.under") ty F.slot_tuple_repr rfl hA.r.units0 ?_
    refine call_twin_own (F.quiet_tuple_repr_under _) F.entry_tuple_repr_under F.check_tuple_repr_under ty F.slot_tuple_repr (F.args_tuple_repr_1 _) ?_
    have tl := piled_le_tupleText (is.map fun i => (toString i : Str))
    have li : its.length = (is.map fun i => (toString i : Str)).length := by rw [← rv.length, List.length_map, List.length_map]
    have clr : Clear g a := clear_of fun z => by rw [(ok.gd a z).1] at ha; cases ha
    rw [tuple_repr_tree, tupleReprUnderWay_eq]; refine wpOwn_bind (wpOwn_stackTailAny hg (tupGuardF_off _) (tupGuardF_pos _) ?_)
    have no : (g.any fun c => tupGuardF (.ref a) (c, default)) = false := by
      rw [List.any_eq_false]; intro c hcm; rw [tupGuardF_of_clear clr c hcm]; exact Bool.false_ne_true
    rw [no]; refine wpOwn_of_wpAny ?_
    show wpAny _ _ (tupleReprRest base (.ref a)) _ _ s
    unfold tupleReprRest Builtin.Tuple.tupleItemsOf; refine wpAny_bind (wpAny_bind (wpAny_seqItems ho hd (wpAny_pure ?_)))
    rw [← Array.forIn_toList]
    refine wpAny_bind (wr_foldI (g := g) is its _ _ _ _ hi rv (by omega) fun tk => ?_)
    refine wpAny_bind (wpAny_mkStr (wpAny_pure ?_) (by simpa [tupleText, li] using (show (tupleText (is.map fun i => (toString i : Str))).length ≤ sizeLine by omega)))
    have z := q W H { s with toks := tk + 1 } Stp.refl ok (I.tok (tk + 1))
    exact ⟨⟨_, _, rfl⟩, _, _, rfl, by simpa [tupleText, li] using z⟩
/-- an object by its own __repr__ -/
theorem wr_obj {C : Addr} {fs : List (Str × D)} {t : Str} {sp : SpD} (F : Sm X.prog X.w X.K X.mg X.base C "__repr__" k sp) (q : ∀ Q : D → Prop, Q (.str t) → sp [.val (.obj C fs)] Q) : Wr X k (.obj C fs) t := fun A g W H pins σ s v u base Q E hA hg ok I n r hb c => by
  cases id n with
  | @obj _ _ p _ _ ha _ =>
    have r' := r
    cases (show u = Value.ref p from r)
    obtain ⟨f, fd, ps, F, hf, hi, hbb⟩ := F.ex
    obtain ⟨ox, od, J⟩ := inst_at I (ok.ex _ _ ha)
    refine wpAny_pyReprUnder_ref (by omega) ?_
    unfold pyReprObjUnder pyReprObjBy
    refine wpAny_bind (wpAny_cRoomFor hA.r.units0 ?_); refine wpAny_bind (wpAny_bind (J.type.here ((PySem.W.looks_findIn I.kIn hf).here ?_)))
    show wpAny _ _ (if (some (Value.ref f)).isNone = true then _ else _) _ _ _
    rw [if_neg (by simp)]
    have run : wpAny (model X.prog X.w) A (call (.ref f) [.ref p]) (fun r s' => ∃ tk, r = .str t tk ∧ Q t s') E s := by
      have hsp : lift X.K sp g [.ref p] H (fun z H' => z = .str t ∧ ∀ s', Inv X pins σ H' s' → Q t s') :=
        ⟨_, W, fun d => d = .str t, ok, .cons (show Arg X.K W (.val (.obj C fs)) (.ref p) from n) .nil, q _ rfl, fun d v2 W' H' st ok' n' e => by
          subst e
          cases n'
          exact ⟨rfl, fun s' I' => c W' H' s' st ok' I'⟩⟩
      refine wpAny_call (run_gn (A := A) (us := [.ref p]) (vs := [.ref p]) F hA.r hg (hA.env I) hbb .nil I (.cons r' .nil) hsp fun u s' hv => ?_)
      obtain ⟨z, H', I3, rz, e, q3⟩ := hv
      subst e
      obtain ⟨tk, rfl⟩ := (show ∃ tk, u = Value.str t tk from rz)
      exact ⟨tk, rfl, q3 s' I3⟩
    have fin : wpAny (model X.prog X.w) A (call (.ref f) ([.ref p] ++ []) >>= fun v => pure (some v)) (fun r s' => ∃ tk, r = some (.str t tk) ∧ Q t s') E s := wpAny_bind (wpAny_mono run (fun r s' ⟨tk, e, q⟩ => wpAny_pure ⟨tk, by rw [e], q⟩) fun _ _ y => y)
    refine wpAny_bind (wpAny_mono (Q := fun r s' => ∃ tk, r = some (.str t tk) ∧ Q t s') ?_ (fun r s' ⟨tk, e, qq⟩ => ?_) fun _ _ y => y)
    · simp only [callSpecialIfBoundBy?, bindSpecialIfBound?]
      refine wpAny_holding (wpAny_bind (wpAny_bind (wpAny_bind (J.type.here ((PySem.W.looks_findIn I.kIn hf).here ?_)))))
      refine wpAny_bind (wpAny_askSetting (wpAny_ite ?_))
      split
      · exact wpAny_bind ((PySem.W.bind_fn I.kIn _ (beq_iff_eq.mp hi)).here (wpAny_pure (by exact fin)))
      · exact wpAny_tryCatch (wpAny_bind ((PySem.W.bind_fn I.kIn _ (beq_iff_eq.mp hi)).here (wpAny_pure (by exact fin))))
    · subst e
      refine wpAny_bind (wpAny_isInstance (typeIs_str _ _ _) isSubtype_str_str ?_)
      first
        | exact wpAny_pure ⟨_, _, rfl, qq⟩
        | (rw [if_pos rfl]; exact wpAny_pure ⟨_, _, rfl, qq⟩)
        | (simp only [if_true]; exact wpAny_pure ⟨_, _, rfl, qq⟩)
theorem ar_here {pins : List (Addr × Obj)} {σ : L2.St} {H : Hp} {s : Shared} (hr : Room (k + 1) X.A) (I : Inv X pins σ H s) : Ar X k X.A.in1 := ⟨hr.in1, I.env0.frames⟩
theorem cd_reprL {l : List D} {ts : List Str} {Q : D → Prop} (hr : Room (k + 2) X.A) (hG : X.A.guards = some (gOf X)) (hl : l.length ≤ 1000) (rp : Rps l) (hlen : ts.length = l.length) (hT : ∀ (i : Nat) d, l[i]? = some d → ∃ t, ts[i]? = some t ∧ Wr X k d t) (hb : (listText ts).length ≤ sizeLine) (q : Q (.str (listText ts))) : CD X (.builtin "repr") [.val (.lst l)] Q := fun vs W H ok ha R c pins s σ us I rv => by
  obtain ⟨v, rfl, n⟩ := one_arg ha
  cases rv with
  | cons r1 r2 =>
    cases r2
    cases n with
    | @lst _ a xs hI hm =>
      cases r1
      obtain ⟨_, its, n0, rv, le, get⟩ := I.lstM (ok.ex _ _ hI)
      have ty : s.TypeIs (.ref a) "list" := ⟨_, get, rfl⟩
      have u0 := hr.un
      refine call_repr_slot (by omega) ty F.slot_list_repr.toG (wpAny_call (codeAny_call_builtin F.slot_list_repr.plain F.entry_list_repr (F.slot_list_repr.check _ _ _ _ _ _ _ _ ty (F.args_list_repr_1 _) ?_)))
      exact wr_lstBody (base := 0) (R := callEnd (fun r s₁ => ∃ x t, r = .str x t ∧ EP X pins σ R r s₁) X.xe) hl (ar_here hr I) hG ok I hI hm rp hlen hT (by omega) fun W' H' s' u st ok' I' => ⟨_, _, rfl, .str _, H', I', ⟨u, rfl⟩, c (.str _) _ W' H' st ok' (.str _) q⟩
end
end DL

set_option Elab.async false
set_option linter.all false
set_option maxRecDepth 100000
set_option maxHeartbeats 2000000
/-! {x!r}: a list with own objects, in a text -/
namespace DL
open PySem PySem.Spec PyProof.Rows L2
theorem pyReprObj_slot {prog : Program} {w : World} {A : Around} {E : Value → Shared → Prop} {s : Shared} {T idr : String} {v : Value} {Q : Value → Shared → Prop} (hu : A.units < cLine) (hT : s.TypeIs v T) (slotRepr : SlotG T "__repr__" idr)
    (hc : wpAny (model prog w) A (call (.builtin idr) [v]) (fun r s₁ => ∃ x t, r = .str x t ∧ Q r s₁) E s) : wpAny (model prog w) A (pyReprObj v) Q E s := by
  unfold pyReprObj
  refine wpAny_bind (m := cRoomFor _ _) (wpAny_cRoomFor hu ?_)
  refine wpAny_bind (wpAny_specialOf (name := Str.ofString "__repr__") hT slotRepr.lookup ?_)
  refine wpAny_bind (m := callSpecialIfBound? v (Str.ofString "__repr__")) (wpAny_callSpecialIfBound?_slotG (name := Str.ofString "__repr__") hT slotRepr (wpAny_mono hc (fun r s₁ h₁ => ?_) fun _ _ e => e))
  obtain ⟨x, t, rfl, hq⟩ := h₁
  refine wpAny_bind (wpAny_isInstance (T := "str") (b := true) rfl isSubtype_str_str ?_)
  exact wpAny_pure hq
/-- what {x!r} comes to, x whatever it is -/
def WRr (X : Cx) (x : V) (H : Hp) (Q : VK) : Prop := ∀ pins s σ u, Inv X pins σ H s → RelV x u → wpAny (model X.prog X.w) X.A (pyReprObj u) (fun r s' => ∃ y t H2, r = Value.str y t ∧ y.length ≤ sizeLine ∧ Inv X pins σ H2 s' ∧ Q (.str y) H2) X.xe s
def tFmtL (X : Cx) (te : TE) : TE := fun σ H Q => te σ H fun x H1 => WRr X x H1 Q
theorem pe_fmtL {X : Cx} {e : Expr} {te : TE} {pos : Pos} (he : PE X e te) : PE X (.FormattedValue e 114 none pos) (tFmtL X te) := by
  refine ⟨fun pins s σ H Q I h => ?_⟩
  refine wpAny_FormattedValue_repr (thn (he.run pins s σ H _ I h) fun v s1 hv => ?_)
  obtain ⟨x, H1, I1, r1, q⟩ := hv
  refine thn (q pins s1 σ v I1 r1) fun r s2 hr => ?_
  obtain ⟨y, t, H2, rfl, hz, I2, q2⟩ := hr
  exact wpAny_formatField_str ⟨.str y, H2, I2, ⟨t, rfl⟩, q2⟩ ⟨.str y, H2, I2.tok _, ⟨_, rfl⟩, q2⟩ hz
section
variable {X : Cx} {B : Hp} {S : En} {pos : Pos} {Q : D → Prop} {e : Expr} {k : Nat}
/-- {x!r}, x a list with own objects -/
theorem ed_fmtL (hr : Room (k + 2) X.A) (hG : X.A.guards = some (gOf X)) (h : ED X B S e fun d => ∃ l ts, d = .lst l ∧ l.length ≤ 1000 ∧ Rps l ∧ ts.length = l.length ∧ (∀ (i : Nat) d, l[i]? = some d → ∃ t, ts[i]? = some t ∧ Wr X k d t) ∧ (listText ts).length ≤ sizeLine ∧ Q (.str (listText ts))) : ED X B S (.FormattedValue e 114 none pos) Q := fun σ W H r R c => by
  refine PE.w (pe_fmtL we_pe) ?_
  refine h σ W H r _ fun d v W1 H1 s1 ok1 n1 q1 => ?_
  obtain ⟨l, ts, rfl, hl, rp, hlen, hT, hb, q⟩ := q1
  have c1 := c.step s1 ok1
  intro pins s σ' u I ru
  cases n1 with
  | @lst _ a xs ha hm =>
    cases ru
    obtain ⟨_, its, n0, rv, le, get⟩ := I.lstM (ok1.ex _ _ ha)
    have ty : s.TypeIs (.ref a) "list" := ⟨_, get, rfl⟩
    refine pyReprObj_slot hr.units0 ty F.slot_list_repr.toG (wpAny_call (codeAny_call_builtin F.slot_list_repr.plain F.entry_list_repr (F.slot_list_repr.check _ _ _ _ _ _ _ _ ty (F.args_list_repr_1 _) ?_)))
    exact wr_lstBody (base := 0) (R := callEnd (fun r s₁ => ∃ x t, r = .str x t ∧ ∃ y t' H2, r = Value.str y t' ∧ y.length ≤ sizeLine ∧ Inv X pins σ' H2 s₁ ∧ R (.str y) H2) X.xe) hl ⟨hr.mono (by omega), I.env0.frames⟩ hG ok1 I ha hm rp hlen hT (by omega) fun W' H' s' u st ok' I' => ⟨_, _, rfl, _, _, H', rfl, hb, I', c1 (.str _) _ W' H' st ok' (.str _) q⟩
/-- {x!r}, x a text -/
theorem ed_fmtRs (h : ED X B S e fun d => ∃ y, d = .str y ∧ (reprText y).length ≤ sizeLine ∧ Q (.str (reprText y))) : ED X B S (.FormattedValue e 114 none pos) Q := fun σ W H r R c => by
  refine PE.w (pe_fmtR we_pe) ?_
  refine h σ W H r _ fun d v W1 H1 s1 ok1 n1 q1 => ?_
  obtain ⟨y, rfl, l, q⟩ := q1
  have c1 := c.step s1 ok1
  cases n1
  exact .inl ⟨y, rfl, l, c1.now ok1 (.str _) q⟩
end
end DL

set_option Elab.async false
set_option linter.all false
set_option maxRecDepth 100000
set_option maxHeartbeats 8000000
/-! k15: texts -/
namespace DL
open PySem PySem.Spec PyProof.Rows L2
theorem textFrom_up {n : Nat} : ∀ (ts : List Str) (k : Nat) (acc : Str), (∀ t ∈ ts, t.length ≤ n) → (textFrom k acc ts).length ≤ acc.length + (n + 2) * ts.length
  | [], k, acc, _ => Nat.le_add_right _ _
  | t :: r, k, acc, h => by
    have ih := textFrom_up r (k + 1) (acc ++ (if k > 0 then ", " else "" : String) ++ t) fun x hx => h x (by simp [hx])
    have e : (acc ++ (if k > 0 then ", " else "" : String) ++ t).length = acc.length + (if k > 0 then 2 else 0) + t.length := by
      rw [Str.length_append, Str.length_append]
      split <;> rfl
    rw [e] at ih
    have ht := h t (by simp)
    have : (if k > 0 then 2 else 0) ≤ 2 := by split <;> omega
    rw [List.length_cons, Nat.mul_succ]
    exact Nat.le_trans ih (by omega)
theorem listText_up {n : Nat} {ts : List Str} (h : ∀ t ∈ ts, t.length ≤ n) : (listText ts).length ≤ (n + 2) * ts.length + 4 := by
  unfold listText
  rw [Str.length_append]
  have := textFrom_up ts 0 "[" h
  have e1 : (("[" : String) : Str).length = 1 := rfl
  have e2 : (("]" : String) : Str).length = 1 := rfl
  omega
theorem join_up {n : Nat} : ∀ {ts : List Str}, (∀ t ∈ ts, t.length ≤ n) → (Str.join ", " ts).length ≤ (n + 2) * ts.length
  | [], _ => Nat.zero_le _
  | [x], h => by
    show x.length ≤ _
    have := h x (by simp)
    simp only [List.length_singleton]
    omega
  | x :: y :: r, h => by
    have ih := join_up (ts := y :: r) fun t ht => h t (by simp at ht ⊢; exact .inr ht)
    show (x ++ ", " ++ Str.join ", " (y :: r)).length ≤ _
    have e2 : ((", " : String) : Str).length = 2 := rfl
    rw [Str.length_append, Str.length_append, e2, List.length_cons, Nat.mul_succ]
    have := h x (by simp)
    omega
theorem tupleText_up {n : Nat} {ts : List Str} (h : ∀ t ∈ ts, t.length ≤ n) : (tupleText ts).length ≤ (n + 2) * ts.length + 4 := by
  unfold tupleText
  rw [Str.length_append, Str.length_append]
  have := join_up h
  have e1 : (("(" : String) : Str).length = 1 := rfl
  have e2 : ((if ts.length == 1 then ",)" else ")" : String) : Str).length ≤ 2 := by split <;> decide +kernel
  omega
end DL
namespace K15
open PySem L2 DL
theorem tl {i : Int} (h : i.natAbs < 2 ^ 1900) : i.natAbs.log2 < 1920 := by
  by_cases z : i.natAbs = 0
  · rw [z]; decide
  · exact Nat.lt_of_lt_of_le ((Nat.log2_lt z).mpr h) (by decide)
theorem tlen {i : Int} (h : i.natAbs < 2 ^ 1900) : (PySem.Str.ofString (toString i)).length ≤ 1921 := PyProof.Rows.int_text_len_1921 (tl h)
section
variable {P : Program} {w : World} {K : PySem.W.Frag} {mg : Str → Option Value} {base : Heap} {C CB : Addr}
def reprF (p : Fr) : Str := "Ratio(" ++ Str.ofString (toString p.1) ++ ", " ++ Str.ofString (toString p.2) ++ ")"
theorem fit {x : Str} {n : Nat} (h : x.length ≤ n) (k : n ≤ 100000) : x.length ≤ sizeLine := Nat.le_trans h (Nat.le_trans k (by decide))
theorem app_len {x y : Str} {m n : Nat} (h : x.length ≤ m) (k : y.length ≤ n) : (x ++ y).length ≤ m + n := by
  rw [Str.length_append]
  omega
theorem emp_app (x : Str) : Str.empty ++ x = x := by
  show Str.mk _ = x
  cases x
  simp [Str.empty]
theorem sc_repr : FnScope ["self"] ["self"] (defScope (rat 19)) := ⟨rfl, rfl, rfl, by decide +kernel, rfl, by decide +kernel, by decide +kernel⟩
theorem ok_repr {f : Addr} {fd : FuncData} (F : FunS K "__repr__" "Ratio.__repr__" (rat 19) f fd) (T : Txt K mg C) : GnOk P w K mg base 1 f fd ["self"] (lift K (sp1b C 1900 fun p => .str (reprF p))) := by
  refine gn_dl F sc_repr (fun as Q h => by obtain ⟨_, rfl, _⟩ := h; rfl) (fun cdv A outer s H hr hG W as Q h => ?_)
  obtain ⟨p, rfl, hp, k⟩ := h
  have k : Q (.str (reprF p)) := k
  unfold reprF at k
  have l1 := tlen hp.t
  have l2 := tlen hp.b
  have l3 : (("Ratio(" : Str)).length ≤ 6 := by decide +kernel
  have l4 : ((", " : Str)).length ≤ 2 := by decide +kernel
  have l5 : ((")" : Str)).length ≤ 1 := by decide +kernel
  refine sds_cons (sd_ret (ed_join (ed_str ⟨_, rfl, ?_, ed_fmt (fT T (nm 0 ⟨rfl, .inr ⟨_, rfl, tl hp.t, _, rfl, ?_, ed_str ⟨_, rfl, ?_, ed_fmt (fB T (nm 0 ⟨rfl, .inr ⟨_, rfl, tl hp.b, _, rfl, ?_, ed_str ⟨_, rfl, ?_, ?_⟩⟩⟩))⟩⟩⟩))⟩)))
  · rw [emp_app]; exact fit l3 (by decide)
  · rw [emp_app]; exact fit (app_len l3 l1) (by decide)
  · rw [emp_app]; exact fit (app_len (app_len l3 l1) l4) (by decide)
  · rw [emp_app]; exact fit (app_len (app_len (app_len l3 l1) l4) l2) (by decide)
  · rw [emp_app]; exact fit (app_len (app_len (app_len (app_len l3 l1) l4) l2) l5) (by decide)
  · show Q _
    rw [emp_app]
    exact k
/-! entries -/
def keyT (k : List Int) : Str := tupleText (k.map fun i => (toString i : Str))
def entT (e : Ent) : Str := tupleText [keyT e.1, reprF (fr e.2)]
def txs (es : List Ent) : Str := listText (es.map entT)
theorem rp_ints : ∀ k : List Int, Rps (k.map D.int)
  | [] => .nil
  | i :: k => .cons (.int i) (rp_ints k)
theorem rp_ents : ∀ es : List Ent, Rps (enD C es)
  | [] => .nil
  | e :: es => .cons (.tup (.cons (.tup (rp_ints e.1)) (.cons (.obj (.cons (.int _) (.cons (.int _) .nil))) .nil))) (rp_ents es)
theorem reprF_len {p : Fr} (h : Bd 1900 p) : (reprF p).length ≤ 4000 := by
  unfold reprF
  have l3 : (("Ratio(" : Str)).length ≤ 6 := by decide +kernel
  have l4 : ((", " : Str)).length ≤ 2 := by decide +kernel
  have l5 : ((")" : Str)).length ≤ 1 := by decide +kernel
  exact Nat.le_trans (app_len (app_len (app_len (app_len l3 (tlen h.t)) l4) (tlen h.b)) l5) (by decide)
theorem small_i {m n b : Nat} {es : List Ent} (ge : GE m n b es) (hn : n ≤ 8) {e : Ent} (he : e ∈ es) {i : Int} (hi : i ∈ e.1) : i.natAbs < 2 ^ 1900 := by
  have := ge.cnt he hi
  exact Nat.lt_of_lt_of_le (show i.natAbs < 2 ^ 4 by show _ < 16; omega) (Nat.pow_le_pow_right (by decide) (by decide))
theorem entT_len {m n b : Nat} {es : List Ent} (ge : GE m n b es) (hn : n ≤ 8) (m8 : m ≤ 8) (hb : b ≤ 1900) {e : Ent} (he : e ∈ es) : (entT e).length ≤ 31000 := by
  have l1 : (keyT e.1).length ≤ 15388 := by
    have := tupleText_up (n := 1921) (ts := e.1.map fun i => (toString i : Str)) fun t ht => by
      obtain ⟨i, hi, rfl⟩ := List.mem_map.mp ht
      exact tlen (small_i ge hn he hi)
    rw [List.length_map, ge.len e he] at this
    have : (1921 + 2) * m ≤ (1921 + 2) * 8 := Nat.mul_le_mul_left _ m8
    unfold keyT
    omega
  have l2 := reprF_len ((ge.bq e he).le hb)
  have := tupleText_up (n := 15388) (ts := [keyT e.1, reprF (fr e.2)]) fun t ht => by
    rcases List.mem_cons.mp ht with z | z
    · rw [z]; exact l1
    · rw [List.mem_singleton.mp z]; omega
  exact Nat.le_trans this (show (15388 + 2) * 2 + 4 ≤ 31000 by decide)
theorem letT_len {z : List Nat} (hz : LetZ z) : (reprText (SX.S z)).length ≤ 1000 := by
  have lv : (PyData.str (SX.S z)).leavesShort 13 = true := by
    have a := hz.asc
    show ((SX.S z).cps.toList.all fun c => decide (c < 16 ^ 8)) = true
    rw [Array.all_eq_true_iff_forall_mem] at a
    rw [List.all_eq_true]
    intro c hc
    have := a c (Array.mem_toList_iff.mp hc)
    have h2 : c < 128 := by simpa using this
    exact decide_eq_true (Nat.lt_of_lt_of_le h2 (by decide))
  have h := PyData.shown_le 13 (by decide) _ lv
  have e : (PyData.str (SX.S z)).weight = z.length := by
    show (SX.S z).cps.size = _
    have := SX.S_len z
    exact this
  have l8 := hz.l8
  rw [e] at h
  have h2 : (PyData.str (SX.S z)).shown = reprText (SX.S z) := by simp only [PyData.shown]
  rw [h2] at h
  have : (13 + 2) * z.length ≤ 15 * 8 := Nat.mul_le_mul_left _ l8
  omega
def blT (z : List Nat) (es : List Ent) : Str := "Blend(" ++ reprText (SX.S z) ++ ", " ++ txs es ++ ")"
abbrev spBRepr (C CB : Addr) : SpD := fun as Q => ∃ z, ∃ m n b : Nat, ∃ es, as = [.val (Bo C CB z n es)] ∧ LetZ z ∧ z.length = m ∧ n ≤ 8 ∧ b ≤ 1900 ∧ GE m n b es ∧ es.length ≤ 60 ∧ Q (.str (blT z es))
theorem txs_len {m n b : Nat} {es : List Ent} (ln : es.length ≤ 60) (ge : GE m n b es) (hn : n ≤ 8) (m8 : m ≤ 8) (hb : b ≤ 1900) : (txs es).length ≤ 1900000 := by
  have := listText_up (n := 31000) (ts := es.map entT) fun t ht => by
    obtain ⟨e, he, rfl⟩ := List.mem_map.mp ht
    exact entT_len ge hn m8 hb he
  rw [List.length_map] at this
  have : (31000 + 2) * es.length ≤ (31000 + 2) * 60 := Nat.mul_le_mul_left _ ln
  unfold txs
  omega
theorem fitB {x : Str} {n : Nat} (h : x.length ≤ n) (k : n ≤ 2000000) : x.length ≤ sizeLine := Nat.le_trans h (Nat.le_trans k (by decide))
theorem ents_wr {X : Cx} {m n b : Nat} {es : List Ent} (R : Sm X.prog X.w X.K X.mg X.base C "__repr__" 1 (sp1b C 1900 fun p => .str (reprF p))) (ge : GE m n b es) (hn : n ≤ 8) (hb : b ≤ 1900) (i : Nat) (d : D) (hd : (enD C es)[i]? = some d) : ∃ t, (es.map entT)[i]? = some t ∧ Wr X 2 d t := by
  obtain ⟨e, he, rfl⟩ := enD_get hd
  have me := List.mem_of_getElem? he
  refine ⟨entT e, by rw [List.getElem?_map, he]; rfl, ?_⟩
  refine wr_tup (k := 1) (ts := [keyT e.1, reprF (fr e.2)]) (fun ks z => ?_) (.cons (.tup (rp_ints e.1)) (.cons (.obj (.cons (.int _) (.cons (.int _) .nil))) .nil)) rfl fun j d hj => ?_
  · cases ks with
    | nil => cases z
    | cons a ks =>
      rw [List.map_cons] at z
      have := (List.cons.inj z).1
      cases a <;> cases this
  · match j, hj with
    | 0, hj => cases hj; exact ⟨_, rfl, wr_tupI fun i hi => tl (small_i ge hn me hi)⟩
    | 1, hj => cases hj; exact ⟨_, rfl, wr_obj R fun Q q => ⟨fr e.2, rfl, (ge.bq e me).le hb, q⟩⟩
    | j + 2, hj => cases hj
theorem sc_brepr : FnScope ["self"] ["self"] (defScope (ble 11)) := ⟨rfl, rfl, rfl, by decide +kernel, rfl, by decide +kernel, by decide +kernel⟩
theorem ok_brepr {f : Addr} {fd : FuncData} (F : FunS K "__repr__" "Blend.__repr__" (ble 11) f fd) (V : Bt P w K mg base C CB) (R : Sm P w K mg base C "__repr__" 1 (sp1b C 1900 fun p => .str (reprF p))) : GnOk P w K mg base 5 f fd ["self"] (lift K (spBRepr C CB)) := by
  refine gn_dl F sc_brepr (fun as Q h => by obtain ⟨_, _, _, _, _, rfl, _⟩ := h; rfl) (fun cdv A outer s H hr hG W as Q h => ?_)
  obtain ⟨z, m, n, b, es, rfl, hz, hm, hn, hb, ge, ln, k⟩ := h
  have T := V.T
  have m8 : m ≤ 8 := by rw [← hm]; exact hz.l8
  have k : Q (.str (blT z es)) := k
  unfold blT at k
  have l1 := letT_len hz
  have l2 := txs_len ln ge hn m8 hb
  have l3 : (("Blend(" : Str)).length ≤ 6 := by decide +kernel
  have l4 : ((", " : Str)).length ≤ 2 := by decide +kernel
  have l5 : ((")" : Str)).length ≤ 1 := by decide +kernel
  refine sds_cons (sd_ret (ed_join (ed_str ⟨_, rfl, ?_, ed_fmtRs (fL T (nm 0 ⟨rfl, _, rfl, fitB l1 (by decide), _, rfl, ?_, ed_str ⟨_, rfl, ?_, ed_fmtL (k := 2) hr hG (mE V ge (hr.mono (j := 1) (by decide)) hG (nm 0 ⟨rfl, enD C es, es.map entT, rfl, by rw [enD_len]; omega, rp_ents es, by rw [List.length_map, enD_len], ents_wr R ge hn hb, fitB l2 (by decide), _, rfl, ?_, ed_str ⟨_, rfl, ?_, ?_⟩⟩))⟩⟩))⟩)))
  · rw [emp_app]; exact fitB l3 (by decide)
  · rw [emp_app]; exact fitB (app_len l3 l1) (by decide)
  · rw [emp_app]; exact fitB (app_len (app_len l3 l1) l4) (by decide)
  · rw [emp_app]; exact fitB (app_len (app_len (app_len l3 l1) l4) l2) (by decide)
  · rw [emp_app]; exact fitB (app_len (app_len (app_len (app_len l3 l1) l4) l2) l5) (by decide)
  · show Q _
    rw [emp_app]
    exact k
end
end K15

set_option Elab.async false
set_option linter.all false
set_option maxRecDepth 100000
set_option maxHeartbeats 8000000
/-! k15: a letter taken out -/
namespace K15
open PySem L2 DL
theorem foldl_take1 {α β : Type} (f : β → α → β) (b : β) {l : List α} {i : Nat} {a : α} (h : l[i]? = some a) : (l.take (i + 1)).foldl f b = f ((l.take i).foldl f b) a := by
  rw [List.take_add_one, h, List.foldl_append]
  rfl
def tkn (k os : List Int) : Int := (k.zip os).foldl (fun t p => t * (if p.2 = 0 then 1 else p.1)) 1
theorem tkn_bd {k os : List Int} (h : ∀ (i : Nat) (c o : Int), k[i]? = some c → os[i]? = some o → c ≤ 8 ∧ 0 ≤ o ∧ o ≤ 1 ∧ o ≤ c) : ∀ i, (((k.zip os).take i).foldl (fun (t : Int) p => t * (if p.2 = 0 then 1 else p.1)) 1).natAbs < 2 ^ (4 * i + 1)
  | 0 => by rw [List.take_zero]; decide
  | i + 1 => by
    cases e : (k.zip os)[i]? with
    | none =>
      have l := List.getElem?_eq_none_iff.mp e
      have z : (k.zip os).take (i + 1) = (k.zip os).take i := by rw [List.take_of_length_le (by omega : (k.zip os).length ≤ i + 1), List.take_of_length_le l]
      rw [z]
      exact Nat.lt_of_lt_of_le (tkn_bd h i) (Nat.pow_le_pow_right (by decide) (by omega))
    | some p =>
      rw [foldl_take1 _ _ e, show 4 * (i + 1) + 1 = (4 * i + 1) + 4 by omega]
      refine mul_bd (tkn_bd h i) ?_
      have := List.getElem?_zip_eq_some.mp e
      obtain ⟨a, b, c, d⟩ := h i p.1 p.2 this.1 this.2
      split
      · decide
      · show _ < 16
        omega
def dec (a : Nat) (k : List Int) : List Int := k.set a (k.getD a 0 - 1)
def unit (m a : Nat) : List Int := (List.range m).map fun i => if i = a then 1 else 0
def has (a : Nat) (e : Ent) : Bool := decide (0 < e.1.getD a 0)
def takeE (a : Nat) (es : List Ent) : List Ent := (es.filter (has a)).map fun e => (dec a e.1, e.2 * ((e.1.getD a 0 : Int) : Rat))
theorem unit_get {m a i : Nat} (h : i < m) : (unit m a)[i]? = some (if i = a then 1 else 0) := by
  unfold unit
  rw [List.getElem?_map, List.getElem?_range h]
  rfl
theorem unit_len {m a : Nat} : (unit m a).length = m := by unfold unit; rw [List.length_map, List.length_range]
theorem sub_unit {k : List Int} {a : Nat} (h : a < k.length) : List.zipWith (· - ·) k (unit k.length a) = dec a k := by
  refine List.ext_getElem? fun i => ?_
  rw [List.getElem?_zipWith]
  unfold dec
  by_cases c : i < k.length
  · rw [unit_get c, getD_get c, List.getElem?_set]
    by_cases e : a = i
    · subst e
      rw [if_pos rfl, if_pos rfl, if_pos h] <;> try rfl
    · rw [if_neg e, getD_get c]
      show some (_ - (if i = a then (1 : Int) else 0)) = _
      rw [if_neg (fun z => e z.symm), Int.sub_zero]
  · rw [List.getElem?_eq_none (by omega), List.getElem?_eq_none (l := unit k.length a) (by rw [unit_len]; omega), List.getElem?_eq_none (l := k.set a _) (by rw [List.length_set]; omega)]
theorem dec_mem {k : List Int} {a : Nat} (h : a < k.length) : k.getD a 0 - 1 ∈ dec a k := by
  refine List.mem_of_getElem? (i := a) ?_
  unfold dec
  rw [List.getElem?_set, if_pos rfl, if_pos h]
theorem dec_nn {k : List Int} {a : Nat} (nn : ∀ c ∈ k, 0 ≤ c) (h : 0 < k.getD a 0) : ∀ c ∈ dec a k, 0 ≤ c := fun c hc => by
  rcases List.mem_or_eq_of_mem_set hc with z | z
  · exact nn c z
  · omega
theorem dec_len {k : List Int} {a : Nat} : (dec a k).length = k.length := List.length_set
theorem dec_inj {k l : List Int} {a : Nat} (hl : k.length = l.length) (h : dec a k = dec a l) : k = l := by
  refine List.ext_getElem? fun i => ?_
  have e : (dec a k)[i]? = (dec a l)[i]? := by rw [h]
  unfold dec at e
  rw [List.getElem?_set, List.getElem?_set] at e
  by_cases c : a = i
  · subst c
    rw [if_pos rfl, if_pos rfl] at e
    by_cases la : a < k.length
    · rw [if_pos la, if_pos (by omega)] at e
      have := Option.some.inj e
      rw [getD_get la, getD_get (by omega : a < l.length)]
      congr 1
      omega
    · rw [List.getElem?_eq_none (by omega), List.getElem?_eq_none (by omega)]
  · rw [if_neg c, if_neg c] at e
    exact e
theorem fold0 : ∀ {l : List (Int × Int)} {t : Int}, (∀ p ∈ l, p.2 = 0) → l.foldl (fun (t : Int) p => t * (if p.2 = 0 then 1 else p.1)) t = t
  | [], t, _ => rfl
  | p :: l, t, h => by
    rw [List.foldl_cons, if_pos (h p (List.mem_cons_self ..)), Int.mul_one]
    exact fold0 fun p hp => h p (List.mem_cons_of_mem _ hp)
theorem fold1 : ∀ {l : List (Int × Int)} {a : Nat} {c t : Int}, l[a]? = some (c, 1) → (∀ i p, i ≠ a → l[i]? = some p → p.2 = 0) → l.foldl (fun (t : Int) p => t * (if p.2 = 0 then 1 else p.1)) t = t * c
  | [], a, c, t, h, _ => by simp at h
  | p :: l, 0, c, t, h, h0 => by
    cases h
    rw [List.foldl_cons, if_neg (show ¬ (1 : Int) = 0 by decide)]
    exact fold0 fun p hp => by
      obtain ⟨i, hi, rfl⟩ := List.getElem_of_mem hp
      exact h0 (i + 1) _ (by omega) (List.getElem?_eq_getElem (l := l) hi)
  | p :: l, a + 1, c, t, h, h0 => by
    rw [List.foldl_cons, if_pos (h0 0 p (by omega) rfl), Int.mul_one]
    exact fold1 (a := a) h fun i q hi hq => h0 (i + 1) q (by omega) hq
theorem tkn_unit {k : List Int} {a : Nat} (h : a < k.length) : tkn k (unit k.length a) = k.getD a 0 := by
  unfold tkn
  rw [fold1 (a := a) (c := k.getD a 0), Int.one_mul]
  · refine List.getElem?_zip_eq_some.mpr ⟨getD_get h, ?_⟩
    rw [unit_get h, if_pos rfl]
  · intro i p hi hp
    have := (List.getElem?_zip_eq_some.mp hp)
    have li : i < k.length := (List.getElem?_eq_some_iff.mp this.1).1
    have e := this.2
    rw [unit_get li, if_neg hi] at e
    exact (Option.some.inj e).symm
theorem ge_dec {m n b c a : Nat} {es : List Ent} (ge : GE m n b es) (ha : a < m) (g : Ent → Rat) (hp : ∀ e ∈ es, has a e = true → 0 < g e) (hb : ∀ e ∈ es, has a e = true → Bq c (g e)) : GE m (n - 1) c ((es.filter (has a)).map fun e => (dec a e.1, g e)) := by
  have mm : ∀ {x}, x ∈ (es.filter (has a)).map (fun e => (dec a e.1, g e)) → ∃ e, e ∈ es ∧ has a e = true ∧ x = (dec a e.1, g e) := fun hx => by
    obtain ⟨e, he, rfl⟩ := List.mem_map.mp hx
    exact ⟨e, (List.mem_filter.mp he).1, (List.mem_filter.mp he).2, rfl⟩
  refine ⟨fun x hx => ?_, fun x hx => ?_, fun x hx => ?_, fun x hx => ?_, fun x hx => ?_, ?_, ?_⟩
  · obtain ⟨e, he, h, rfl⟩ := mm hx
    show (dec a e.1).length = m
    rw [dec_len, ge.len e he]
  · obtain ⟨e, he, h, rfl⟩ := mm hx
    exact dec_nn (ge.nn e he) (of_decide_eq_true h)
  · obtain ⟨e, he, h, rfl⟩ := mm hx
    have h := of_decide_eq_true h
    have la : a < e.1.length := by rw [ge.len e he]; exact ha
    have c1 := (ge.cnt he (List.mem_of_getElem? (getD_get la))).2
    show (e.1.set a (e.1.getD a 0 - 1)).sum = _
    rw [sum_set la, ge.sum e he]
    omega
  · obtain ⟨e, he, h, rfl⟩ := mm hx
    exact hp e he h
  · obtain ⟨e, he, h, rfl⟩ := mm hx
    exact hb e he h
  · have nd : es.Pairwise fun x y => x.1 ≠ y.1 := List.pairwise_map.mp ge.nd
    rw [List.map_map]
    show List.Pairwise (· ≠ ·) _
    rw [List.pairwise_map]
    refine (nd.filter _).imp_of_mem fun {x y} hx hy h z => h ?_
    exact dec_inj (by rw [ge.len x (List.mem_filter.mp hx).1, ge.len y (List.mem_filter.mp hy).1]) z
  · rw [List.length_map]
    exact Nat.le_trans (List.length_filter_le _ _) ge.ln
theorem at_pos {a : Nat} {e : Ent} (h : has a e = true) : (0 : Rat) < ((e.1.getD a 0 : Int) : Rat) := Rat.intCast_lt_intCast.mpr (of_decide_eq_true h)
theorem GE.at {m n b a : Nat} {es : List Ent} (ge : GE m n b es) (hn : n ≤ 8) (ha : a < m) {e : Ent} (he : e ∈ es) : 0 ≤ e.1.getD a 0 ∧ e.1.getD a 0 ≤ 8 := by
  have la : a < e.1.length := by rw [ge.len e he]; exact ha
  have := ge.cnt he (List.mem_of_getElem? (getD_get la))
  omega
theorem at_bq {m n b a : Nat} {es : List Ent} (ge : GE m n b es) (hn : n ≤ 8) (ha : a < m) {e : Ent} (he : e ∈ es) : Bq 4 ((e.1.getD a 0 : Int) : Rat) := Bq.int (by have := ge.at hn ha he; show _ < 16; omega) (by decide)
theorem GE.take {m n b a : Nat} {es : List Ent} (ge : GE m n b es) (hn : n ≤ 8) (ha : a < m) : GE m (n - 1) (b + 4) (takeE a es) :=
  ge_dec ge ha (fun e => e.2 * ((e.1.getD a 0 : Int) : Rat)) (fun e he h => Rat.mul_pos (ge.pos e he) (at_pos h)) fun e he _ => (ge.bq e he).mul (at_bq ge hn ha he)
theorem count_sg : ∀ c ∈ List.range' 97 26, ∀ d ∈ List.range' 97 26, Txt.count (sg c) (sg d) = if d = c then 1 else 0 := by decide +kernel
abbrev NTk : List Str := ["blend", "way", "outs", "entries", "counts", "amount", "left", "letter", "count", "out"]
theorem take_snoc {a i : Nat} {es : List Ent} {e : Ent} (h : es[i]? = some e) : takeE a (es.take (i + 1)) = if has a e = true then takeE a (es.take i) ++ [(dec a e.1, e.2 * ((e.1.getD a 0 : Int) : Rat))] else takeE a (es.take i) := by
  rw [List.take_add_one, h]
  unfold takeE
  rw [List.filter_append, List.map_append]
  by_cases c : has a e = true
  · rw [if_pos c]
    congr 1
    show List.map _ (List.filter (has a) [e]) = _
    rw [List.filter_cons_of_pos c]
    rfl
  · rw [if_neg c]
    show _ ++ List.map _ (List.filter (has a) [e]) = _
    rw [List.filter_cons_of_neg c]
    exact List.append_nil _
theorem outs_unit {z : List Nat} {a c : Nat} (hz : LetZ z) (ha : z[a]? = some c) : (z.map fun d => if d = c then (1 : Int) else 0) = unit z.length a := by
  refine List.ext_getElem? fun i => ?_
  rw [List.getElem?_map]
  by_cases l : i < z.length
  · rw [unit_get l, List.getElem?_eq_getElem l]
    obtain ⟨la, e⟩ := List.getElem?_eq_some_iff.mp ha
    have : (z[i] = c) ↔ i = a := by
      constructor
      · intro h
        rcases Nat.lt_trichotomy i a with x | x | x
        · have := List.pairwise_iff_getElem.mp hz.up i a l la x; omega
        · exact x
        · have := List.pairwise_iff_getElem.mp hz.up a i la l x; omega
      · intro h
        subst h
        exact e
    show some (if z[i] = c then (1 : Int) else 0) = _
    by_cases q : i = a
    · rw [if_pos (this.mpr q), if_pos q]
    · rw [if_neg (fun y => q (this.mp y)), if_neg q]
  · rw [List.getElem?_eq_none (by omega), List.getElem?_eq_none (by rw [unit_len]; omega)]
    rfl
theorem zip_outS {a b : List Int} {out : List D} (hl : a.length = b.length) (lo : out.length = a.length) (h : ∀ (n : Nat) (x y : Int) z, a[n]? = some x → b[n]? = some y → out[n]? = some z → z = .int (x - y)) : out = (List.zipWith (· - ·) a b).map D.int := by
  refine List.ext_getElem? fun i => ?_
  rw [List.getElem?_map, List.getElem?_zipWith]
  by_cases c : i < a.length
  · have a1 : a[i]? = some a[i] := List.getElem?_eq_getElem c
    have a2 : b[i]? = some (b[i]'(hl ▸ c)) := List.getElem?_eq_getElem (hl ▸ c)
    have a3 : out[i]? = some (out[i]'(lo ▸ c)) := List.getElem?_eq_getElem (lo ▸ c)
    rw [a1, a2, a3, h i _ _ _ a1 a2 a3]
    rfl
  · rw [List.getElem?_eq_none (by omega), List.getElem?_eq_none (l := a) (by omega)]
    rfl
section
variable {P : Program} {w : World} {K : PySem.W.Frag} {mg : Str → Option Value} {base : Heap} {C CB : Addr}
abbrev spTT : SpD := fun as Q => ∃ k os : List Int, as = [.val (tI k), .val (.lst (os.map D.int))] ∧ k.length = os.length ∧ k.length ≤ 8 ∧ (∀ (i : Nat) (c o : Int), k[i]? = some c → os[i]? = some o → c ≤ 8 ∧ 0 ≤ o ∧ o ≤ 1 ∧ o ≤ c) ∧ Q (.int (tkn k os))
theorem sc_tt : FnScope ["counts", "outs", "times", "count", "out"] ["counts", "outs"] (defScope (top 55)) := ⟨rfl, rfl, rfl, by decide +kernel, rfl, by decide +kernel, by decide +kernel⟩
theorem ok_tt {f : Addr} {fd : FuncData} (F : FunS K "_times_taken" "_times_taken" (top 55) f fd) (T : Tb K mg C CB) (pm : mg "perm" = some (.builtin "math.perm")) : GnOk P w K mg base 1 f fd ["counts", "outs"] (lift K spTT) := by
  refine gn_dl F sc_tt (fun as Q h => by obtain ⟨_, _, rfl, _⟩ := h; rfl) (fun cdv A outer s H hr hG W as Q h => ?_)
  obtain ⟨k, os, rfl, ll, hl, hk, q⟩ := h
  have nd := sc_tt.nd
  refine sds_cons (sd_set 2 nd rfl (ed_int ?_))
  refine sds_cons (sd_forZ (l := k.map D.int) (l' := os.map D.int) PassesOwn.never rfl T.T.zip (by rw [List.length_map, List.length_map, ll]) (fun i S' => ∃ o3 o4, S' = [some (.val (tI k)), some (.val (.lst (os.map D.int))), some (.val (.int (((k.zip os).take i).foldl (fun (t : Int) p => t * (if p.2 = 0 then 1 else p.1)) 1))), o3, o4]) (ad_cons (nm 0 (ad_cons (nm 1 (ad_nil ⟨_, _, rfl, .inr rfl, .inl rfl, none, none, rfl⟩))))) ?_ ?_)
  · rintro i d d' S' hi hi' ⟨o3, o4, rfl⟩
    rw [List.getElem?_map] at hi hi'
    cases e : k[i]? with
    | none => rw [e] at hi; cases hi
    | some c =>
      cases e' : os[i]? with
      | none => rw [e'] at hi'; cases hi'
      | some o =>
        rw [e] at hi
        rw [e'] at hi'
        cases hi
        cases hi'
        obtain ⟨c8, o0, o1, oc⟩ := hk i c o e e'
        obtain ⟨n, rfl⟩ := Int.eq_ofNat_of_zero_le (show 0 ≤ c by omega)
        obtain ⟨j, rfl⟩ := Int.eq_ofNat_of_zero_le o0
        have ez : (k.zip os)[i]? = some ((n : Int), (j : Int)) := List.getElem?_zip_eq_some.mpr ⟨e, e'⟩
        refine gd_tup rfl (gds_cons (gd_name 3 nd rfl (gds_cons (gd_name 4 nd rfl (gds_nil ?_))))) rfl
        refine sds_cons (sd_set 2 nd rfl (ed_bin (nm 2 (ed_callM pm (ad_cons (nm 3 (ad_cons (nm 4 (ad_nil (cd_perm (n := n) (j := j) (by omega) (by omega) (by omega) ?_))))))))))
        have li : i < k.length := (List.getElem?_eq_some_iff.mp e).1
        refine od_mul ?_ (sds_nil ⟨some (.val (.int (n : Int))), some (.val (.int (j : Int))), ?_⟩)
        · refine cmul (m := 4 * i + 1) (n := 4) (tkn_bd hk i) ?_ (by omega) (by decide)
          split
          · decide
          · show _ < 16
            omega
        · rw [foldl_take1 _ _ ez]
          have : (if ((j : Nat) : Int) = 0 then (1 : Int) else (n : Int)) = if j = 0 then 1 else (n : Int) := by
            by_cases z : j = 0
            · rw [if_pos z, if_pos (by omega)]
            · rw [if_neg z, if_neg (by omega)]
          show _ = [_, _, some (Sl.val (.int (_ * (if ((j : Nat) : Int) = 0 then (1 : Int) else (n : Int))))), _, _]
          rw [this]
          rfl
  · rintro S' ⟨o3, o4, rfl⟩
    have : (k.zip os).take (k.map D.int).length = k.zip os := List.take_of_length_le (by rw [List.length_zip, List.length_map]; omega)
    rw [this]
    exact sds_cons (sd_ret (nm 2 q))
abbrev spWay (C CB : Addr) : SpD := fun as Q => ∃ z n es c, as = [.val (Bo C CB z n es), .val (.str (sg c))] ∧ c ∈ z ∧ Q (.bl true)
theorem sc_way : FnScope ["blend", "value", "letter"] ["blend", "value"] (defScope (top 53)) := ⟨rfl, rfl, rfl, by decide +kernel, rfl, by decide +kernel, by decide +kernel⟩
theorem ok_way {f : Addr} {fd : FuncData} (F : FunS K "is_way" "is_way" (top 53) f fd) (V : Bt P w K mg base C CB) : GnOk P w K mg base 3 f fd ["blend", "value"] (lift K (spWay C CB)) := by
  refine gn_dl F sc_way (fun as Q h => by obtain ⟨_, _, _, _, rfl, _⟩ := h; rfl) (fun cdv A outer s H hr hG W as Q h => ?_)
  obtain ⟨z, n, es, c, rfl, hc, q⟩ := h
  have nd := sc_way.nd
  have T := V.T
  obtain ⟨tk, md⟩ := T.md
  refine sds_cons (sd_expr (ed_call V.ck (hr.mono (j := 1) (by decide)) hG (ad_cons (nm 0 (ad_nil ⟨z, n, es, rfl, ?_⟩)))))
  refine sds_cons (sd_if (td_of (tw_or (td_not (td_val (ed_callB T.T.isi (ad_cons (nm 1 (ad_cons (ed_ty T.T.str (ad_nil (cd_isi (.str _) (.ty _) (same (by decide +kernel)) (kB ?_)))))))))))))
  show TW _ _ _ _ _
  refine tw_or1 (td_cmp (ed_callB T.T.len (ad_cons (nm 1 (ad_nil (cd_lenS (z := sg c) (by show 1 ≤ 50000; decide) (ed_gint md (od_gt (kB ?_)))))))))
  show SDs _ _ _ _ _ _
  refine sds_nil (sds_cons (sd_ret (ed_and (ed_cmp (ed_callTy T.T.list (ad_cons (nm 1 (ad_nil (cd_listS (x := sg c) rfl (by show 1 ≤ 50000; decide) (ed_callB T.sorted (ad_cons (nm 1 (ad_nil (cd_sortS (x := sg c) rfl (by show 1 < 64; decide) fun ys hp hs => ?_))))))))))))))
  have ey : ys = [sg c] := List.perm_singleton.mp hp
  subst ey
  refine od_eqR (n := 1) (rcR_lst (n := 0) rfl fun i d e h1 h2 => ?_) (hr.mono (j := 1) (by decide)) hG (kB ?_)
  · have h1 : ([D.str (sg c)] : List D)[i]? = some d := h1
    have h2 : ([D.str (sg c)] : List D)[i]? = some e := h2
    rcases i with _ | i
    · cases h1; cases h2; exact eqR_str
    · simp at h1
  · show ED _ _ _ _ _
    refine ed_one (ed_callB T.T.all (ad_cons (ed_fd (fd_relC (s := sg c) (fun _ y => y = .bl true) 2 (own := [("letter", 2)]) rfl nd (blkOk_by (by show blkC ["blend", "value", "letter"] (defScope (top 53)) _ _ = true; decide +kernel)) (fun _ _ _ _ _ => pg_name (i := 2) nd rfl (Or.inl rfl)) (by show 1 ≤ 50000; decide) (nm 1 rfl) (by simp) ?_ ?_))))
    · intro i d hd s2 H0 C2 cl fp
      have e : d = c := by
        have : ([c] : List Nat)[i]? = some d := by simpa using hd
        rcases i with _ | i
        · cases this; rfl
        · simp at this
      subst e
      refine ed_cmp (nm 2 (pL V (hr.mono (j := 2) (by decide)) hG (nm 0 ⟨rfl, od_inS ?_⟩)))
      rw [decide_eq_true (by simpa using hc)]
    · intro out ho
      exact ad_nil (cd_allT rfl (paired_true ho) q)
abbrev spTaken (C CB : Addr) : SpD := fun as Q => ∃ z, ∃ m n b a : Nat, ∃ es c, as = [.val (Bo C CB z n es), .val (.str (sg c))] ∧ Okb z m n b es ∧ z[a]? = some c ∧ b + 4 ≤ 800 ∧ Q (Bo C CB z (n - 1) (srt (takeE a es)))
theorem sc_taken : FnScope NTk ["blend", "way"] (defScope (top 54)) := ⟨rfl, rfl, rfl, by decide +kernel, rfl, by decide +kernel, by decide +kernel⟩
theorem ok_taken {f : Addr} {fd : FuncData} (F : FunS K "taken" "taken" (top 54) f fd) (V : Bt P w K mg base C CB) (WY : Df P w K mg base "is_way" 3 2 (spWay C CB)) (TT : Df P w K mg base "_times_taken" 1 2 spTT) : GnOk P w K mg base 9 f fd ["blend", "way"] (lift K (spTaken C CB)) := by
  refine gn_dl F sc_taken (fun as Q h => by obtain ⟨_, _, _, _, _, _, _, rfl, _⟩ := h; rfl) (fun cdv A outer s H hr hG W as Q h => ?_)
  obtain ⟨z, m, n, b, a, es, c, rfl, o, ha, hb, q⟩ := h
  have nd := sc_taken.nd
  have T := V.T
  have ge := o.ge
  have m8 := o.m8
  have n8 := o.hn
  have ln := ge.ln
  have hz := o.hz
  have la : a < m := by rw [← o.hm]; exact (List.getElem?_eq_some_iff.mp ha).1
  refine sds_cons (sd_expr (ed_call V.ck (hr.mono (j := 1) (by decide)) hG (ad_cons (nm 0 (ad_nil ⟨z, n, es, rfl, ?_⟩)))))
  refine sds_cons (sd_if (td_not (td_val (ed_call WY (hr.mono (j := 3) (by decide)) hG (ad_cons (nm 0 (ad_cons (nm 1 (ad_nil ⟨z, n, es, c, rfl, List.mem_of_getElem? ha, kB ?_⟩)))))))))
  refine sds_nil (sds_cons (sd_ownLc (i := 2) (g := gName 7) (own := [("letter", 7)]) rfl nd rfl rfl (pi_str we_pe) (blkOk_by (by show blkC NTk (defScope (top 54)) _ _ = true; decide +kernel)) (fun _ _ _ _ _ => pg_name (i := 7) nd rfl (Or.inl rfl)) (lc_C (s := SX.S z) (fun d y => y = .int (if d = c then 1 else 0)) 7 (by have := hz.l8; simp; omega) (pL V (hr.mono (j := 2) (by decide)) hG (nm 0 ⟨rfl, rfl⟩)) (by simp) ?_ ?_)))
  · intro i d hd s2 H0 C2 cl fp
    have hd' : d ∈ z := List.mem_of_getElem? (i := i) (by simpa using hd)
    have h1 := hz.lo d hd'
    have h2 := hz.lo c (List.mem_of_getElem? ha)
    refine ed_count (s := sg c) (nm 1 ⟨rfl, nm 7 ⟨sg d, rfl, ?_⟩⟩)
    rw [count_sg c (by rw [List.mem_range'_1]; omega) d (by rw [List.mem_range'_1]; omega)]
  · intro out ho
    have eo : out = (unit m a).map D.int := by
      rw [← o.hm, ← outs_unit hz ha]
      have key : ∀ {l : List Nat} {out : List D}, Paired (fun d y => y = D.int (if d = c then 1 else 0)) l out → out = (l.map fun d => if d = c then (1 : Int) else 0).map D.int := by
        intro l
        induction l with
        | nil => intro out h; cases h; rfl
        | cons x l ih => intro out h; cases h with | cons h1 h2 => rw [h1, ih h2]; rfl
      exact key (l := z) ho
    rw [eo]
    refine sds_frz 2 _ rfl ?_
    refine sds_cons (sd_own 3 nd rfl (fd_lst (ad_nil ⟨[], rfl, by simp, ?_⟩)))
    refine sds_cons (sd_forL (l := enD C es) PassesOwn.never rfl (fun i S' => ∃ o4 o5 o6, S' = [some (.val (Bo C CB z n es)), some (.val (.str (sg c))), some (.val (.lst ((unit m a).map D.int))), some (.own (enD C (takeE a (es.take i)))), o4, o5, o6, none, none, none]) (mE V ge (hr.mono (j := 1) (by decide)) hG (nm 0 ⟨rfl, rfl, none, none, none, rfl⟩)) ?_ ?_)
    · rintro i d S' hi ⟨o4, o5, o6, rfl⟩
      obtain ⟨e, he, rfl⟩ := enD_get hi
      have me := List.mem_of_getElem? he
      have le := ge.len e me
      have li : i < es.length := (List.getElem?_eq_some_iff.mp he).1
      refine gd_tup rfl (gds_cons (gd_name 4 nd rfl (gds_cons (gd_name 5 nd rfl (gds_nil ?_))))) rfl
      refine sds_cons (sd_set 6 nd rfl (ed_callTy T.T.tuple (ad_cons (ed_fd (fd_relZ (l := e.1.map D.int) (l' := (unit m a).map D.int) (fun p q y => ∀ x v, p = .int x → q = .int v → y = .int (x - v)) 8 9 (own := [("count", 8), ("out", 9)]) rfl nd T.T.zip (blkOk_by (by show blkC NTk (defScope (top 54)) _ _ = true; decide +kernel)) (fun _ _ _ _ _ => pg_tup rfl (pgs_cons (pg_name (i := 8) nd rfl (Or.inl rfl)) (pgs_cons (pg_name (i := 9) nd rfl (Or.inl rfl)) pgs_nil rfl) rfl)) (by rw [List.length_map, List.length_map, unit_len, le]) (by rw [List.length_map, le]; omega) (.inr rfl) (.inl rfl) (ad_cons (nm 4 (ad_cons (nm 2 (ad_nil rfl))))) (by simp) (by simp) ?_ ?_)))))
      · intro j p q hp hq s2 H0 C2 cl fp
        obtain ⟨x, _, rfl⟩ := List.mem_map.mp (List.mem_of_getElem? hp)
        obtain ⟨y, _, rfl⟩ := List.mem_map.mp (List.mem_of_getElem? hq)
        refine ed_bin (nm 8 (nm 9 (od_sub ?_)))
        intro x' y' h1 h2
        cases h1
        cases h2
        rfl
      · intro out lo ho
        rw [List.length_map] at lo
        have eo := zip_outS (a := e.1) (b := unit m a) (by rw [unit_len, le]) lo fun j x y v h1 h2 h3 => ho j (.int x) (.int y) v (by rw [List.getElem?_map, h1]; rfl) (by rw [List.getElem?_map, h2]; rfl) h3 x y rfl rfl
        have su := sub_unit (k := e.1) (a := a) (by omega)
        rw [le] at su
        rw [eo, su]
        refine ad_nil (cd_tuple ?_)
        refine sds_cons (sd_if (td_cmp (ed_callB T.min (ad_cons (nm 6 (ad_nil (cd_minT (l := dec a e.1) rfl (by rw [dec_len]; omega) fun mn h1 h2 => ed_int (od_ge (kB ?_)))))))))
        have small : (enD C (takeE a (es.take i))).length < 100000 := by
          rw [enD_len]
          unfold takeE
          rw [List.length_map]
          have := List.length_filter_le (has a) (es.take i)
          rw [List.length_take] at this
          omega
        by_cases pz : 0 < e.1.getD a 0
        · have h0 := dec_nn (ge.nn e me) pz mn h1
          have hh : has a e = true := decide_eq_true pz
          rw [decide_eq_true (by omega)]
          refine sds_cons (sd_append 3 _ rfl rfl small (ed_tup (ad_cons (nm 6 (ad_cons (ed_bin (nm 5 (ed_call TT (hr.mono (j := 1) (by decide)) hG (ad_cons (nm 4 (ad_cons (nm 2 (ad_nil ⟨e.1, unit m a, rfl, by rw [unit_len, le], by omega, ?_, ?_⟩)))))))))))))
          · intro j x v h3 h4
            have lj : j < m := by rw [← le]; exact (List.getElem?_eq_some_iff.mp h3).1
            rw [unit_get lj] at h4
            have hx := ge.cnt me (List.mem_of_getElem? h3)
            by_cases ja : j = a
            · subst ja
              rw [if_pos rfl] at h4
              have : e.1.getD j 0 = x := by rw [List.getD_eq_getElem?_getD, h3]; rfl
              have h4 := Option.some.inj h4
              omega
            · rw [if_neg ja] at h4
              have h4 := Option.some.inj h4
              omega
          · have tu := tkn_unit (k := e.1) (a := a) (by omega)
            rw [le] at tu
            rw [tu]
            refine od_mulR V.L (hr.mono (j := 6) (by decide)) hG ((ge.bq e me).le (by have := o.hb; omega)) (.int _ ((at_bq ge n8 la me).le (by decide))) (ad_nil ⟨[tI (dec a e.1), Ra C (fr (e.2 * ((e.1.getD a 0 : Int) : Rat)))], rfl, by simp, sds_nil (sds_nil ⟨some (.val (tI e.1)), some (.val (Ra C (fr e.2))), some (.val (tI (dec a e.1))), ?_⟩)⟩)
            rw [take_snoc he, if_pos hh, enD_app]
            rfl
        · have hm' := h2 _ (dec_mem (k := e.1) (a := a) (by omega))
          have hh : ¬ has a e = true := fun y => pz (of_decide_eq_true y)
          rw [decide_eq_false (by omega)]
          refine sds_nil (sds_nil ⟨some (.val (tI e.1)), some (.val (Ra C (fr e.2))), some (.val (tI (dec a e.1))), ?_⟩)
          rw [take_snoc he, if_neg hh]
          rfl
    · rintro S' ⟨o4, o5, o6, rfl⟩
      rw [enD_len, List.take_length]
      refine sds_frz 3 _ rfl ?_
      have gt := ge.take n8 la
      exact sds_cons (sd_ret (ed_makeA V.mkA (hr.mono (j := 8) (by decide)) hG (ad_cons (pL V (hr.mono (j := 2) (by decide)) hG (nm 0 ⟨rfl, ad_cons (nm 3 (ad_nil (.inl ⟨z, m, n - 1, b + 4, takeE a es, _, _, rfl, .inl rfl, hz, o.hm, by omega, by omega, gt, pe_en gt.bq, q⟩)))⟩)))))
end
end K15
set_option Elab.async false
set_option linter.all false
set_option maxRecDepth 100000
set_option maxHeartbeats 4000000
/-! k15: lines, their numbers -/
namespace K15
open PySem L2 DL
theorem mulN_eq (a w : Rat) : ∀ n, mulN a w n = a * mulN 1 w n
  | 0 => (Rat.mul_one a).symm
  | n + 1 => by
    show mulN a w n * w = a * (mulN 1 w n * w)
    rw [mulN_eq a w n, Rat.mul_assoc]
theorem mono_eq : ∀ (ks : List Int) (ws : List Rat) (a : Rat), mono a ks ws = a * mono 1 ks ws
  | [], _, a => (Rat.mul_one a).symm
  | _ :: _, [], a => (Rat.mul_one a).symm
  | k :: ks, w :: ws, a => by
    show mono (mulN a w k.toNat) ks ws = a * mono (mulN 1 w k.toNat) ks ws
    rw [mono_eq ks ws (mulN a w k.toNat), mono_eq ks ws (mulN 1 w k.toNat), mulN_eq, Rat.mul_assoc]
theorem wsum_lin (ws : List Rat) (es : List Ent) : wsum es ws = lin (fun k => mono 1 k ws) es := by
  have key : ∀ (es : List Ent) (a : Rat), es.foldl (fun s e => s + mono e.2 e.1 ws) a = a + lin (fun k => mono 1 k ws) es := by
    intro es
    induction es with
    | nil => exact fun a => (Rat.add_zero a).symm
    | cons e es ih =>
      intro a
      show es.foldl _ (a + mono e.2 e.1 ws) = a + (mono 1 e.1 ws * e.2 + lin _ es)
      rw [ih, mono_eq, Rat.mul_comm e.2, Rat.add_assoc]
  unfold wsum
  rw [key, Rat.zero_add]
theorem lin_srt (φ : List Int → Rat) (es : List Ent) : lin φ (srt es) = lin φ es := lin_perm (srt_perm es)
theorem lin_scE (φ : List Int → Rat) (r : Rat) : ∀ es : List Ent, lin φ (es.map (scE r)) = lin φ es * r
  | [] => (Rat.zero_mul r).symm
  | e :: es => by
    show φ e.1 * (e.2 * r) + lin φ (es.map (scE r)) = (φ e.1 * e.2 + lin φ es) * r
    rw [lin_scE φ r es, Rat.add_mul, Rat.mul_assoc]
def sumE (es fs : List Ent) : List Ent := srt (gath (es ++ fs))
theorem lin_sumE (φ : List Int → Rat) (es fs : List Ent) : lin φ (sumE es fs) = lin φ es + lin φ fs := by
  unfold sumE
  rw [lin_srt, lin_gath, lin_app]
/-! rows of numbers, without end -/
abbrev Sq := Nat → Rat
def prv (s : Sq) : Sq
  | 0 => 0
  | j + 1 => s j
def mL (w c : Rat) (s : Sq) : Sq := fun i => s i * w + prv s i * c
def pwr (w c : Rat) : Nat → Sq → Sq
  | 0, s => s
  | n + 1, s => mL w c (pwr w c n s)
def pt : List Int → List Rat → List Rat → Sq → Sq
  | k :: ks, w :: ws, c :: cs, s => pt ks ws cs (pwr w c k.toNat s)
  | _, _, _, s => s
def one : Sq
  | 0 => 1
  | _ + 1 => 0
def co (l : List Rat) : Sq := fun i => l.getD i 0
def sA (s t : Sq) : Sq := fun i => s i + t i
def sM (r : Rat) (s : Sq) : Sq := fun i => s i * r
def der (s : Sq) : Sq := fun i => ((i + 1 : Nat) : Rat) * s (i + 1)
theorem getD_zip : ∀ {a b : List Rat} (i : Nat), a.length = b.length → (List.zipWith (· + ·) a b).getD i 0 = a.getD i 0 + b.getD i 0
  | [], [], i, _ => (Rat.add_zero (0 : Rat)).symm
  | x :: a, y :: b, 0, _ => rfl
  | x :: a, y :: b, i + 1, h => by
    have := getD_zip (a := a) (b := b) i (Nat.succ.inj h)
    simpa using this
theorem getD_snoc (w : Rat) : ∀ (l : List Rat) (i : Nat), (l.map (· * w) ++ [0]).getD i 0 = l.getD i 0 * w
  | [], 0 => (Rat.zero_mul w).symm
  | [], i + 1 => (Rat.zero_mul w).symm
  | x :: l, 0 => rfl
  | x :: l, i + 1 => by
    have := getD_snoc w l i
    simpa using this
theorem getD_map (c : Rat) : ∀ (l : List Rat) (i : Nat), (l.map (· * c)).getD i 0 = l.getD i 0 * c
  | [], i => by simp
  | x :: l, 0 => rfl
  | x :: l, i + 1 => by
    have := getD_map c l i
    simpa using this
theorem co_tl (l : List Rat) (w c : Rat) : co (Tl l w c) = mL w c (co l) := by
  funext i
  unfold co Tl mL
  rw [getD_zip _ (by rw [List.length_append, List.length_map, List.length_singleton, List.length_cons, List.length_map]), getD_snoc]
  congr 1
  cases i with
  | zero => exact (Rat.zero_mul c).symm
  | succ j =>
    have := getD_map c l j
    simpa [prv] using this
theorem co_rep (l : List Rat) (w c : Rat) : ∀ k, co (rep l w c k) = pwr w c k (co l)
  | 0 => rfl
  | k + 1 => by
    show co (Tl _ w c) = mL w c _
    rw [co_tl, co_rep l w c k]
theorem co_part : ∀ (ks : List Int) (ws cs l : List Rat), co (partL l ks ws cs) = pt ks ws cs (co l)
  | k :: ks, w :: ws, c :: cs, l => by
    show co (partL (rep l w c k.toNat) ks ws cs) = pt ks ws cs (pwr w c k.toNat (co l))
    rw [co_part ks ws cs, co_rep]
  | [], _, _, _ => by simp [partL, pt]
  | _ :: _, [], _, _ => by simp [partL, pt]
  | _ :: _, _ :: _, [], _ => by simp [partL, pt]
theorem part_len : ∀ (ks : List Int) (ws cs l : List Rat), ws.length = ks.length → cs.length = ks.length → (∀ k ∈ ks, (0 : Int) ≤ k) → ((partL l ks ws cs).length : Int) = l.length + ks.sum
  | [], _, _, _, _, _, _ => by simp [partL]
  | k :: ks, w :: ws, c :: cs, l, h1, h2, h3 => by
    show ((partL (rep l w c k.toNat) ks ws cs).length : Int) = _
    rw [part_len ks ws cs _ (Nat.succ.inj h1) (Nat.succ.inj h2) (fun x hx => h3 x (List.mem_cons_of_mem _ hx)), rep_len, List.sum_cons]
    have := h3 k (List.mem_cons_self ..)
    omega
/-! what is straight -/
theorem mL_add (w c : Rat) (s t : Sq) : mL w c (sA s t) = sA (mL w c s) (mL w c t) := by
  funext i
  cases i with
  | zero => show (s 0 + t 0) * w + 0 * c = s 0 * w + 0 * c + (t 0 * w + 0 * c); grind
  | succ j => show (s (j + 1) + t (j + 1)) * w + (s j + t j) * c = s (j + 1) * w + s j * c + (t (j + 1) * w + t j * c); grind
theorem mL_sm (w c r : Rat) (s : Sq) : mL w c (sM r s) = sM r (mL w c s) := by
  funext i
  cases i with
  | zero => show s 0 * r * w + 0 * c = (s 0 * w + 0 * c) * r; grind
  | succ j => show s (j + 1) * r * w + s j * r * c = (s (j + 1) * w + s j * c) * r; grind
theorem pwr_add (w c : Rat) (s t : Sq) : ∀ n, pwr w c n (sA s t) = sA (pwr w c n s) (pwr w c n t)
  | 0 => rfl
  | n + 1 => by
    show mL w c _ = sA (mL w c _) (mL w c _)
    rw [pwr_add w c s t n, mL_add]
theorem pwr_sm (w c r : Rat) (s : Sq) : ∀ n, pwr w c n (sM r s) = sM r (pwr w c n s)
  | 0 => rfl
  | n + 1 => by
    show mL w c _ = sM r (mL w c _)
    rw [pwr_sm w c r s n, mL_sm]
theorem pt_add : ∀ (ks : List Int) (ws cs : List Rat) (s t : Sq), pt ks ws cs (sA s t) = sA (pt ks ws cs s) (pt ks ws cs t)
  | k :: ks, w :: ws, c :: cs, s, t => by
    show pt ks ws cs (pwr w c k.toNat (sA s t)) = _
    rw [pwr_add, pt_add]
    rfl
  | [], _, _, _, _ => by simp [pt]
  | _ :: _, [], _, _, _ => by simp [pt]
  | _ :: _, _ :: _, [], _, _ => by simp [pt]
theorem pt_sm : ∀ (ks : List Int) (ws cs : List Rat) (r : Rat) (s : Sq), pt ks ws cs (sM r s) = sM r (pt ks ws cs s)
  | k :: ks, w :: ws, c :: cs, r, s => by
    show pt ks ws cs (pwr w c k.toNat (sM r s)) = _
    rw [pwr_sm, pt_sm]
    rfl
  | [], _, _, _, _ => by simp [pt]
  | _ :: _, [], _, _, _ => by simp [pt]
  | _ :: _, _ :: _, [], _, _ => by simp [pt]
theorem co_one (a : Rat) : co [a] = sM a one := by
  funext i
  cases i with
  | zero => exact (Rat.one_mul a).symm
  | succ j => exact (Rat.zero_mul a).symm
/-- the number that stands with a power, of a blend's line -/
def LV (es : List Ent) (ws cs : List Rat) (i : Nat) : Rat := lin (fun k => pt k ws cs one i) es
theorem co_fold {ws cs : List Rat} {L : Nat} (i : Nat) : ∀ {es : List Ent} {l : List Rat}, l.length = L → (∀ e ∈ es, (partL [e.2] e.1 ws cs).length = L) → (es.foldl (fun line e => List.zipWith (· + ·) line (partL [e.2] e.1 ws cs)) l).getD i 0 = l.getD i 0 + LV es ws cs i
  | [], l, _, _ => (Rat.add_zero _).symm
  | e :: es, l, hl, hp => by
    have he := hp e (List.mem_cons_self ..)
    rw [List.foldl_cons, co_fold i (by rw [List.length_zipWith, hl, he, Nat.min_self]) (fun x hx => hp x (List.mem_cons_of_mem _ hx)), getD_zip i (by rw [hl, he])]
    have h1 : (partL [e.2] e.1 ws cs).getD i 0 = pt e.1 ws cs one i * e.2 := by
      have := congrFun (co_part e.1 ws cs [e.2]) i
      rw [co_one, pt_sm] at this
      exact this
    rw [h1]
    show _ = l.getD i 0 + (pt e.1 ws cs one i * e.2 + lin _ es)
    unfold LV
    rw [Rat.add_assoc]
theorem co_line {m n b : Nat} {es : List Ent} {ws cs : List Rat} (ge : GE m n b es) (hw : ws.length = m) (hc : cs.length = m) (i : Nat) : (if es.isEmpty = true then ([] : List Rat) else lineR n es ws cs).getD i 0 = LV es ws cs i := by
  by_cases c : es.isEmpty = true
  · rw [if_pos c]
    cases es with
    | nil => rfl
    | cons _ _ => cases c
  · rw [if_neg c]
    unfold lineR
    rw [co_fold (L := n + 1) i List.length_replicate]
    · have : (List.replicate (n + 1) (0 : Rat)).getD i 0 = 0 := by
        rw [List.getD_eq_getElem?_getD, List.getElem?_replicate]
        split <;> rfl
      rw [this, Rat.zero_add]
    · intro e he
      have := part_len e.1 ws cs [e.2] (by rw [hw, ge.len e he]) (by rw [hc, ge.len e he]) (ge.nn e he)
      rw [ge.sum e he, List.length_singleton] at this
      omega
theorem line_len {m n b : Nat} {es : List Ent} {ws cs : List Rat} (ge : GE m n b es) (hw : ws.length = m) (hc : cs.length = m) : (lineR n es ws cs).length = n + 1 := by
  have key : ∀ {es : List Ent} {l : List Rat}, l.length = n + 1 → (∀ e ∈ es, (partL [e.2] e.1 ws cs).length = n + 1) → (es.foldl (fun line e => List.zipWith (· + ·) line (partL [e.2] e.1 ws cs)) l).length = n + 1 := by
    intro es
    induction es with
    | nil => exact fun h _ => h
    | cons e es ih =>
      intro l h1 h2
      rw [List.foldl_cons]
      exact ih (by rw [List.length_zipWith, h1, h2 e (List.mem_cons_self ..), Nat.min_self]) fun x hx => h2 x (List.mem_cons_of_mem _ hx)
  refine key List.length_replicate fun e he => ?_
  have := part_len e.1 ws cs [e.2] (by rw [hw, ge.len e he]) (by rw [hc, ge.len e he]) (ge.nn e he)
  rw [ge.sum e he, List.length_singleton] at this
  omega
/-! the worth is the first one -/
theorem pwr_0 (w c : Rat) (s : Sq) : ∀ n, pwr w c n s 0 = mulN (s 0) w n
  | 0 => rfl
  | n + 1 => by
    show pwr w c n s 0 * w + 0 * c = mulN (s 0) w n * w
    rw [pwr_0 w c s n, Rat.zero_mul, Rat.add_zero]
theorem pt_0 : ∀ (ks : List Int) (ws cs : List Rat) (s : Sq), ks.length = ws.length → ks.length = cs.length → pt ks ws cs s 0 = mono (s 0) ks ws
  | [], [], [], _, _, _ => rfl
  | k :: ks, w :: ws, c :: cs, s, h1, h2 => by
    show pt ks ws cs (pwr w c k.toNat s) 0 = mono (mulN (s 0) w k.toNat) ks ws
    rw [pt_0 ks ws cs _ (Nat.succ.inj h1) (Nat.succ.inj h2), pwr_0]
theorem LV_0 {m : Nat} {es : List Ent} {ws cs : List Rat} (hm : ∀ e ∈ es, e.1.length = m) (hw : ws.length = m) (hc : cs.length = m) : LV es ws cs 0 = wsum es ws := by
  rw [wsum_lin]
  exact lin_congr fun e he => pt_0 e.1 ws cs one (by rw [hm e he, hw]) (by rw [hm e he, hc])
/-! added up -/
def ev (l : List Rat) (x : Rat) : Rat := l.foldr (fun a f => f * x + a) 0
def mv (ws cs : List Rat) (x : Rat) : List Rat := List.zipWith (fun w c => w + x * c) ws cs
theorem ev_zip (x : Rat) : ∀ {a b : List Rat}, a.length = b.length → ev (List.zipWith (· + ·) a b) x = ev a x + ev b x
  | [], [], _ => (Rat.add_zero _).symm
  | y :: a, z :: b, h => by
    show ev (List.zipWith (· + ·) a b) x * x + (y + z) = ev a x * x + y + (ev b x * x + z)
    rw [ev_zip x (Nat.succ.inj h)]
    grind
theorem ev_snoc (w x : Rat) : ∀ l : List Rat, ev (l.map (· * w) ++ [0]) x = ev l x * w
  | [] => by show (0 : Rat) * x + 0 = 0 * w; grind
  | y :: l => by
    show ev (l.map (· * w) ++ [0]) x * x + y * w = (ev l x * x + y) * w
    rw [ev_snoc w x l]
    grind
theorem ev_map (c x : Rat) : ∀ l : List Rat, ev (l.map (· * c)) x = ev l x * c
  | [] => (Rat.zero_mul c).symm
  | y :: l => by
    show ev (l.map (· * c)) x * x + y * c = (ev l x * x + y) * c
    rw [ev_map c x l]
    grind
theorem ev_tl (l : List Rat) (w c x : Rat) : ev (Tl l w c) x = ev l x * (w + x * c) := by
  unfold Tl
  rw [ev_zip x (by rw [List.length_append, List.length_map, List.length_singleton, List.length_cons, List.length_map]), ev_snoc]
  show ev l x * w + (ev (l.map (· * c)) x * x + 0) = _
  rw [ev_map]
  grind
theorem ev_rep (l : List Rat) (w c x : Rat) : ∀ k, ev (rep l w c k) x = mulN (ev l x) (w + x * c) k
  | 0 => rfl
  | k + 1 => by
    show ev (Tl _ w c) x = mulN (ev l x) (w + x * c) k * (w + x * c)
    rw [ev_tl, ev_rep l w c x k]
theorem ev_part (x : Rat) : ∀ (ks : List Int) (ws cs l : List Rat), ks.length = ws.length → ks.length = cs.length → ev (partL l ks ws cs) x = mono (ev l x) ks (mv ws cs x)
  | [], [], [], _, _, _ => rfl
  | k :: ks, w :: ws, c :: cs, l, h1, h2 => by
    show ev (partL (rep l w c k.toNat) ks ws cs) x = mono (mulN (ev l x) (w + x * c) k.toNat) ks (mv ws cs x)
    rw [ev_part x ks ws cs _ (Nat.succ.inj h1) (Nat.succ.inj h2), ev_rep]
theorem ev_line {m n b : Nat} {es : List Ent} {ws cs : List Rat} (x : Rat) (ge : GE m n b es) (hw : ws.length = m) (hc : cs.length = m) : ev (if es.isEmpty = true then ([] : List Rat) else lineR n es ws cs) x = wsum es (mv ws cs x) := by
  by_cases c : es.isEmpty = true
  · rw [if_pos c]
    cases es with
    | nil => rfl
    | cons _ _ => cases c
  · rw [if_neg c]
    have key : ∀ {es : List Ent} {l : List Rat}, l.length = n + 1 → (∀ e ∈ es, e.1.length = m ∧ (partL [e.2] e.1 ws cs).length = n + 1) → ev (es.foldl (fun line e => List.zipWith (· + ·) line (partL [e.2] e.1 ws cs)) l) x = es.foldl (fun s e => s + mono e.2 e.1 (mv ws cs x)) (ev l x) := by
      intro es
      induction es with
      | nil => exact fun _ _ => rfl
      | cons e es ih =>
        intro l h1 h2
        obtain ⟨h3, h4⟩ := h2 e (List.mem_cons_self ..)
        rw [List.foldl_cons, List.foldl_cons, ih (by rw [List.length_zipWith, h1, h4, Nat.min_self]) fun x hx => h2 x (List.mem_cons_of_mem _ hx), ev_zip x (by rw [h1, h4]), ev_part x e.1 ws cs [e.2] (by rw [h3, hw]) (by rw [h3, hc])]
        have : ev [e.2] x = e.2 := by show (0 : Rat) * x + e.2 = e.2; grind
        rw [this]
    unfold lineR wsum
    rw [key List.length_replicate fun e he => ⟨ge.len e he, ?_⟩]
    · have : ∀ k : Nat, ev (List.replicate k (0 : Rat)) x = 0 := fun k => by
        induction k with
        | zero => rfl
        | succ k ih =>
          show ev (List.replicate k (0 : Rat)) x * x + 0 = 0
          rw [ih]
          grind
      rw [this]
    · have := part_len e.1 ws cs [e.2] (by rw [hw, ge.len e he]) (by rw [hc, ge.len e he]) (ge.nn e he)
      rw [ge.sum e he, List.length_singleton] at this
      omega
end K15

set_option Elab.async false
set_option linter.all false
set_option maxRecDepth 100000
set_option maxHeartbeats 4000000
/-! k15: what a line's numbers tell of one another -/
namespace K15
open PySem L2 DL
theorem natS (n : Nat) : ((n + 1 : Nat) : Rat) = (n : Rat) + 1 := Rat.natCast_add n 1
theorem der_mL (w c : Rat) (s : Sq) : der (mL w c s) = sA (mL w c (der s)) (sM c s) := by
  funext i
  cases i with
  | zero =>
    show ((0 + 1 : Nat) : Rat) * (s 1 * w + s 0 * c) = ((0 + 1 : Nat) : Rat) * s 1 * w + 0 * c + s 0 * c
    rw [natS]
    have : ((0 : Nat) : Rat) = 0 := rfl
    rw [this]
    grind
  | succ j =>
    show ((j + 1 + 1 : Nat) : Rat) * (s (j + 1 + 1) * w + s (j + 1) * c) = ((j + 1 + 1 : Nat) : Rat) * s (j + 1 + 1) * w + ((j + 1 : Nat) : Rat) * s (j + 1) * c + s (j + 1) * c
    rw [natS (j + 1)]
    grind
theorem der_pwr (w c : Rat) (s : Sq) : ∀ n : Nat, der (pwr w c n s) = sA (pwr w c n (der s)) (sM ((n : Rat) * c) (pwr w c (n - 1) s))
  | 0 => by
    funext i
    show der s i = der s i + s i * (((0 : Nat) : Rat) * c)
    have : ((0 : Nat) : Rat) = 0 := rfl
    rw [this]
    grind
  | n + 1 => by
    show der (mL w c (pwr w c n s)) = sA (mL w c (pwr w c n (der s))) (sM (((n + 1 : Nat) : Rat) * c) (pwr w c n s))
    rw [der_mL, der_pwr w c s n, mL_add, mL_sm]
    funext i
    show mL w c (pwr w c n (der s)) i + mL w c (pwr w c (n - 1) s) i * ((n : Rat) * c) + pwr w c n s i * c = mL w c (pwr w c n (der s)) i + pwr w c n s i * (((n + 1 : Nat) : Rat) * c)
    rw [natS]
    cases n with
    | zero =>
      have : ((0 : Nat) : Rat) = 0 := rfl
      rw [this]
      grind
    | succ m =>
      show _ + mL w c (pwr w c m s) i * _ + mL w c (pwr w c m s) i * c = _ + mL w c (pwr w c m s) i * _
      grind
def dsum : List Int → List Rat → List Rat → Sq → Sq
  | k :: ks, w :: ws, c :: cs, s => sA (sM ((k.toNat : Rat) * c) (pt ks ws cs (pwr w c (k.toNat - 1) s))) (dsum ks ws cs (pwr w c k.toNat s))
  | _, _, _, _ => fun _ => 0
theorem der_pt : ∀ (ks : List Int) (ws cs : List Rat) (s : Sq), der (pt ks ws cs s) = sA (pt ks ws cs (der s)) (dsum ks ws cs s)
  | k :: ks, w :: ws, c :: cs, s => by
    show der (pt ks ws cs (pwr w c k.toNat s)) = sA (pt ks ws cs (pwr w c k.toNat (der s))) (sA (sM ((k.toNat : Rat) * c) (pt ks ws cs (pwr w c (k.toNat - 1) s))) (dsum ks ws cs (pwr w c k.toNat s)))
    rw [der_pt ks ws cs, der_pwr, pt_add, pt_sm]
    funext i
    show _ + _ + _ = _ + (_ + _)
    rw [Rat.add_assoc]
  | [], _, _, s => by funext i; exact (Rat.add_zero _).symm
  | _ :: _, [], _, s => by funext i; exact (Rat.add_zero _).symm
  | _ :: _, _ :: _, [], s => by funext i; exact (Rat.add_zero _).symm
theorem der_one : der one = sM 0 one := by
  funext i
  show ((i + 1 : Nat) : Rat) * 0 = one i * 0
  grind
theorem der_pt1 (ks : List Int) (ws cs : List Rat) (i : Nat) : ((i + 1 : Nat) : Rat) * pt ks ws cs one (i + 1) = dsum ks ws cs one i := by
  have h := congrFun (der_pt ks ws cs one) i
  rw [der_one, pt_sm] at h
  have h : ((i + 1 : Nat) : Rat) * pt ks ws cs one (i + 1) = pt ks ws cs one i * 0 + dsum ks ws cs one i := h
  rw [h]
  grind
/-! sums -/
def tot (l : List Rat) : Rat := l.foldl (· + ·) 0
theorem fold_add : ∀ (l : List Rat) (a : Rat), l.foldl (· + ·) a = a + tot l
  | [], a => (Rat.add_zero a).symm
  | x :: l, a => by
    show l.foldl (· + ·) (a + x) = a + l.foldl (· + ·) (0 + x)
    rw [fold_add l (a + x), fold_add l (0 + x)]
    grind
theorem tot_cons (x : Rat) (l : List Rat) : tot (x :: l) = x + tot l := by
  show l.foldl (· + ·) (0 + x) = _
  rw [fold_add]
  grind
theorem dsum_tot (i : Nat) : ∀ (ks : List Int) (ws cs : List Rat) (s : Sq), (∀ k ∈ ks, (0 : Int) ≤ k) → ws.length = ks.length → cs.length = ks.length →
    dsum ks ws cs s i = tot ((List.range ks.length).map fun a => pt (dec a ks) ws cs s i * ((ks.getD a 0 : Int) : Rat) * cs.getD a 0)
  | [], _, _, s, _, _, _ => rfl
  | k :: ks, w :: ws, c :: cs, s, h0, h1, h2 => by
    have k0 := h0 k (List.mem_cons_self ..)
    rw [List.length_cons, List.range_succ_eq_map, List.map_cons, tot_cons, List.map_map]
    have ih := dsum_tot i ks ws cs (pwr w c k.toNat s) (fun x hx => h0 x (List.mem_cons_of_mem _ hx)) (Nat.succ.inj h1) (Nat.succ.inj h2)
    have e1 : ((k.toNat : Nat) : Rat) = ((k : Int) : Rat) := by rw [← Rat.intCast_natCast, Int.toNat_of_nonneg k0]
    have e2 : (k - 1).toNat = k.toNat - 1 := by omega
    show pt ks ws cs (pwr w c (k.toNat - 1) s) i * ((k.toNat : Rat) * c) + dsum ks ws cs (pwr w c k.toNat s) i = pt ks ws cs (pwr w c (k - 1).toNat s) i * ((k : Int) : Rat) * c + tot ((List.range ks.length).map fun a => pt (dec a ks) ws cs (pwr w c k.toNat s) i * ((ks.getD a 0 : Int) : Rat) * cs.getD a 0)
    rw [ih, e1, e2, Rat.mul_assoc]
theorem lin_tot (f : Nat → List Int → Rat) (es : List Ent) : ∀ l : List Nat, lin (fun k => tot (l.map fun a => f a k)) es = tot (l.map fun a => lin (f a) es)
  | [] => lin_zero es
  | a :: l => by
    rw [List.map_cons, tot_cons, ← lin_tot f es l, ← lin_add]
    exact lin_congr fun e _ => by rw [List.map_cons, tot_cons]
theorem lin_take {φ : List Int → Rat} {a : Nat} : ∀ {es : List Ent}, (∀ e ∈ es, (0 : Int) ≤ e.1.getD a 0) → lin φ (takeE a es) = lin (fun k => φ (dec a k) * ((k.getD a 0 : Int) : Rat)) es
  | [], _ => rfl
  | e :: es, h => by
    have ih := lin_take (φ := φ) (a := a) (es := es) fun x hx => h x (List.mem_cons_of_mem _ hx)
    have h0 := h e (List.mem_cons_self ..)
    unfold takeE at ih ⊢
    by_cases c : has a e = true
    · rw [List.filter_cons_of_pos c, List.map_cons]
      show φ (dec a e.1) * (e.2 * ((e.1.getD a 0 : Int) : Rat)) + lin φ _ = φ (dec a e.1) * ((e.1.getD a 0 : Int) : Rat) * e.2 + lin _ es
      rw [ih]
      grind
    · rw [List.filter_cons_of_neg c, ih]
      have : e.1.getD a 0 = 0 := by
        have : ¬ 0 < e.1.getD a 0 := fun z => c (decide_eq_true z)
        omega
      show _ = φ (dec a e.1) * ((e.1.getD a 0 : Int) : Rat) * e.2 + lin _ es
      rw [this]
      have z : ((0 : Int) : Rat) = 0 := rfl
      rw [z]
      grind
theorem at_nn {k : List Int} (h : ∀ c ∈ k, (0 : Int) ≤ c) (a : Nat) : (0 : Int) ≤ k.getD a 0 := by
  rw [List.getD_eq_getElem?_getD]
  cases e : k[a]? with
  | none => exact Int.le_refl _
  | some c => exact h c (List.mem_of_getElem? e)
/-- a slope is what the letters taken out are worth; and so on -/
theorem LV_take {m n b : Nat} {es : List Ent} {ws cs : List Rat} (ge : GE m n b es) (hw : ws.length = m) (hc : cs.length = m) (i : Nat) :
    ((i + 1 : Nat) : Rat) * LV es ws cs (i + 1) = tot ((List.range m).map fun a => LV (takeE a es) ws cs i * cs.getD a 0) := by
  have h1 : ∀ a, LV (takeE a es) ws cs i * cs.getD a 0 = lin (fun k => pt (dec a k) ws cs one i * ((k.getD a 0 : Int) : Rat) * cs.getD a 0) es := fun a => by
    unfold LV
    rw [lin_take fun e he => at_nn (ge.nn e he) a, lin_smul]
  have h2 : (List.range m).map (fun a => LV (takeE a es) ws cs i * cs.getD a 0) = (List.range m).map fun a => lin (fun k => pt (dec a k) ws cs one i * ((k.getD a 0 : Int) : Rat) * cs.getD a 0) es := List.map_congr_left fun a _ => h1 a
  rw [h2, ← lin_tot (fun a k => pt (dec a k) ws cs one i * ((k.getD a 0 : Int) : Rat) * cs.getD a 0)]
  unfold LV
  rw [Rat.mul_comm, ← lin_smul]
  refine lin_congr fun e he => ?_
  rw [Rat.mul_comm, der_pt1, dsum_tot i e.1 ws cs one (ge.nn e he) (by rw [hw, ge.len e he]) (by rw [hc, ge.len e he]), ge.len e he]
/-! along the weights themselves -/
def Eu (n : Nat) (s : Sq) : Prop := s 1 = (n : Rat) * s 0 ∧ 2 * s 2 = (n : Rat) * ((n : Rat) - 1) * s 0
theorem eu_mL {n : Nat} {s : Sq} (w : Rat) (h : Eu n s) : Eu (n + 1) (mL w w s) := by
  obtain ⟨h1, h2⟩ := h
  constructor
  · show s 1 * w + s 0 * w = ((n + 1 : Nat) : Rat) * (s 0 * w + 0 * w)
    rw [natS, h1]
    grind
  · show 2 * (s 2 * w + s 1 * w) = ((n + 1 : Nat) : Rat) * (((n + 1 : Nat) : Rat) - 1) * (s 0 * w + 0 * w)
    rw [natS]
    have e : 2 * (s 2 * w + s 1 * w) = 2 * s 2 * w + 2 * (s 1 * w) := by grind
    rw [e, h2, h1]
    grind
theorem eu_pwr {n : Nat} {s : Sq} (w : Rat) (h : Eu n s) : ∀ k, Eu (n + k) (pwr w w k s)
  | 0 => h
  | k + 1 => eu_mL w (eu_pwr w h k)
theorem eu_pt : ∀ (ks : List Int) (ws : List Rat) {n : Nat} {s : Sq}, (∀ k ∈ ks, (0 : Int) ≤ k) → ws.length = ks.length → Eu n s → ∃ t : Nat, (t : Int) = n + ks.sum ∧ Eu t (pt ks ws ws s)
  | [], [], n, s, _, _, h => ⟨n, by simp, h⟩
  | k :: ks, w :: ws, n, s, h0, h1, h => by
    obtain ⟨t, ht, he⟩ := eu_pt ks ws (fun x hx => h0 x (List.mem_cons_of_mem _ hx)) (Nat.succ.inj h1) (eu_pwr w h k.toNat)
    refine ⟨t, ?_, he⟩
    have := h0 k (List.mem_cons_self ..)
    rw [ht, List.sum_cons]
    omega
theorem eu_one : Eu 0 one := ⟨by show (0 : Rat) = ((0 : Nat) : Rat) * 1; decide +kernel, by show (2 : Rat) * 0 = ((0 : Nat) : Rat) * (((0 : Nat) : Rat) - 1) * 1; decide +kernel⟩
theorem LV_eu {m n b : Nat} {es : List Ent} {ws : List Rat} (ge : GE m n b es) (hw : ws.length = m) : LV es ws ws 1 = (n : Rat) * LV es ws ws 0 ∧ 2 * LV es ws ws 2 = (n : Rat) * ((n : Rat) - 1) * LV es ws ws 0 := by
  have key : ∀ e ∈ es, Eu n (pt e.1 ws ws one) := fun e he => by
    obtain ⟨t, ht, h⟩ := eu_pt e.1 ws (ge.nn e he) (by rw [hw, ge.len e he]) eu_one
    rw [ge.sum e he] at ht
    have : t = n := by omega
    rw [← this]
    exact h
  constructor
  · unfold LV
    rw [Rat.mul_comm, ← lin_smul]
    exact lin_congr fun e he => by rw [(key e he).1, Rat.mul_comm]
  · unfold LV
    rw [Rat.mul_comm, ← lin_smul, Rat.mul_comm ((n : Rat) * _), ← lin_smul]
    exact lin_congr fun e he => by rw [Rat.mul_comm, (key e he).2, Rat.mul_comm]
/-! a direction multiplied -/
def Mu (q : Rat) (s t : Sq) : Prop := t 0 = s 0 ∧ t 1 = s 1 * q ∧ t 2 = s 2 * (q * q)
theorem mu_mL {q : Rat} {s t : Sq} (w c : Rat) (h : Mu q s t) : Mu q (mL w c s) (mL w (c * q) t) := by
  obtain ⟨h0, h1, h2⟩ := h
  refine ⟨?_, ?_, ?_⟩
  · show t 0 * w + 0 * (c * q) = s 0 * w + 0 * c
    rw [h0]
    grind
  · show t 1 * w + t 0 * (c * q) = (s 1 * w + s 0 * c) * q
    rw [h0, h1]
    grind
  · show t 2 * w + t 1 * (c * q) = (s 2 * w + s 1 * c) * (q * q)
    rw [h1, h2]
    grind
theorem mu_pwr {q : Rat} {s t : Sq} (w c : Rat) (h : Mu q s t) : ∀ k, Mu q (pwr w c k s) (pwr w (c * q) k t)
  | 0 => h
  | k + 1 => mu_mL w c (mu_pwr w c h k)
theorem mu_pt {q : Rat} : ∀ (ks : List Int) (ws cs : List Rat) {s t : Sq}, Mu q s t → Mu q (pt ks ws cs s) (pt ks ws (cs.map (· * q)) t)
  | k :: ks, w :: ws, c :: cs, s, t, h => mu_pt ks ws cs (mu_pwr w c h k.toNat)
  | [], _, _, _, _, h => by simpa [pt] using h
  | _ :: _, [], _, _, _, h => by simpa [pt] using h
  | _ :: _, _ :: _, [], _, _, h => by simpa [pt] using h
theorem mu_one (q : Rat) : Mu q one one := ⟨rfl, (Rat.zero_mul q).symm, (Rat.zero_mul _).symm⟩
theorem LV_mu (es : List Ent) (ws cs : List Rat) (q : Rat) : LV es ws (cs.map (· * q)) 0 = LV es ws cs 0 ∧ LV es ws (cs.map (· * q)) 1 = LV es ws cs 1 * q ∧ LV es ws (cs.map (· * q)) 2 = LV es ws cs 2 * (q * q) := by
  refine ⟨?_, ?_, ?_⟩
  · exact lin_congr fun e _ => (mu_pt e.1 ws cs (mu_one q)).1
  · unfold LV
    rw [← lin_smul]
    exact lin_congr fun e _ => (mu_pt e.1 ws cs (mu_one q)).2.1
  · unfold LV
    rw [← lin_smul]
    exact lin_congr fun e _ => (mu_pt e.1 ws cs (mu_one q)).2.2
def leanV (es : List Ent) (ws cs : List Rat) : Rat := LV es ws cs 0 * LV es ws cs 2 * 2 - LV es ws cs 1 * LV es ws cs 1
theorem lean_mu (es : List Ent) (ws cs : List Rat) (q : Rat) : leanV es ws (cs.map (· * q)) = leanV es ws cs * (q * q) := by
  obtain ⟨h0, h1, h2⟩ := LV_mu es ws cs q
  unfold leanV
  rw [h0, h1, h2]
  grind
theorem sq_nn (x : Rat) : 0 ≤ x * x := by
  rcases (Rat.le_total (a := 0) (b := x)) with h | h
  · exact Rat.mul_nonneg h h
  · have : 0 ≤ -x := by grind
    have := Rat.mul_nonneg this this
    grind
theorem lean_eu {m n b : Nat} {es : List Ent} {ws : List Rat} (ge : GE m n b es) (hw : ws.length = m) : ¬ 0 < leanV es ws ws := by
  obtain ⟨h1, h2⟩ := LV_eu ge hw
  unfold leanV
  have e : LV es ws ws 0 * LV es ws ws 2 * 2 = LV es ws ws 0 * ((n : Rat) * ((n : Rat) - 1) * LV es ws ws 0) := by
    rw [← h2]
    grind
  rw [e, h1]
  have s := sq_nn (LV es ws ws 0)
  have n0 : (0 : Rat) ≤ (n : Rat) := Rat.natCast_nonneg
  have p := Rat.mul_nonneg n0 s
  grind
theorem LV_sum (es : List Ent) (ws cs : List Rat) (r : Rat) (i : Nat) : LV (sumE (es.map (scE r)) es) ws cs i = LV es ws cs i * r + LV es ws cs i := by
  unfold LV
  rw [lin_sumE, lin_scE]
theorem LV_srt (es : List Ent) (ws cs : List Rat) (i : Nat) : LV (srt es) ws cs i = LV es ws cs i := lin_srt _ es
end K15

set_option Elab.async false
set_option linter.all false
set_option maxRecDepth 100000
set_option maxHeartbeats 4000000
/-! dict != dict, both the same, by an own == inside where there is one -/
namespace DL
open PySem PySem.Spec PyProof.Rows L2
section
variable {X : Cx} {n : Nat} {Q : D → Prop}
end
end DL

set_option Elab.async false
set_option linter.all false
set_option maxRecDepth 100000
set_option maxHeartbeats 4000000
/-! dict(d) of a dict with keys of ints: a copy, where no two keys hash alike -/
namespace DCP
open PySem PySem.Spec PyProof.Rows
section
variable {prog : Program} {w : World} {K : Type} [DecidableEq K] {knd : HeapKind prog w K} {A : Around} {E : Value → Shared → Prop} {s : Shared}
end
end DCP

namespace DL
open PySem PySem.Spec PyProof.Rows L2
abbrev hK (P : Program) (w : World) (k : List Key) : Int := (tupleKind (mixKind P w)).hash k
section
variable {X : Cx} {B : Hp} {S : En} {pos p : Pos} {e : Expr}
end
end DL

set_option Elab.async false
set_option linter.all false
set_option maxRecDepth 100000
set_option maxHeartbeats 4000000
/-! == and != whatever comes out, by an own == inside where there is one -/
namespace NB
open PySem PySem.SeqAt
open AutoSeq1 (wpAny_loadPart')
open MeetsSeq MeetsSeq2 MeetsSeq3 SeqRoads2
/-- k of them from i on -/
def upTo (vs : Nat → Bool) (i : Nat) : Nat → Bool
  | 0 => true
  | k + 1 => vs i && upTo vs (i + 1) k
section
variable {prog : Program} {w : World} {A : Around} {R : Result → Shared → Prop}
/-- two lists, read anew at each turn -/
def Both (prog : Program) (w : World) (A : Around) (E : Value → Shared → Prop) (l b : Addr) (n m : Nat) (vs : Nat → Bool) (Z : Shared → Prop) : Prop :=
  ∀ t, Z t → ∃ (xs ys : Array Value) (c d : Nat), t.heap.get? l = some { cls := .type "list", data := .seq xs c } ∧ t.heap.get? b = some { cls := .type "list", data := .seq ys d } ∧ xs.size = n ∧ ys.size = m ∧
    ∀ i (p : i < xs.size) (q : i < ys.size), wpAny (model prog w) A.in1 (eqBool xs[i] ys[i]) (fun r t' => r = vs i ∧ Z t') E t
end
section
variable {prog : Program} {w : World} {A : Around} {E : Value → Shared → Prop} {t : Shared} {l b : Addr} {n m : Nat} {vs : Nat → Bool} {Q : Value → Shared → Prop}
end
end NB

set_option Elab.async false
set_option linter.all false
set_option maxRecDepth 100000
set_option maxHeartbeats 4000000
/-! the same for tuples and dicts; judgements with a verdict -/
namespace NB
open PySem PySem.SeqAt
open AutoSeq1 (wpAny_loadPart')
open MeetsSeq MeetsSeq2 MeetsSeq3 SeqRoads2
section
variable {prog : Program} {w : World} {A : Around} {R : Result → Shared → Prop}
end
section
variable {prog : Program} {w : World} {A : Around} {E : Value → Shared → Prop} {t : Shared} {l b : Addr} {vs : Nat → Bool} {Q : Value → Shared → Prop}
end
end NB

set_option Elab.async false
set_option linter.all false
set_option maxRecDepth 100000
set_option maxHeartbeats 4000000
/-! == with a verdict, of data that hold own objects -/
namespace DL
open PySem PySem.Spec PyProof.Rows L2
def EqB (X : Cx) (n : Nat) (x y : D) (b : Bool) : Prop := ∀ (A : Around) (pins : List (Addr × Obj)) (t : Shared) (τ : L2.St) (W : Wd) (H : Hp) (v u : V) (v' u' : Value), L2.Sub X n A → A.guards = some (gOf X) → Inv X pins τ H t → Ok (gOf X) W H → Dn X.K W.I x v → Dn X.K W.I y u → RelV v v' → RelV u u' →
  wpAny (model X.prog X.w) A (eqBool v' u') (fun r t' => r = b ∧ Later X pins τ W H t') X.xe t
def RcB (X : Cx) (n : Nat) (x y : D) (b : Bool) : Prop := ∀ (A : Around) (pins : List (Addr × Obj)) (t : Shared) (τ : L2.St) (W : Wd) (H : Hp) (v u : V) (v' u' : Value), L2.Sub X n A → A.guards = some (gOf X) → Inv X pins τ H t → Ok (gOf X) W H → Dn X.K W.I x v → Dn X.K W.I y u → RelV v v' → RelV u u' →
  wpAny (model X.prog X.w) A (richCompare .Eq v' u') (fun r t' => r = .bool b ∧ Later X pins τ W H t') X.xe t
/-- no value is both -/
def Apart (K : PySem.W.Frag) (x y : D) : Prop := ∀ I v, Dn K I x v → Dn K I y v → False
section
variable {X : Cx} {n m : Nat} {x y : D} {b : Bool}
end
section
variable {X : Cx} {n : Nat} {x y : D} {b : Bool} {Q : D → Prop}
end
end DL

set_option Elab.async false
set_option linter.all false
set_option maxRecDepth 100000
set_option maxHeartbeats 4000000
/-! an object == a list, an object != a text; data apart -/
namespace DL
open PySem PySem.Spec PyProof.Rows L2
section
variable {X : Cx} {Q : D → Prop} {C : Addr} {k : Nat} {sp : SpD} {fs : List (Str × D)}
end
end DL

set_option Elab.async false
set_option linter.all false
set_option maxRecDepth 100000
set_option maxHeartbeats 4000000
/-! a, b, c = a list -/
namespace UL
open PySem PyProof.Rows
section
variable {prog : Program} {w : World} {A : Around} {E : Value → Shared → Prop}
end
end UL
namespace DL
open PySem L2
section
variable {X : Cx} {B : Hp} {W0 : Wd} {S : En} {pos : Pos} {Q : En → Prop}
end
end DL

set_option Elab.async false
set_option linter.all false
set_option maxRecDepth 100000
set_option maxHeartbeats 4000000
/-! x, y, z = a, b, c -/
namespace DL
open PySem L2
section
variable {X : Cx} {B : Hp} {W0 : Wd} {S : En} {E : Ends'} {pos : Pos} {a b c : Expr}
end
end DL

set_option Elab.async false
set_option linter.all false
set_option maxRecDepth 100000
set_option maxHeartbeats 8000000
/-! k15: slopes, bends, leans -/
namespace K15
open PySem L2 DL
theorem ov_mL {M K0 : Nat} {s : Sq} {w c : Rat} (m0 : 0 < M) (h : ∀ i, Ov M K0 (s i)) (hw : Ov 6 600000 w) (hc : Ov 6 600000 c) (i : Nat) : Ov (M * 6) (K0 * 1200000) (mL w c s i) := by
  have h1 := (h i).mul hw
  have h2 : Ov (M * 6) (K0 * 600000) (prv s i * c) := by
    cases i with
    | zero =>
      show Ov _ _ (0 * c)
      rw [Rat.zero_mul]
      exact Ov.zero.mono (Nat.zero_le _)
    | succ j => exact (h j).mul hc
  exact (h1.add h2 (by omega)).mono (by omega)
theorem ov_pwr {M K0 : Nat} {s : Sq} {w c : Rat} (m0 : 0 < M) (h : ∀ i, Ov M K0 (s i)) (hw : Ov 6 600000 w) (hc : Ov 6 600000 c) : ∀ k i, Ov (M * 6 ^ k) (K0 * 1200000 ^ k) (pwr w c k s i)
  | 0, i => by show Ov (M * 1) (K0 * 1) _; rw [Nat.mul_one, Nat.mul_one]; exact h i
  | k + 1, i => by
    have := ov_mL (Nat.mul_pos m0 (Nat.pow_pos (by decide))) (ov_pwr m0 h hw hc k) hw hc i
    rw [Nat.pow_succ, Nat.pow_succ, ← Nat.mul_assoc, ← Nat.mul_assoc]
    exact this
theorem ov_pt : ∀ (ks : List Int) (ws cs : List Rat) {M K0 : Nat} {s : Sq}, 0 < M → (∀ k ∈ ks, (0 : Int) ≤ k) → ws.length = ks.length → cs.length = ks.length → (∀ w ∈ ws, Ov 6 600000 w) → (∀ c ∈ cs, Ov 6 600000 c) → (∀ i, Ov M K0 (s i)) →
    ∃ t : Nat, (t : Int) = ks.sum ∧ ∀ i, Ov (M * 6 ^ t) (K0 * 1200000 ^ t) (pt ks ws cs s i)
  | [], _, _, M, K0, s, m0, _, _, _, _, _, h => ⟨0, rfl, fun i => by show Ov (M * 1) (K0 * 1) _; rw [Nat.mul_one, Nat.mul_one]; simpa [pt] using h i⟩
  | k :: ks, w :: ws, c :: cs, M, K0, s, m0, h0, h1, h2, hw, hc, h => by
    obtain ⟨t, ht, hh⟩ := ov_pt ks ws cs (Nat.mul_pos m0 (Nat.pow_pos (n := k.toNat) (by decide))) (fun x hx => h0 x (List.mem_cons_of_mem _ hx)) (Nat.succ.inj h1) (Nat.succ.inj h2) (fun x hx => hw x (List.mem_cons_of_mem _ hx)) (fun x hx => hc x (List.mem_cons_of_mem _ hx)) (ov_pwr m0 h (hw w (List.mem_cons_self ..)) (hc c (List.mem_cons_self ..)) k.toNat)
    have k0 := h0 k (List.mem_cons_self ..)
    refine ⟨k.toNat + t, by rw [List.sum_cons]; omega, fun i => ?_⟩
    have := hh i
    rw [Nat.mul_assoc, ← Nat.pow_add, Nat.mul_assoc, ← Nat.pow_add] at this
    exact this
theorem ov_lin {φ : List Int → Rat} {A B : Nat} (a0 : 0 < A) : ∀ {es : List Ent}, (∀ e ∈ es, Ov A B (φ e.1 * e.2)) → Ov A (es.length * B) (lin φ es)
  | [], _ => Ov.zero.mono (Nat.zero_le _)
  | e :: es, h => by
    have h1 := h e (List.mem_cons_self ..)
    have h2 := ov_lin a0 (es := es) fun x hx => h x (List.mem_cons_of_mem _ hx)
    refine (h1.add h2 a0).mono ?_
    rw [List.length_cons, Nat.succ_mul]
    omega
/-- a blend of few products of small amounts, numbers to go with it -/
structure Nb (m n b : Nat) (es : List Ent) (ws cs : List Rat) : Prop where
  ge : GE m n b es
  n5 : n ≤ 5
  m8 : m ≤ 8
  b8 : b ≤ 800
  l20 : es.length ≤ 20
  oe : ∀ e ∈ es, Ov 12 20000 e.2
  lw : ws.length = m
  lc : cs.length = m
  ow : ∀ w ∈ ws, Ov 6 600000 w
  oc : ∀ c ∈ cs, Ov 6 600000 c
theorem ov_one (i : Nat) : Ov 1 1 (one i) := by
  cases i with
  | zero => exact ⟨1, by show (1 : Rat) = Rat.divInt 1 1; decide +kernel, by decide⟩
  | succ j => exact Ov.zero.mono (by decide)
theorem Nb.bq {m n b : Nat} {es : List Ent} {ws cs : List Rat} (h : Nb m n b es ws cs) (i : Nat) : Bq 300 (LV es ws cs i) := by
  have key : Ov (6 ^ n * 12) (es.length * (1200000 ^ n * 20000)) (LV es ws cs i) := by
    unfold LV
    refine ov_lin (Nat.mul_pos (Nat.pow_pos (by decide)) (by decide)) fun e he => ?_
    obtain ⟨t, ht, hh⟩ := ov_pt e.1 ws cs (M := 1) (K0 := 1) (s := one) (by decide) (h.ge.nn e he) (by rw [h.lw, h.ge.len e he]) (by rw [h.lc, h.ge.len e he]) h.ow h.oc ov_one
    rw [h.ge.sum e he] at ht
    have : t = n := by omega
    subst this
    have := hh i
    rw [Nat.one_mul, Nat.one_mul] at this
    exact this.mul (h.oe e he)
  have n5 := h.n5
  have l20 := h.l20
  have p1 : 6 ^ n ≤ 6 ^ 5 := Nat.pow_le_pow_right (by decide) n5
  have p2 : 1200000 ^ n ≤ 1200000 ^ 5 := Nat.pow_le_pow_right (by decide) n5
  refine key.bq (Nat.mul_pos (Nat.pow_pos (by decide)) (by decide)) ?_ ?_
  · exact Nat.lt_of_le_of_lt (Nat.mul_le_mul_right 12 p1) (by decide +kernel)
  · exact Nat.lt_of_le_of_lt (Nat.mul_le_mul l20 (Nat.mul_le_mul_right 20000 p2)) (by decide +kernel)
theorem subF_fr (r s : Rat) : subF (fr r) (fr s) = fr (r - s) := by
  unfold subF
  rw [low_fr (Int.mul_ne_zero (fr_ne r) (fr_ne s)), ← Rat.divInt_sub_divInt _ _ (fr_ne r) (fr_ne s), fr_val, fr_val]
theorem Bq.neg' {n : Nat} {r : Rat} (h : Bq n r) : Bq n (-r) := by
  refine ⟨?_, h.b, h.pos⟩
  show (-r.num).natAbs < _
  rw [Int.natAbs_neg]
  exact h.t
theorem Bq.sub' {m n : Nat} {r s : Rat} (h : Bq m r) (k : Bq n s) : Bq (m + n + 1) (r - s) := by
  rw [Rat.sub_eq_add_neg]
  exact h.add k.neg'
def lineX (n : Nat) (es : List Ent) (ws cs : List Rat) : List Rat := if es.isEmpty = true then [] else lineR n es ws cs
structure At (C : Addr) (m n b : Nat) (es : List Ent) (ws cs : List Rat) (xs ys : List D) : Prop where
  nb : Nb m n b es ws cs
  px : Paired (Nq C 1000) xs ws
  py : Paired (Nq C 1000) ys cs
  w0 : ∀ w ∈ ws, (0 : Rat) < w
theorem leanV_bq {m n b : Nat} {es : List Ent} {ws cs : List Rat} (h : Nb m n b es ws cs) : Bq 1300 (leanV es ws cs) := by
  have two : Bq 2 ((2 : Int) : Rat) := Bq.int (by decide) (by decide)
  have h1 := (((h.bq 0).mul (h.bq 2)).mul two).sub' ((h.bq 1).mul (h.bq 1))
  exact h1.le (by decide)
theorem num_pos' {r : Rat} : (0 < (fr r).1) ↔ 0 < r := by
  constructor
  · intro h
    refine Rat.not_le.mp fun z => ?_
    have h1 : 0 ≤ (-r).num := Rat.num_nonneg.mpr (show (0 : Rat) ≤ -r by grind)
    have h2 : (-r).num = -r.num := rfl
    have h : 0 < r.num := h
    omega
  · exact num_pos
theorem sg_dec (r : Rat) : decide (sgF (fr r) > 0) = decide (0 < r) := by
  unfold sgF
  by_cases c : 0 < (fr r).1
  · rw [if_pos c, decide_eq_true (num_pos'.mp c)]
    rfl
  · rw [if_neg c, decide_eq_false (fun z => c (num_pos'.mpr z))]
    split <;> rfl
section
variable {P : Program} {w : World} {K : PySem.W.Frag} {mg : Str → Option Value} {base : Heap} {C CB : Addr}
section
variable {X : Cx} {Q : D → Prop} {y : D} {r s : Rat}
theorem od_subQ (L : Lv X.prog X.w X.K X.mg X.base C) (SB : Sm X.prog X.w X.K X.mg X.base C "__sub__" 5 (spOp C fun p q => Ra C (subF p q))) (hr : Room 6 X.A) (hG : X.A.guards = some (gOf X)) (hx : Bq 3000 r) (hy : Bq 3000 s) (k : Q (Ra C (fr (r - s)))) : OD X (binaryOp .Sub) (Ra C (fr r)) (Ra C (fr s)) Q := by
  have r5 := hr.mono (j := 5) (by decide)
  rw [← subF_fr] at k
  exact od_oo (op := .Sub) L.V.T.nu SB r5 hG ⟨_, _, _, rfl, hx, .rat _ hy, k⟩
end
theorem sc_sub : FnScope ["self", "other", "right", "top"] ["self", "other"] (defScope (rat 7)) := ⟨rfl, rfl, rfl, by decide +kernel, rfl, by decide +kernel, by decide +kernel⟩
theorem ok_sub {f : Addr} {fd : FuncData} (F : FunS K "__sub__" "Ratio.__sub__" (rat 7) f fd) (V : Rt P w K mg base C) (G : Df P w K mg base "ratio_of" 4 1 (spRat C)) : GnOk P w K mg base 5 f fd ["self", "other"] (lift K (spOp C fun p q => Ra C (subF p q))) := by
  refine gn_dl F sc_sub (fun as Q h => by obtain ⟨_, _, _, rfl, _⟩ := h; rfl) (fun cdv A outer s H hr hG W as Q h => ?_)
  obtain ⟨p, x, q, rfl, hp, hx, k⟩ := h
  have T := V.T
  have hq := hx.bd
  have r2 := hr.mono (j := 2) (by decide)
  have nd := sc_sub.nd
  refine sds_cons (sd_set 2 nd rfl (ed_call G hr hG (ad_cons (nm 1 (ad_nil ⟨x, q, rfl, hx, ?_⟩)))))
  refine sds_cons (sd_set 3 nd rfl (ed_bin (ed_bin (fT T (nm 0 ⟨rfl, pB V r2 hG (nm 2 ⟨rfl, od_mul (cm hp.t hq.b) (ed_bin (pT V r2 hG (nm 2 ⟨rfl, fB T (nm 0 ⟨rfl, od_mul (cm hq.t hp.b) (od_sub ?_)⟩)⟩)))⟩)⟩)))))
  refine sds_cons (sd_ret (ed_makeA V.mk2 (hr.mono (by decide)) hG (ad_cons (nm 3 (ad_cons (ed_bin (fB T (nm 0 ⟨rfl, pB V r2 hG (nm 2 ⟨rfl, od_mul (cm hp.b hq.b) (ad_nil (mk_ok (n := 6001) (mul_ne hp.ne hq.ne) (sub_bd (mul_bd hp.t hq.b) (mul_bd hq.t hp.b)) (bd_mono (mul_bd hp.b hq.b) (by decide)) (by decide) ?_))⟩)⟩))))))))
  exact k
/-! a direction -/
abbrev spCkd (C : Addr) : SpD := fun as Q => ∃ wd, ∃ m : Nat, ∃ xs ws, as = [.val wd, .val (.int (m : Int))] ∧ SeqD wd xs ∧ Paired (Nq C 1000) xs ws ∧ ws.length = m ∧ m ≤ 8 ∧ Q .non
theorem sc_ckd : FnScope ["direction", "many"] ["direction", "many"] (defScope (top 41)) := ⟨rfl, rfl, rfl, by decide +kernel, rfl, by decide +kernel, by decide +kernel⟩
theorem ok_ckd {f : Addr} {fd : FuncData} (F : FunS K "check_direction" "check_direction" (top 41) f fd) (NU : Df P w K mg base "is_numbers" 3 2 (spNums C)) : GnOk P w K mg base 4 f fd ["direction", "many"] (lift K (spCkd C)) := by
  refine gn_dl F sc_ckd (fun as Q h => by obtain ⟨_, _, _, _, rfl, _⟩ := h; rfl) (fun cdv A outer s H hr hG W as Q h => ?_)
  obtain ⟨wd, m, xs, ws, rfl, sd, pe, lw, m8, q⟩ := h
  refine sds_cons (sd_if (td_not (td_val (ed_call NU (hr.mono (j := 3) (by decide)) hG (ad_cons (nm 0 (ad_cons (nm 1 (ad_nil ⟨wd, m, xs, ws, rfl, sd, pe, lw, m8, kB ?_⟩)))))))))
  show SDs _ _ _ _ _ _
  exact sds_nil (sds_nil q)
/-! along -/
abbrev spAl (C CB : Addr) (g : Nat → List Ent → List Rat → List Rat → D) : SpD := fun as Q => ∃ z, ∃ m n b : Nat, ∃ es wd cd xs ys ws cs, as = [.val (Bo C CB z n es), .val wd, .val cd] ∧ LetZ z ∧ z.length = m ∧ SeqD wd xs ∧ SeqD cd ys ∧ At C m n b es ws cs xs ys ∧ Q (g n es ws cs)
abbrev ND3 : List Str := ["blend", "weights", "direction"]
theorem sc_along : FnScope ND3 ND3 (defScope (top 48)) := ⟨rfl, rfl, rfl, by decide +kernel, rfl, by decide +kernel, by decide +kernel⟩
theorem ok_along {f : Addr} {fd : FuncData} (F : FunS K "along" "along" (top 48) f fd) (V : Bt P w K mg base C CB) (CW : Df P w K mg base "check_weights" 6 2 (spCkw C)) (CD' : Df P w K mg base "check_direction" 4 2 (spCkd C)) (LI : Df P w K mg base "line_of" 8 3 (spLine C CB)) : GnOk P w K mg base 9 f fd ND3 (lift K (spAl C CB fun n es ws cs => .lst ((lineX n es ws cs).map (RF C)))) := by
  refine gn_dl F sc_along (fun as Q h => by obtain ⟨_, _, _, _, _, _, _, _, _, _, _, rfl, _⟩ := h; rfl) (fun cdv A outer s H hr hG W as Q h => ?_)
  obtain ⟨z, m, n, b, es, wd, cd, xs, ys, ws, cs, rfl, hz, hm, sw, sc, o, q⟩ := h
  have T := V.T
  have hl : ((SX.S z).length : Int) = (m : Int) := by rw [SX.S_len, hm]
  have m8 := o.nb.m8
  have n5 := o.nb.n5
  have p1 : 6 ^ n ≤ 6 ^ 5 := Nat.pow_le_pow_right (by decide) n5
  have p2 : 1200001 ^ n ≤ 1200001 ^ 5 := Nat.pow_le_pow_right (by decide) n5
  refine sds_cons (sd_expr (ed_call V.ck (hr.mono (j := 1) (by decide)) hG (ad_cons (nm 0 (ad_nil ⟨z, n, es, rfl, ?_⟩)))))
  refine sds_cons (sd_expr (ed_call CW (hr.mono (j := 6) (by decide)) hG (ad_cons (nm 1 (ad_cons (ed_callB T.T.len (ad_cons (pL V (hr.mono (j := 2) (by decide)) hG (nm 0 ⟨rfl, ad_nil (cd_lenS (z := SX.S z) (by rw [SX.S_len]; omega) (ad_nil ⟨wd, m, xs, ws, by rw [hl], sw, o.px, o.nb.lw, m8, o.w0, ?_⟩))⟩)))))))))
  refine sds_cons (sd_expr (ed_call CD' (hr.mono (j := 4) (by decide)) hG (ad_cons (nm 2 (ad_cons (ed_callB T.T.len (ad_cons (pL V (hr.mono (j := 2) (by decide)) hG (nm 0 ⟨rfl, ad_nil (cd_lenS (z := SX.S z) (by rw [SX.S_len]; omega) (ad_nil ⟨cd, m, ys, cs, by rw [hl], sc, o.py, o.nb.lc, m8, ?_⟩))⟩)))))))))
  refine sds_cons (sd_ret (ed_call LI hr hG (ad_cons (nm 0 (ad_cons (nm 1 (ad_cons (nm 2 (ad_nil ⟨z, m, n, b, es, wd, cd, xs, ys, ws, cs, 12, 6, 20000, 600000, rfl, sw, sc, o.px, o.py, o.nb.lw, o.nb.lc, by omega, m8, o.nb.ge, o.nb.oe, o.nb.ow, o.nb.oc, by decide, by decide, ?_, ?_, q⟩)))))))))
  · exact Nat.lt_of_le_of_lt (Nat.mul_le_mul_left 12 p1) (by decide +kernel)
  · exact Nat.lt_of_le_of_lt (Nat.mul_le_mul_left 201 (Nat.mul_le_mul_left 20000 p2)) (by decide +kernel)
theorem co_x {C : Addr} {m n b : Nat} {es : List Ent} {ws cs : List Rat} {xs ys : List D} (o : At C m n b es ws cs xs ys) (i : Nat) : (lineX n es ws cs).getD i 0 = LV es ws cs i := co_line o.nb.ge o.nb.lw o.nb.lc i
theorem sc_slope : FnScope ND3 ND3 (defScope (top 44)) := ⟨rfl, rfl, rfl, by decide +kernel, rfl, by decide +kernel, by decide +kernel⟩
theorem ok_slope {f : Addr} {fd : FuncData} (F : FunS K "slope" "slope" (top 44) f fd) (TE : Df P w K mg base "_term" 4 2 (spTerm C)) (AL : Df P w K mg base "along" 9 3 (spAl C CB fun n es ws cs => .lst ((lineX n es ws cs).map (RF C)))) : GnOk P w K mg base 10 f fd ND3 (lift K (spAl C CB fun n es ws cs => RF C (LV es ws cs 1))) := by
  refine gn_dl F sc_slope (fun as Q h => by obtain ⟨_, _, _, _, _, _, _, _, _, _, _, rfl, _⟩ := h; rfl) (fun cdv A outer s H hr hG W as Q h => ?_)
  obtain ⟨z, m, n, b, es, wd, cd, xs, ys, ws, cs, rfl, hz, hm, sw, sc, o, q⟩ := h
  refine sds_cons (sd_ret (ed_call TE (hr.mono (j := 4) (by decide)) hG (ad_cons (ed_call AL (hr.mono (j := 9) (by decide)) hG (ad_cons (nm 0 (ad_cons (nm 1 (ad_cons (nm 2 (ad_nil ⟨z, m, n, b, es, wd, cd, xs, ys, ws, cs, rfl, hz, hm, sw, sc, o, ad_cons (ed_int (ad_nil ⟨_, 1, rfl, ?_⟩))⟩)))))))))))
  rw [co_x o]
  exact q
theorem sc_bend : FnScope ND3 ND3 (defScope (top 45)) := ⟨rfl, rfl, rfl, by decide +kernel, rfl, by decide +kernel, by decide +kernel⟩
theorem ok_bend {f : Addr} {fd : FuncData} (F : FunS K "bend" "bend" (top 45) f fd) (L : Lv P w K mg base C) (TE : Df P w K mg base "_term" 4 2 (spTerm C)) (AL : Df P w K mg base "along" 9 3 (spAl C CB fun n es ws cs => .lst ((lineX n es ws cs).map (RF C)))) : GnOk P w K mg base 10 f fd ND3 (lift K (spAl C CB fun n es ws cs => RF C (LV es ws cs 2 * 2))) := by
  refine gn_dl F sc_bend (fun as Q h => by obtain ⟨_, _, _, _, _, _, _, _, _, _, _, rfl, _⟩ := h; rfl) (fun cdv A outer s H hr hG W as Q h => ?_)
  obtain ⟨z, m, n, b, es, wd, cd, xs, ys, ws, cs, rfl, hz, hm, sw, sc, o, q⟩ := h
  have two : Bq 3000 ((2 : Int) : Rat) := Bq.int (by decide +kernel) (by decide)
  refine sds_cons (sd_ret (ed_bin (ed_call TE (hr.mono (j := 4) (by decide)) hG (ad_cons (ed_call AL (hr.mono (j := 9) (by decide)) hG (ad_cons (nm 0 (ad_cons (nm 1 (ad_cons (nm 2 (ad_nil ⟨z, m, n, b, es, wd, cd, xs, ys, ws, cs, rfl, hz, hm, sw, sc, o, ad_cons (ed_int (ad_nil ⟨_, 2, rfl, ed_int ?_⟩))⟩))))))))))))
  rw [co_x o]
  exact od_mulR L (hr.mono (j := 6) (by decide)) hG ((o.nb.bq 2).le (by decide)) (.int 2 two) q
abbrev NLe : List Str := ["blend", "weights", "direction", "line", "first"]
theorem sc_lean : FnScope NLe ND3 (defScope (top 46)) := ⟨rfl, rfl, rfl, by decide +kernel, rfl, by decide +kernel, by decide +kernel⟩
theorem ok_lean {f : Addr} {fd : FuncData} (F : FunS K "lean" "lean" (top 46) f fd) (L : Lv P w K mg base C) (SB : Sm P w K mg base C "__sub__" 5 (spOp C fun p q => Ra C (subF p q))) (TE : Df P w K mg base "_term" 4 2 (spTerm C)) (AL : Df P w K mg base "along" 9 3 (spAl C CB fun n es ws cs => .lst ((lineX n es ws cs).map (RF C)))) : GnOk P w K mg base 10 f fd ND3 (lift K (spAl C CB fun n es ws cs => RF C (leanV es ws cs))) := by
  refine gn_dl F sc_lean (fun as Q h => by obtain ⟨_, _, _, _, _, _, _, _, _, _, _, rfl, _⟩ := h; rfl) (fun cdv A outer s H hr hG W as Q h => ?_)
  obtain ⟨z, m, n, b, es, wd, cd, xs, ys, ws, cs, rfl, hz, hm, sw, sc, o, q⟩ := h
  have nd := sc_lean.nd
  have two : Bq 2 ((2 : Int) : Rat) := Bq.int (by decide) (by decide)
  have b0 := o.nb.bq 0
  have b1 := o.nb.bq 1
  have b2 := o.nb.bq 2
  refine sds_cons (sd_set 3 nd rfl (ed_call AL (hr.mono (j := 9) (by decide)) hG (ad_cons (nm 0 (ad_cons (nm 1 (ad_cons (nm 2 (ad_nil ⟨z, m, n, b, es, wd, cd, xs, ys, ws, cs, rfl, hz, hm, sw, sc, o, ?_⟩)))))))))
  refine sds_cons (sd_set 4 nd rfl (ed_call TE (hr.mono (j := 4) (by decide)) hG (ad_cons (nm 3 (ad_cons (ed_int (ad_nil ⟨_, 1, rfl, ?_⟩)))))))
  rw [co_x o]
  refine sds_cons (sd_ret (ed_bin (ed_bin (ed_bin (ed_call TE (hr.mono (j := 4) (by decide)) hG (ad_cons (nm 3 (ad_cons (ed_int (ad_nil ⟨_, 0, rfl, ?_⟩))))))))))
  rw [co_x o]
  refine ed_call TE (hr.mono (j := 4) (by decide)) hG (ad_cons (nm 3 (ad_cons (ed_int (ad_nil ⟨_, 2, rfl, ?_⟩)))))
  rw [co_x o]
  refine od_mulR L (hr.mono (j := 6) (by decide)) hG (b0.le (by decide)) (.rat _ (b2.le (by decide))) (ed_int (od_mulR L (hr.mono (j := 6) (by decide)) hG ((b0.mul b2).le (by decide)) (.int 2 (two.le (by decide))) ?_))
  refine ed_bin (nm 4 (nm 4 (od_mulR L (hr.mono (j := 6) (by decide)) hG (b1.le (by decide)) (.rat _ (b1.le (by decide))) ?_)))
  exact od_subQ L SB (hr.mono (j := 6) (by decide)) hG (((b0.mul b2).mul two).le (by decide)) ((b1.mul b1).le (by decide)) q
theorem sc_bup : FnScope ND3 ND3 (defScope (top 47)) := ⟨rfl, rfl, rfl, by decide +kernel, rfl, by decide +kernel, by decide +kernel⟩
theorem ok_bup {f : Addr} {fd : FuncData} (F : FunS K "bends_up" "bends_up" (top 47) f fd) (L : Lv P w K mg base C) (LE : Df P w K mg base "lean" 10 3 (spAl C CB fun n es ws cs => RF C (leanV es ws cs))) : GnOk P w K mg base 11 f fd ND3 (lift K (spAl C CB fun n es ws cs => .bl (decide (0 < leanV es ws cs)))) := by
  refine gn_dl F sc_bup (fun as Q h => by obtain ⟨_, _, _, _, _, _, _, _, _, _, _, rfl, _⟩ := h; rfl) (fun cdv A outer s H hr hG W as Q h => ?_)
  obtain ⟨z, m, n, b, es, wd, cd, xs, ys, ws, cs, rfl, hz, hm, sw, sc, o, q⟩ := h
  refine sds_cons (sd_ret (ed_cmp (pS L.V.T L.sign (hr.mono (j := 2) (by decide)) hG (ed_call LE (hr.mono (j := 10) (by decide)) hG (ad_cons (nm 0 (ad_cons (nm 1 (ad_cons (nm 2 (ad_nil ⟨z, m, n, b, es, wd, cd, xs, ys, ws, cs, rfl, hz, hm, sw, sc, o, rfl, ed_int (od_gt ?_)⟩)))))))))))
  have e := sg_dec (leanV es ws cs)
  have q : Q (.bl (decide (0 < leanV es ws cs))) := q
  rw [← e] at q
  exact q
end
end K15

set_option Elab.async false
set_option linter.all false
set_option maxRecDepth 100000
set_option maxHeartbeats 2000000
/-! a list the other way round: xs[::-1] -/
namespace L2
open PySem PySem.Spec PyProof.Rows
def tRev (K : PySem.W.Frag) (te ts : TE) : TE := fun σ H Q => te σ H fun x H1 => ts σ H1 fun y H2 => ∃ a xs, x = .ref a ∧ SqL K H2 a xs ∧ y = .int (-1) ∧ ∀ p, H2 p = none → Q (.ref p) (upd H2 p (.lst xs.reverse))
theorem pe_rev {X : Cx} {e st : Expr} {te ts : TE} {pos p2 : Pos} (he : PE X e te) (hs : PE X st ts) : PE X (.Subscript e (.Slice none none (some st) p2) pos) (tRev X.K te ts) := by
  refine ⟨fun pins s σ H Q I h => ?_⟩
  refine Subscript_ (thn (he.run pins s σ H _ I h) fun v s1 ⟨x, H1, I1, r1, q1⟩ => ?_)
  refine wpAny_Slice ?_
  rw [evalPart_none]
  refine wpAny_pure ?_
  rw [evalPart_some]
  refine wpAny_pure ?_
  refine thn (hs.run pins s1 σ H1 _ I1 q1) fun vs s2 ⟨y, H2, I2, r2, q2⟩ => ?_
  obtain ⟨a, xs, rfl, hx, rfl, q⟩ := q2
  obtain ⟨t, rfl⟩ := r2
  cases r1
  have I4 : Inv X pins σ H2 { s2 with heap := s2.heap.push { cls := .type "slice", data := .fields #[.none, .none, .int (-1) t] } } := I2.kept (t' := s2.toks) fun b ob q => Heap.get?_push_of_some _ q
  obtain ⟨its, r, ht, hz⟩ := I4.list hx
  have hlen := r.length
  have hg : wpAny (model X.prog X.w) X.A (getItem (.ref a) (.ref s2.heap.objs.size)) (EP X pins σ Q) X.xe { s2 with heap := s2.heap.push { cls := .type "slice", data := .fields #[.none, .none, .int (-1) t] } } := by
    refine wpAny_getItem_list_slice ht.isList (Heap.IsSliceOf.new ..) .none .none (.int (-1) t) (by decide) ?_ (by rw [List.size_toArray] <;> omega)
    rw [PySem.W.krv_pick]
    refine ⟨.ref _, _, I4.laid (t' := s2.toks) (o := .lst xs.reverse) (fun b ob q => Heap.get?_push_of_some _ q) (Nat.le_refl _) ?_, rfl, q _ (I4.hok.fresh (Nat.le_refl _))⟩
    refine ⟨by rw [List.length_reverse]; exact hz, _, 0, r.reverse, Heap.get?_push_size _ rfl⟩
  show wpAny (model X.prog X.w) X.A (subscriptTail e (.Slice none none (some st) p2) (.ref a) (.ref s2.heap.objs.size)) (EP X pins σ Q) X.xe { s2 with heap := s2.heap.push { cls := .type "slice", data := .fields #[.none, .none, .int (-1) t] } }
  first
    | exact tail_any (ops := [.ref s2.heap.objs.size, .ref a]) ht.isList.typeIs slot_list_getitem.lookup hg (by with_unfolding_all rfl)
    | exact tail_any (ops := [.ref a, .ref s2.heap.objs.size]) ht.isList.typeIs slot_list_getitem.lookup hg (by with_unfolding_all rfl)
end L2
namespace DL
open PySem PySem.Spec PyProof.Rows L2
theorem dns_reverse {K : PySem.W.Frag} {I : Hp} : ∀ {l : List D} {xs : List V}, Dns K I l xs → Dns K I l.reverse xs.reverse
  | _, _, .nil => .nil
  | _, _, .cons h r => by
    rw [List.reverse_cons, List.reverse_cons]
    exact (dns_reverse r).append (.cons h .nil)
section
variable {X : Cx} {B : Hp} {S : En} {pos p2 : Pos} {Q : D → Prop} {e st : Expr}
theorem ed_rev (h : ED X B S e fun d => ED X B S st fun y => ∃ l, d = .lst l ∧ y = .int (-1) ∧ Q (.lst l.reverse)) : ED X B S (.Subscript e (.Slice none none (some st) p2) pos) Q := fun σ W H r R k => by
  refine PE.w (L2.pe_rev we_pe we_pe) ?_
  refine h σ W H r _ fun d v W1 H1 s1 ok1 n1 q1 => ?_
  show WE X st σ H1 _
  refine q1 σ W1 H1 (r.step s1 ok1) _ fun d2 u W2 H2 s2 ok2 n2 q2 => ?_
  obtain ⟨l, rfl, rfl, q2⟩ := q2
  cases n2
  have k2 := (k.step s1 ok1).step s2 ok2
  cases n1.mono s2.I with
  | @lst _ a xs ha m =>
    refine ⟨a, xs, rfl, SqL.of (ok2.ex _ _ ha), rfl, fun p hp => ?_⟩
    have st := Stp.new (o := .lst xs.reverse) ok2 hp
    exact k2 (.lst l.reverse) (.ref p) _ _ st (ok2.new hp) (.lst (show upd W2.I p _ p = _ from upd_same) ((dns_reverse m).mono st.I)) q2
end
end DL

set_option Elab.async false
set_option linter.all false
set_option maxRecDepth 100000
set_option maxHeartbeats 8000000
/-! k15: the law's own sums; directions; numbers moved and added up -/
namespace K15
open PySem L2 DL
theorem prq_inj {x y : Rat} (h : prq x = prq y) : x = y := by
  have h1 : (fr x).1 = (fr y).1 ∧ (fr x).2 = (fr y).2 := by simpa [prq, pr] using h
  rw [← fr_val x, ← fr_val y, h1.1, h1.2]
theorem sub_add (p q : Fr) : addF p (0 - q.1, q.2) = subF p q := by
  show low (p.1 * q.2 + (0 - q.1) * p.2) _ = low (p.1 * q.2 - q.1 * p.2) _
  rw [Int.zero_sub, Int.neg_mul]
  rfl
theorem Bd.neg {n : Nat} {p : Fr} (h : Bd n p) : Bd n (0 - p.1, p.2) := ⟨by show (0 - p.1).natAbs < _; rw [Int.zero_sub, Int.natAbs_neg]; exact h.t, h.b, h.pos⟩
theorem outs_rat {G : Rat → Prop} : ∀ {out : List D}, (∀ y ∈ out, ∃ r, y = prq r ∧ G r) → ∃ cs : List Rat, out = cs.map prq ∧ ∀ c ∈ cs, G c
  | [], _ => ⟨[], rfl, nofun⟩
  | y :: out, h => by
    obtain ⟨r, rfl, g⟩ := h y (List.mem_cons_self ..)
    obtain ⟨cs, rfl, gs⟩ := outs_rat fun x hx => h x (List.mem_cons_of_mem _ hx)
    refine ⟨r :: cs, rfl, fun c hc => ?_⟩
    rcases List.mem_cons.mp hc with rfl | z
    · exact g
    · exact gs c z
theorem outs_mem {G : D → Prop} {n : Nat} {out : List D} (h : Outs (fun _ y => G y) n out) : ∀ y ∈ out, G y := fun y hy => by
  obtain ⟨i, hi, e⟩ := List.getElem_of_mem hy
  obtain ⟨z, hz, g⟩ := h.2 i (by rw [← h.1]; exact hi)
  rw [List.getElem?_eq_getElem hi, e] at hz
  cases hz
  exact g
theorem zip_outG {f : Rat → Rat → Rat} {g : Rat → D} {a b : List Rat} {out : List D} (hl : a.length = b.length) (lo : out.length = a.length) (h : ∀ (n : Nat) (x y : Rat) z, a[n]? = some x → b[n]? = some y → out[n]? = some z → z = g (f x y)) : out = (List.zipWith f a b).map g := by
  refine List.ext_getElem? fun i => ?_
  rw [List.getElem?_map, List.getElem?_zipWith]
  by_cases c : i < a.length
  · have a1 : a[i]? = some a[i] := List.getElem?_eq_getElem c
    have a2 : b[i]? = some (b[i]'(hl ▸ c)) := List.getElem?_eq_getElem (hl ▸ c)
    have a3 : out[i]? = some (out[i]'(lo ▸ c)) := List.getElem?_eq_getElem (lo ▸ c)
    rw [a1, a2, a3, h i _ _ _ a1 a2 a3]
    rfl
  · rw [List.getElem?_eq_none (by omega), List.getElem?_eq_none (l := a) (by omega)]
    rfl
def hv (l : List Rat) (x : Rat) : Rat := l.foldl (fun f a => f * x + a) 0
theorem ev_hv (l : List Rat) (x : Rat) : ev l x = hv l.reverse x := by
  unfold ev hv
  rw [List.foldl_reverse]
theorem hv_snoc {l : List Rat} {x a : Rat} {i : Nat} (h : l[i]? = some a) : hv (l.take (i + 1)) x = hv (l.take i) x * x + a := by
  unfold hv
  rw [List.take_add_one, h, List.foldl_append]
  rfl
theorem tot_snoc {l : List Rat} {a : Rat} {i : Nat} (h : l[i]? = some a) : tot (l.take (i + 1)) = tot (l.take i) + a := by
  unfold tot
  rw [List.take_add_one, h, List.foldl_append]
  rfl
theorem bq_0 : Bq 1 (0 : Rat) := Bq.int (i := 0) (by decide) (by decide)
section
variable {P : Program} {w : World} {K : PySem.W.Frag} {mg : Str → Option Value} {base : Heap} {C CB : Addr}
theorem sc_less : FnScope ["_law_one", "_law_other"] ["_law_one", "_law_other"] (defScope (top 63)) := ⟨rfl, rfl, rfl, by decide +kernel, rfl, by decide +kernel, by decide +kernel⟩
theorem ok_less {f : Addr} {fd : FuncData} (F : FunS K "_law_less" "_law_less" (top 63) f fd) (G : Df P w K mg base "_law_sum" 2 2 (spFF addF)) : GnOk P w K mg base 3 f fd ["_law_one", "_law_other"] (lift K (spFF subF)) := by
  refine gn_dl F sc_less (fun as Q h => by obtain ⟨_, _, rfl, _⟩ := h; rfl) (fun cdv A outer s H hr hG W as Q h => ?_)
  obtain ⟨p, q, rfl, hp, hq, k⟩ := h
  rw [← sub_add] at k
  refine sds_cons (sd_ret (ed_call G (hr.mono (j := 2) (by decide)) hG (ad_cons (nm 0 (ad_cons (ed_tup (ad_cons (ed_bin (ed_int (i0 (nm 1 ⟨rfl, od_sub (ad_cons (i1 (nm 1 ⟨rfl, ad_nil ⟨[.int (0 - q.1), .int q.2], rfl, by simp, ad_nil ⟨p, (0 - q.1, q.2), rfl, hp, hq.neg, k⟩⟩⟩)))⟩)))))))))))
abbrev spTot : SpD := fun as Q => ∃ l : List Rat, as = [.val (.lst (l.map prq))] ∧ l.length ≤ 8 ∧ (∀ r ∈ l, Bq 330 r) ∧ Q (prq (tot l))
theorem sc_tot : FnScope ["_law_pairs_here", "_law_found", "_law_pair_here"] ["_law_pairs_here"] (defScope (top 64)) := ⟨rfl, rfl, rfl, by decide +kernel, rfl, by decide +kernel, by decide +kernel⟩
theorem ok_tot {f : Addr} {fd : FuncData} (F : FunS K "_law_total" "_law_total" (top 64) f fd) (SU : Df P w K mg base "_law_sum" 2 2 (spFF addF)) : GnOk P w K mg base 3 f fd ["_law_pairs_here"] (lift K spTot) := by
  refine gn_dl F sc_tot (fun as Q h => by obtain ⟨_, rfl, _⟩ := h; rfl) (fun cdv A outer s H hr hG W as Q h => ?_)
  obtain ⟨l, rfl, l8, bq, q⟩ := h
  have nd := sc_tot.nd
  have p1 : prq ((0 : Nat) : Rat) = .tup [.int 0, .int 1] := rfl
  refine sds_cons (sd_set 1 nd rfl (ed_tup (ad_cons (ed_int (ad_cons (ed_int (ad_nil ⟨[.int 0, .int 1], rfl, by simp, ?_⟩)))))))
  rw [← p1]
  refine sds_cons (sd_forL (l := l.map prq) PassesOwn.never rfl (fun i S' => ∃ o2, Bq (332 * i + 1) (tot (l.take i)) ∧ S' = [some (.val (.lst (l.map prq))), some (.val (prq (tot (l.take i)))), o2]) (nm 0 ⟨rfl, none, bq_0, rfl⟩) ?_ ?_)
  · rintro i d S' hi ⟨o2, b, rfl⟩
    rw [List.getElem?_map] at hi
    obtain ⟨r, hr', rfl⟩ := Option.map_eq_some_iff.mp hi
    have li : i < l.length := (List.getElem?_eq_some_iff.mp hr').1
    have br := bq r (List.mem_of_getElem? hr')
    refine gd_name 2 nd rfl ?_
    refine sds_cons (sd_set 1 nd rfl (ed_call SU (hr.mono (j := 2) (by decide)) hG (ad_cons (nm 1 (ad_cons (nm 2 (ad_nil ⟨_, _, rfl, b.le (by omega), br.le (by decide), ?_⟩)))))))
    rw [addF_fr, ← tot_snoc hr']
    refine sds_nil ⟨_, ?_, rfl⟩
    rw [tot_snoc hr']
    exact (b.add br).le (by omega)
  · rintro S' ⟨o2, b, rfl⟩
    rw [List.length_map, List.take_length]
    exact sds_cons (sd_ret (nm 1 q))
abbrev spPairs (C : Addr) : SpD := fun as Q => ∃ l : List Rat, as = [.val (.lst (l.map (RF C)))] ∧ l.length ≤ 100 ∧ Q (.lst (l.map prq))
theorem sc_pairs : FnScope ["_law_value", "_law_one"] ["_law_value"] (defScope (top 67)) := ⟨rfl, rfl, rfl, by decide +kernel, rfl, by decide +kernel, by decide +kernel⟩
theorem ok_pairs {f : Addr} {fd : FuncData} (F : FunS K "_law_pairs" "_law_pairs" (top 67) f fd) (T : Txt K mg C) (PR : Df P w K mg base "_law_pair" 3 1 (spPair C)) : GnOk P w K mg base 4 f fd ["_law_value"] (lift K (spPairs C)) := by
  refine gn_dl F sc_pairs (fun as Q h => by obtain ⟨_, rfl, _⟩ := h; rfl) (fun cdv A outer s H hr hG W as Q h => ?_)
  obtain ⟨l, rfl, l8, q⟩ := h
  have nd := sc_pairs.nd
  refine sds_cons (sd_ret (ed_ifx (td_val (ed_callB T.isi (ad_cons (nm 0 (ad_cons (ed_ty T.list (ad_nil (cd_isi (.lst _) (.ty _) (same (by decide +kernel)) (kB ?_)))))))))))
  refine ed_fd (fd_mp (f := RF C) (u := prq) (l := l) 1 rfl nd (own := [("_law_one", 1)]) (blkOk_by (by show blkC ["_law_value", "_law_one"] (defScope (top 67)) _ _ = true; decide +kernel)) (fun _ _ _ _ _ => pg_name (i := 1) nd rfl (Or.inl rfl)) (by simp) (by omega) (.inl rfl) (nm 0 rfl) ?_ q)
  intro r hr' s2 H0 C2 cl fp
  exact ed_call PR (hr.mono (j := 3) (by decide)) hG (ad_cons (nm 1 (ad_nil ⟨r, rfl, rfl⟩)))
abbrev spDir : SpD := fun as Q => ∃ m : Nat, as = [.pot, .val (.int (m : Int))] ∧ m ≤ 8 ∧ ∀ cs : List Rat, cs.length = m → (∀ c ∈ cs, Bq 20 c ∧ Ov 6 36 c) → Q (.lst (cs.map prq))
theorem sc_dir : FnScope ["_law_pot_here", "_law_many", "_law_at"] ["_law_pot_here", "_law_many"] (defScope (top 76)) := ⟨rfl, rfl, rfl, by decide +kernel, rfl, by decide +kernel, by decide +kernel⟩
theorem ok_dir {f : Addr} {fd : FuncData} (F : FunS K "_law_direction" "_law_direction" (top 76) f fd) (T : Txt K mg C) (DR : Df P w K mg base "_law_draw" 1 2 spDraw) (LO : Df P w K mg base "_law_low" 1 2 spLow) : GnOk P w K mg base 3 f fd ["_law_pot_here", "_law_many"] (lift K spDir) := by
  refine gn_dl F sc_dir (fun as Q h => by obtain ⟨_, rfl, _⟩ := h; rfl) (fun cdv A outer s H hr hG W as Q h => ?_)
  obtain ⟨m, rfl, m8, q⟩ := h
  have nd := sc_dir.nd
  refine sds_cons (sd_ret (ed_fd (fd_relR (n := m) (fun _ y => ∃ r : Rat, y = prq r ∧ (Bq 20 r ∧ Ov 6 36 r)) 2 (own := [("_law_at", 2)]) rfl nd T.range (blkOk_by (by show blkC ["_law_pot_here", "_law_many", "_law_at"] (defScope (top 76)) _ _ = true; decide +kernel)) (fun _ _ _ _ _ => pg_name (i := 2) nd rfl (Or.inl rfl)) (by omega) (ad_cons (nm 1 (ad_nil rfl))) (by simp) ?_ ?_)))
  · intro i hi s2 H0 C2 cl fp
    refine ed_call LO (hr.mono (j := 1) (by decide)) hG (ad_cons (ed_bin (ed_call DR (hr.mono (j := 1) (by decide)) hG (ad_pot 0 rfl rfl (ad_cons (ed_int (ad_nil ⟨13, rfl, by decide, by decide, fun d hd => ed_int (od_sub ?_)⟩)))))))
    refine ad_cons (ed_bin (ed_int (ed_call DR (hr.mono (j := 1) (by decide)) hG (ad_pot 0 rfl rfl (ad_cons (ed_int (ad_nil ⟨3, rfl, by decide, by decide, fun d3 hd3 => od_add ?_⟩)))))))
    have b0 : (1 : Int) + (d3 : Int) ≠ 0 := by omega
    refine ad_nil (lowArg (n := 20) b0 (by show _ < 1048576; omega) (by show _ < 1048576; omega) (by decide) ?_)
    have lb := low_bd (t := (d : Int) - 6) (n := 20) b0 (by show _ < 1048576; omega) (by show _ < 1048576; omega)
    rw [low_fr b0] at lb ⊢
    refine ⟨_, rfl, lb, ?_⟩
    have : (1 : Int) + (d3 : Int) = 1 ∨ (1 : Int) + (d3 : Int) = 2 ∨ (1 : Int) + (d3 : Int) = 3 := by omega
    rcases this with e | e | e <;> rw [e]
    · exact .of (c := 6) (by decide) rfl (by omega)
    · exact .of (c := 3) (by decide) rfl (by omega)
    · exact .of (c := 2) (by decide) rfl (by omega)
  · intro out ho
    obtain ⟨cs, rfl, hc⟩ := outs_rat (outs_mem ho)
    have := ho.1
    rw [List.length_map] at this
    exact q cs this hc
abbrev spMv : SpD := fun as Q => ∃ ws cs : List Rat, ∃ x : Rat, as = [.val (.lst (ws.map prq)), .val (.lst (cs.map prq)), .val (prq x)] ∧ ws.length = cs.length ∧ ws.length ≤ 8 ∧ (∀ w ∈ ws, Bq 1000 w) ∧ (∀ c ∈ cs, Bq 1000 c) ∧ Bq 1000 x ∧ Q (.lst ((mv ws cs x).map prq))
abbrev NMv : List Str := ["_law_weights_here", "_law_direction_here", "_law_step", "_law_one", "_law_two"]
theorem sc_mv : FnScope NMv ["_law_weights_here", "_law_direction_here", "_law_step"] (defScope (top 78)) := ⟨rfl, rfl, rfl, by decide +kernel, rfl, by decide +kernel, by decide +kernel⟩
theorem ok_mv {f : Addr} {fd : FuncData} (F : FunS K "_law_moved" "_law_moved" (top 78) f fd) (T : Txt K mg C) (SU : Df P w K mg base "_law_sum" 2 2 (spFF addF)) (BY : Df P w K mg base "_law_by" 2 2 (spFF mulF)) : GnOk P w K mg base 3 f fd ["_law_weights_here", "_law_direction_here", "_law_step"] (lift K spMv) := by
  refine gn_dl F sc_mv (fun as Q h => by obtain ⟨_, _, _, rfl, _⟩ := h; rfl) (fun cdv A outer s H hr hG W as Q h => ?_)
  obtain ⟨ws, cs, x, rfl, hl, l8, bw, bc, bx, q⟩ := h
  have nd := sc_mv.nd
  refine sds_cons (sd_ret (ed_fd (fd_relZ (l := ws.map prq) (l' := cs.map prq) (fun a b y => ∀ u v, a = prq u → b = prq v → y = prq (u + x * v)) 3 4 (own := [("_law_one", 3), ("_law_two", 4)]) rfl nd T.zip (blkOk_by (by show blkC NMv (defScope (top 78)) _ _ = true; decide +kernel)) (fun _ _ _ _ _ => pg_tup rfl (pgs_cons (pg_name (i := 3) nd rfl (Or.inl rfl)) (pgs_cons (pg_name (i := 4) nd rfl (Or.inl rfl)) pgs_nil rfl) rfl)) (by rw [List.length_map, List.length_map, hl]) (by rw [List.length_map]; omega) (.inl rfl) (.inl rfl) (ad_cons (nm 0 (ad_cons (nm 1 (ad_nil rfl))))) (by simp) (by simp) ?_ ?_)))
  · intro n' a b ha hb s2 H0 C2 cl fp
    obtain ⟨u, hu, rfl⟩ := List.mem_map.mp (List.mem_of_getElem? ha)
    obtain ⟨v, hv', rfl⟩ := List.mem_map.mp (List.mem_of_getElem? hb)
    refine ed_call SU (hr.mono (j := 2) (by decide)) hG (ad_cons (nm 3 (ad_cons (ed_call BY (hr.mono (j := 2) (by decide)) hG (ad_cons (nm 2 (ad_cons (nm 4 (ad_nil ⟨_, _, rfl, bx.le (by decide), (bc v hv').le (by decide), ?_⟩)))))))))
    rw [mulF_fr]
    refine ad_nil ⟨_, _, rfl, (bw u hu).le (by decide), (bx.mul (bc v hv')).le (by decide), ?_⟩
    rw [addF_fr]
    intro u' v' h1 h2
    rw [prq_inj h1, prq_inj h2]
  · intro out lo ho
    rw [List.length_map] at lo
    have eo := zip_outG (f := fun u v => u + x * v) (g := prq) (a := ws) (b := cs) hl lo fun n u v z h1 h2 h3 => ho n (prq u) (prq v) z (by rw [List.getElem?_map, h1]; rfl) (by rw [List.getElem?_map, h2]; rfl) h3 u v rfl rfl
    rw [eo]
    exact q
abbrev spAup : SpD := fun as Q => ∃ l : List Rat, ∃ x : Rat, as = [.val (.lst (l.map prq)), .val (prq x)] ∧ l.length ≤ 8 ∧ (∀ r ∈ l, Bq 300 r) ∧ Bq 20 x ∧ Q (prq (ev l x))
abbrev NAu : List Str := ["_law_pairs_here", "_law_step", "_law_found", "_law_pair_here"]
theorem sc_aup : FnScope NAu ["_law_pairs_here", "_law_step"] (defScope (top 79)) := ⟨rfl, rfl, rfl, by decide +kernel, rfl, by decide +kernel, by decide +kernel⟩
theorem ok_aup {f : Addr} {fd : FuncData} (F : FunS K "_law_added_up" "_law_added_up" (top 79) f fd) (SU : Df P w K mg base "_law_sum" 2 2 (spFF addF)) (BY : Df P w K mg base "_law_by" 2 2 (spFF mulF)) : GnOk P w K mg base 3 f fd ["_law_pairs_here", "_law_step"] (lift K spAup) := by
  refine gn_dl F sc_aup (fun as Q h => by obtain ⟨_, _, rfl, _⟩ := h; rfl) (fun cdv A outer s H hr hG W as Q h => ?_)
  obtain ⟨l, x, rfl, l8, bq, bx, q⟩ := h
  have nd := sc_aup.nd
  have p1 : prq ((0 : Nat) : Rat) = .tup [.int 0, .int 1] := rfl
  refine sds_cons (sd_set 2 nd rfl (ed_tup (ad_cons (ed_int (ad_cons (ed_int (ad_nil ⟨[.int 0, .int 1], rfl, by simp, ?_⟩)))))))
  rw [← p1]
  refine sds_cons (sd_forL (l := l.reverse.map prq) PassesOwn.never rfl (fun i S' => ∃ o3, Bq (330 * i + 1) (hv (l.reverse.take i) x) ∧ S' = [some (.val (.lst (l.map prq))), some (.val (prq x)), some (.val (prq (hv (l.reverse.take i) x))), o3]) (ed_rev (nm 0 (ed_neg (ed_int ⟨1, rfl, _, rfl, rfl, by rw [List.map_reverse], none, bq_0, rfl⟩)))) ?_ ?_)
  · rintro i d S' hi ⟨o3, b, rfl⟩
    rw [List.getElem?_map] at hi
    obtain ⟨r, hr', rfl⟩ := Option.map_eq_some_iff.mp hi
    have li : i < l.reverse.length := (List.getElem?_eq_some_iff.mp hr').1
    rw [List.length_reverse] at li
    have br := bq r (List.mem_reverse.mp (List.mem_of_getElem? hr'))
    have bm := b.mul bx
    refine gd_name 3 nd rfl ?_
    refine sds_cons (sd_set 2 nd rfl (ed_call SU (hr.mono (j := 2) (by decide)) hG (ad_cons (ed_call BY (hr.mono (j := 2) (by decide)) hG (ad_cons (nm 2 (ad_cons (nm 1 (ad_nil ⟨_, _, rfl, b.le (by omega), bx.le (by decide), ?_⟩)))))))))
    rw [mulF_fr]
    refine ad_cons (nm 3 (ad_nil ⟨_, _, rfl, bm.le (by omega), br.le (by decide), ?_⟩))
    rw [addF_fr, ← hv_snoc hr']
    refine sds_nil ⟨_, ?_, rfl⟩
    rw [hv_snoc hr']
    exact (bm.add br).le (by omega)
  · rintro S' ⟨o3, b, rfl⟩
    rw [List.length_map, List.take_length, ← ev_hv]
    exact sds_cons (sd_ret (nm 2 q))
end
end K15

set_option Elab.async false
set_option linter.all false
set_option maxRecDepth 100000
set_option maxHeartbeats 2000000
/-! a loop over a list that is drawn where the loop begins -/
namespace DL
open PySem PySem.Spec PyProof.Rows L2
section
variable {X : Cx} {B : Hp} {W0 : Wd} {S : En} {pos : Pos} {E : Ends'}
theorem sd_forLG {tg iter : Expr} {body : List Stmt} (hp : PassesOwn (model X.prog X.w) X.A X.env X.xe) (hc : X.calm = true) (Inv : List D → Nat → En → Prop) (h : ED X B S iter fun d => ∃ l, d = .lst l ∧ Inv l 0 S)
    (hs : ∀ l (i : Nat) d S', l[i]? = some d → Inv l i S' → GD X B W0 S' tg d fun S2 => SDs X B W0 S2 body { nx := Inv l (i + 1), rt := E.rt, bk := E.nx, ct := Inv l (i + 1) })
    (hd : ∀ l S', Inv l l.length S' → E.nx S') (hf : ∀ x, foldedSetIterable iter X.env x = pure x := by intro _; rfl) : SD X B W0 S (.For tg iter body [] pos) E := fun σ W H r z D' k => by
  refine PS.w (ps_for hp hc (pi_list we_pe) wg_pg wss_pss hf) ?_
  refine h σ W H r _ fun d v W1 H1 s1 ok1 n1 q1 => ?_
  obtain ⟨l, rfl, i0⟩ := q1
  cases n1 with
  | @lst _ a xs ha m =>
    refine ⟨a, rfl, ⟨xs, SqL.of (ok1.ex _ _ ha)⟩, for_list (K := X.K) (a := a) (xs := xs) (fun i σ' H' => ∃ S' W', Rep X.K (gOf X) B S' σ' W' H' ∧ Stp W0 B W' H' ∧ Ex W1.I W'.I ∧ Inv l i S') ⟨S, W1, r.step s1 ok1, z.trans r.ok s1, Ex.refl _, i0⟩
      (fun i σ' H' _ ⟨S', W', r', _, e', _⟩ => SqL.of (r'.ok.ex _ _ (e' _ _ ha))) ?_ ?_⟩
    · rintro i x σ' H' hx ⟨S', W', r', z', e', i'⟩
      obtain ⟨d, hd', nd⟩ := m.get hx
      refine hs l i d S' hd' i' σ' W' H' x r' z' (nd.mono e') _ fun S2 σ2 W2 H2 r2 z2 e2 q2 => ?_
      exact q2 σ2 W2 H2 r2 z2 _ ⟨fun S3 σ3 W3 H3 r3 z3 e3 q3 => ⟨S3, W3, r3, z3, (e'.trans e2).trans e3, q3⟩, fun d3 v3 W3 H3 r3 z3 e3 n3 q3 => k.rt d3 v3 W3 H3 r3 z3 (((s1.I.trans e').trans e2).trans e3) n3 q3,
        fun S3 σ3 W3 H3 r3 z3 e3 q3 => k.nx S3 σ3 W3 H3 r3 z3 (((s1.I.trans e').trans e2).trans e3) q3, fun S3 σ3 W3 H3 r3 z3 e3 q3 => ⟨S3, W3, r3, z3, (e'.trans e2).trans e3, q3⟩⟩
    · rintro σ' H' ⟨S', W', r', z', e', i'⟩
      rw [← m.length] at i'
      exact k.nx S' σ' W' H' r' z' (s1.I.trans e') (hd l S' i')
end
end DL

set_option Elab.async false
set_option linter.all false
set_option maxRecDepth 100000
set_option maxHeartbeats 8000000
/-! k15: _law_line_right -/
namespace DL
open PySem PySem.Spec PyProof.Rows L2
theorem op_isB {X : Cx} : OpR X (compareOp .Is) (fun x y H Q => ∃ a b, x = .bl a ∧ y = .bl b ∧ Q (.bl (a == b)) H) := by
  intro pins s σ H x y v u Q I rx ry h
  obtain ⟨a, b, rfl, rfl, q⟩ := h
  cases rx
  cases ry
  exact is_bool ⟨.bl _, H, I, rfl, q⟩
theorem od_isB {X : Cx} {Q : D → Prop} {a b : Bool} (q : Q (.bl (a == b))) : OD X (compareOp .Is) (.bl a) (.bl b) Q := by
  refine od_of op_isB fun v u W H ok h1 h2 R c => ?_
  cases h1; cases h2
  exact ⟨a, b, rfl, rfl, c.now ok (.bl _) q⟩
end DL
namespace K15
open PySem L2 DL
section
variable {X : Cx} {Q : D → Prop}
theorem od_neQ {r s : Rat} (e : r = s) (hr : Room 2 X.A) (hG : X.A.guards = some (gOf X)) (q : Q (.bl false)) : OD X (compareOp .NotEq) (prq r) (prq s) Q := by
  subst e
  refine od_ned (ff hr) (.tup (.cons (.int _) (.cons (.int _) .nil))) (.tup (.cons (.int _) (.cons (.int _) .nil))) (by rfl) (by rfl) ?_
  have : PyData.eqv (.tuple [.int (fr r).1, .int (fr r).2]) (.tuple [.int (fr r).1, .int (fr r).2]) = true := by simp [PyData.eqv, PyData.eqvAll]
  rw [this]
  exact q
theorem od_neQs {l m : List Rat} (e : l = m) (hr : Room 2 X.A) (hG : X.A.guards = some (gOf X)) (q : Q (.bl false)) : OD X (compareOp .NotEq) (.lst (l.map prq)) (.lst (m.map prq)) Q := by
  subst e
  refine od_neL (n := 1) rfl (fun i d e h1 h2 => ?_) hr hG q
  rw [h1] at h2
  cases h2
  obtain ⟨r, _, rfl⟩ := List.mem_map.mp (List.mem_of_getElem? h1)
  exact eqR_tI [(fr r).1, (fr r).2]
end
theorem Ov.up {M K0 c : Nat} {r : Rat} (c0 : 0 < c) (h : Ov M K0 r) : Ov (M * c) (K0 * c) r := by
  obtain ⟨a, e, b⟩ := h
  refine ⟨a * (c : Int), ?_, ?_⟩
  · rw [e, Int.natCast_mul, Rat.divInt_mul_right (by omega)]
  · rw [Int.natAbs_mul, Int.natAbs_natCast]
    exact Nat.mul_le_mul_right _ b
theorem mv_ov {x : Rat} : ∀ {ws cs : List Rat}, (∀ w ∈ ws, Ov 6 600000 w) → (∀ c ∈ cs, Ov 6 600000 c) → Ov 6 24 x → ∀ r ∈ mv ws cs x, Ov 36 18000000 r
  | [], _, _, _, _, r, h => by simp [mv] at h
  | _ :: _, [], _, _, _, r, h => by simp [mv] at h
  | w :: ws, c :: cs, hw, hc, hx, r, h => by
    rcases List.mem_cons.mp (show r ∈ (w + x * c) :: mv ws cs x from h) with rfl | z
    · have h1 := Ov.up (c := 6) (by decide) (hw w (List.mem_cons_self ..))
      have h2 := hx.mul (hc c (List.mem_cons_self ..))
      exact (h1.add h2 (by decide)).mono (by decide)
    · exact mv_ov (fun a b => hw a (List.mem_cons_of_mem _ b)) (fun a b => hc a (List.mem_cons_of_mem _ b)) hx r z
theorem mv_len (ws cs : List Rat) (x : Rat) (h : ws.length = cs.length) : (mv ws cs x).length = ws.length := by
  unfold mv
  rw [List.length_zipWith, h, Nat.min_self]
theorem take3 (l : List Rat) : (l ++ [0, 0, 0]).take 3 = [l.getD 0 0, l.getD 1 0, l.getD 2 0] := by
  rcases l with _ | ⟨a, _ | ⟨b, _ | ⟨c, l⟩⟩⟩
  · rfl
  · rfl
  · rfl
  · rfl
theorem bq_dv {t b : Int} {n : Nat} (h : b ≠ 0) (h1 : t.natAbs < 2 ^ n) (h2 : b.natAbs < 2 ^ n) : Bq n (Rat.divInt t b) := by
  have := low_bd (t := t) (b := b) h h1 h2
  rw [low_fr h] at this
  exact this
def sw3 {α : Type} : List α → List α
  | [x, y, z] => [y, x, z]
  | l => l
def ro3 {α : Type} : List α → List α
  | [x, y, z] => [y, z, x]
  | l => l
abbrev gAl (C : Addr) : Nat → List Ent → List Rat → List Rat → D := fun n es ws cs => .lst ((lineX n es ws cs).map (RF C))
abbrev gSl (C : Addr) : Nat → List Ent → List Rat → List Rat → D := fun _ es ws cs => RF C (LV es ws cs 1)
abbrev gBe (C : Addr) : Nat → List Ent → List Rat → List Rat → D := fun _ es ws cs => RF C (LV es ws cs 2 * 2)
abbrev gLe (C : Addr) : Nat → List Ent → List Rat → List Rat → D := fun _ es ws cs => RF C (leanV es ws cs)
abbrev gBu : Nat → List Ent → List Rat → List Rat → D := fun _ es ws cs => .bl (decide (0 < leanV es ws cs))
structure Lz (P : Program) (w : World) (K : PySem.W.Frag) (mg : Str → Option Value) (base : Heap) (C CB : Addr) : Prop where
  al : Df P w K mg base "along" 9 3 (spAl C CB (gAl C))
  alK : DfK P w K mg base "along" 9 ["direction", "weights", "blend"] List.reverse (spAl C CB (gAl C))
  sl : Df P w K mg base "slope" 10 3 (spAl C CB (gSl C))
  slK : DfK P w K mg base "slope" 10 ["direction", "blend", "weights"] ro3 (spAl C CB (gSl C))
  be : Df P w K mg base "bend" 10 3 (spAl C CB (gBe C))
  beK : DfK P w K mg base "bend" 10 ["direction", "blend", "weights"] ro3 (spAl C CB (gBe C))
  le : Df P w K mg base "lean" 10 3 (spAl C CB (gLe C))
  leK : DfK P w K mg base "lean" 10 ["direction", "weights", "blend"] List.reverse (spAl C CB (gLe C))
  bu : Df P w K mg base "bends_up" 11 3 (spAl C CB gBu)
  buK : DfK P w K mg base "bends_up" 11 ["weights", "blend", "direction"] sw3 (spAl C CB gBu)
  wo : Df P w K mg base "worth" 9 2 (spWorth C CB)
  tk : Df P w K mg base "taken" 9 2 (spTaken C CB)
  pa : Df P w K mg base "_law_pairs" 4 1 (spPairs C)
  pr : Df P w K mg base "_law_pair" 3 1 (spPair C)
  to : Df P w K mg base "_law_total" 3 1 spTot
  ls : Df P w K mg base "_law_less" 3 2 (spFF subF)
  by' : Df P w K mg base "_law_by" 2 2 (spFF mulF)
  su : Df P w K mg base "_law_sum" 2 2 (spFF addF)
  lo : Df P w K mg base "_law_low" 1 2 spLow
  dr : Df P w K mg base "_law_draw" 1 2 spDraw
  pi : Df P w K mg base "_law_pick" 2 2 spPick
  lw : Df P w K mg base "_law_worth" 3 2 spLWo
  mo : Df P w K mg base "_law_moved" 3 3 spMv
  au : Df P w K mg base "_law_added_up" 3 2 spAup
section
variable {P : Program} {w : World} {K : PySem.W.Frag} {mg : Str → Option Value} {base : Heap} {C CB : Addr}
/-- what both halves are given -/
structure Gv (C : Addr) (z : List Nat) (m n : Nat) (own : List Ent) (ws cs : List Rat) (xs ys : List D) (wd cd : D) : Prop where
  hz : LetZ z
  hm : z.length = m
  m1 : 1 ≤ m
  ge : GE m n 10 own
  oe : ∀ e ∈ own, Ov 12 360 e.2
  l7 : own.length ≤ 7
  at' : At C m n 10 (srt own) ws cs xs ys
  sw : SeqD wd xs
  sc : SeqD cd ys
  bw : ∀ w ∈ ws, Bq 20 w
  bc : ∀ c ∈ cs, Bq 20 c
  oc : ∀ c ∈ cs, Ov 6 36 c
theorem Gv.wo {C : Addr} {z : List Nat} {m n : Nat} {own : List Ent} {ws cs : List Rat} {xs ys : List D} {wd cd : D} (g : Gv C z m n own ws cs xs ys wd cd) : Wo C m n (srt own) ws xs 12 6 20000 600000 := by
  have n5 := g.at'.nb.n5
  have p1 : 6 ^ n ≤ 6 ^ 5 := Nat.pow_le_pow_right (by decide) n5
  have p2 : 1200001 ^ n ≤ 1200001 ^ 5 := Nat.pow_le_pow_right (by decide) n5
  exact ⟨g.at'.px, g.at'.nb.lw, g.at'.w0, g.at'.nb.oe, g.at'.nb.ow, by decide, by decide, Nat.lt_of_le_of_lt (Nat.mul_le_mul_left 12 p1) (by decide +kernel), Nat.lt_of_le_of_lt (Nat.mul_le_mul_left 201 (Nat.mul_le_mul_left 20000 p2)) (by decide +kernel)⟩
theorem Gv.wp {C : Addr} {z : List Nat} {m n : Nat} {own : List Ent} {ws cs : List Rat} {xs ys : List D} {wd cd : D} {x : Rat} (g : Gv C z m n own ws cs xs ys wd cd) (hx : Ov 6 24 x) : Wp m n own (mv ws cs x) 12 36 360 18000000 := by
  have n5 := g.at'.nb.n5
  have p1 : 36 ^ n ≤ 36 ^ 5 := Nat.pow_le_pow_right (by decide) n5
  have p2 : 36000001 ^ n ≤ 36000001 ^ 5 := Nat.pow_le_pow_right (by decide) n5
  have lc := g.at'.nb.lc
  have lw := g.at'.nb.lw
  exact ⟨by rw [mv_len _ _ _ (by rw [lw, lc]), lw], g.oe, mv_ov g.at'.nb.ow g.at'.nb.oc hx, by decide, by decide, Nat.lt_of_le_of_lt (Nat.mul_le_mul_left 12 p1) (by decide +kernel), Nat.lt_of_le_of_lt (Nat.mul_le_mul_left 201 (Nat.mul_le_mul_left 360 p2)) (by decide +kernel), by decide +kernel, by decide +kernel⟩
theorem Gv.line {C : Addr} {z : List Nat} {m n : Nat} {own : List Ent} {ws cs : List Rat} {xs ys : List D} {wd cd : D} (g : Gv C z m n own ws cs xs ys wd cd) : (lineX n (srt own) ws cs).length ≤ 6 ∧ ∀ r ∈ lineX n (srt own) ws cs, Bq 300 r := by
  have n5 := g.at'.nb.n5
  have ge := g.at'.nb.ge
  refine ⟨?_, fun r hr => ?_⟩
  · unfold lineX
    split
    · simp
    · rw [line_len ge g.at'.nb.lw g.at'.nb.lc]
      omega
  · obtain ⟨i, hi, e⟩ := List.getElem_of_mem hr
    have h1 : (lineX n (srt own) ws cs).getD i 0 = r := by
      rw [List.getD_eq_getElem?_getD, List.getElem?_eq_getElem hi, e]
      rfl
    rw [← h1, co_x g.at' i]
    exact g.at'.nb.bq i
theorem srt_mt {own : List Ent} (h : own.isEmpty = true) : srt own = [] := by
  cases own with
  | nil => exact srt_nil
  | cons _ _ => cases h
theorem srt_ne {own : List Ent} (h : own.isEmpty = false) : srt own ≠ [] := fun z => by
  have := (srt_perm own).length_eq
  rw [z] at this
  cases own with
  | nil => cases h
  | cons _ _ => cases this
abbrev NLr : List Str := ["_law_pot_here", "_law_blend_here", "_law_own", "_law_weights_here", "_law_direction_here", "_law_passed_here", "_law_given_here", "_law_told", "_law_step", "_law_due", "_law_first"]
abbrev PLr : List Str := ["_law_pot_here", "_law_blend_here", "_law_own", "_law_weights_here", "_law_direction_here", "_law_passed_here", "_law_given_here"]
abbrev spLr (C CB : Addr) : SpD := fun as Q => ∃ z, ∃ m n : Nat, ∃ own ws cs xs ys wd cd, as = [.pot, .val (Bo C CB z n (srt own)), .val (.dcT (kvP own)), .val (.lst (ws.map prq)), .val (.lst (cs.map prq)), .val wd, .val cd] ∧ Gv C z m n own ws cs xs ys wd cd ∧ Q (.bl true)
theorem sc_lr : FnScope NLr PLr (defScope (top 80)) := ⟨rfl, rfl, rfl, by decide +kernel, rfl, by decide +kernel, by decide +kernel⟩
theorem ok_lr {f : Addr} {fd : FuncData} (F : FunS K "_law_line_right" "_law_line_right" (top 80) f fd) (V : Bt P w K mg base C CB) (O : Lz P w K mg base C CB) : GnOk P w K mg base 12 f fd PLr (lift K (spLr C CB)) := by
  refine gn_dl F sc_lr (fun as Q h => by obtain ⟨_, _, _, _, _, _, _, _, _, _, rfl, _⟩ := h; rfl) (fun cdv A outer s H hr hG W as Q h => ?_)
  obtain ⟨z, m, n, own, ws, cs, xs, ys, wd, cd, rfl, g, q⟩ := h
  have nd := sc_lr.nd
  have T := V.T
  have r11 : Room 11 (A.deeper (PyProof.Rows.envOfC "_law_line_right" (defScope (top 80)) s.heap.objs.size f cdv)) := hr
  have o := g.at'
  have b := o.nb
  have n5 := b.n5
  obtain ⟨l6, bl⟩ := g.line
  obtain ⟨E, hE⟩ : ∃ E, E = srt own := ⟨_, rfl⟩
  obtain ⟨LL, hL⟩ : ∃ L, L = lineX n (srt own) ws cs := ⟨_, rfl⟩
  have arg : ∀ {gg : Nat → List Ent → List Rat → List Rat → D} {Q' : D → Prop}, Q' (gg n (srt own) ws cs) → spAl C CB gg [.val (Bo C CB z n (srt own)), .val wd, .val cd] Q' := fun hq => ⟨z, m, n, 10, srt own, wd, cd, xs, ys, ws, cs, rfl, g.hz, g.hm, g.sw, g.sc, o, hq⟩
  refine sds_cons (sd_set 7 nd rfl (ed_call O.pa (hr.mono (j := 4) (by decide)) hG (ad_cons (ed_call O.al (hr.mono (j := 9) (by decide)) hG (ad_cons (nm 1 (ad_cons (nm 5 (ad_cons (nm 6 (ad_nil (arg (ad_nil ⟨_, rfl, by omega, ?_⟩)))))))))))))
  rw [← hL] at l6 bl ⊢
  refine sds_st (S' := [some .pot, some (.val (Bo C CB z n (srt own))), some (.val (.dcT (kvP own))), some (.val (.lst (ws.map prq))), some (.val (.lst (cs.map prq))), some (.val wd), some (.val cd), some (.val (.lst (LL.map prq))), none, none, none]) rfl ?_
  refine sds_cons (sd_if (td_of (tw_or (td_cmp (nm 7 (ed_non (od_isN (kB ?_))))))))
  show TW _ _ _ _ _
  refine tw_or1 (td_cmp (ed_callB T.T.len (ad_cons (nm 7 (ad_nil (cd_len (l := LL.map prq) (.inl rfl) (ed_ifx (td_cmp (nm 2 (ed_ft (ft_new (od_eqT0 (hr.mono (j := 1) (by decide)) hG (kB ?_)))))))))))))
  have kmt : (kvP own).isEmpty = own.isEmpty := by cases own <;> rfl
  rw [kmt]
  have two : Bq 2 ((2 : Int) : Rat) := Bq.int (by decide) (by decide)
  have p2 : prq ((2 : Int) : Rat) = .tup [.int 2, .int 1] := rfl
  have v0 := b.bq 0
  have v1 := b.bq 1
  have v2 := b.bq 2
  have e0 : wsum (srt own) ws = LV (srt own) ws cs 0 := (LV_0 b.ge.len b.lw b.lc).symm
  have eT : ((LL.map prq) ++ (List.replicate (3 : Int).toNat [D.tup [.int 0, .int 1]]).flatten).take 3 = [LV (srt own) ws cs 0, LV (srt own) ws cs 1, LV (srt own) ws cs 2].map prq := by
    have e1 : (List.replicate (3 : Int).toNat [D.tup [.int 0, .int 1]]).flatten = ([0, 0, 0] : List Rat).map prq := rfl
    rw [e1, ← List.map_append, ← List.map_take, take3, hL, co_x o 0, co_x o 1, co_x o 2]
  have eV : ∀ x : Rat, ev LL x = wsum (srt own) (mv ws cs x) := fun x => by
    rw [hL]
    exact ev_line x b.ge b.lw b.lc
  have eL : LV (srt own) ws cs 0 * (LV (srt own) ws cs 2 * ((2 : Int) : Rat)) - LV (srt own) ws cs 1 * LV (srt own) ws cs 1 = leanV (srt own) ws cs := by
    unfold leanV
    have : ((2 : Int) : Rat) = 2 := rfl
    rw [this]
    grind
  have bL := leanV_bq b
  have dL := num_pos' (r := leanV (srt own) ws cs)
  have dD : decide ((0 : Int) < (fr (leanV (srt own) ws cs)).1) = decide (0 < leanV (srt own) ws cs) := by
    by_cases c : 0 < leanV (srt own) ws cs
    · rw [decide_eq_true c, decide_eq_true (dL.mpr c)]
    · rw [decide_eq_false c, decide_eq_false (fun z => c (dL.mp z))]
  obtain ⟨bb, hbb⟩ : ∃ bb, bb = decide (0 < leanV (srt own) ws cs) := ⟨_, rfl⟩
  have fin : SDs (Bx P w K mg base NLr "_law_line_right" (top 80) f cdv A outer s H) H W [some .pot, some (.val (Bo C CB z n (srt own))), some (.val (.dcT (kvP own))), some (.val (.lst (ws.map prq))), some (.val (.lst (cs.map prq))), some (.val wd), some (.val cd), some (.val (.lst (LL.map prq))), none, none, none] ((defBody (top 80)).drop 2) { nx := fun _ => Q .non, rt := Q } := by
    refine sds_cons (sd_if (td_cmp (ed_call O.pa (hr.mono (j := 4) (by decide)) hG (ad_cons (ed_callK0 O.alK (hr.mono (j := 9) (by decide)) hG (kd_cons (nm 6 (kd_cons (nm 5 (kd_cons (nm 1 (kd_nil ⟨rfl, arg (ad_nil ⟨_, rfl, by rw [← hL]; omega, nm 7 (od_neQs hL.symm (hr.mono (j := 2) (by decide)) hG (kB ?_))⟩)⟩))))))))))))
    show SDs _ _ _ _ _ _
    refine sds_nil ?_
    refine sds_cons (sd_forLG PassesOwn.never rfl (fun l i S' => (∃ st : List Rat, l = st.map prq ∧ ∀ x ∈ st, Bq 20 x ∧ Ov 6 24 x) ∧ ∃ o8, S' = [some .pot, some (.val (Bo C CB z n (srt own))), some (.val (.dcT (kvP own))), some (.val (.lst (ws.map prq))), some (.val (.lst (cs.map prq))), some (.val wd), some (.val cd), some (.val (.lst (LL.map prq))), o8, none, none]) ?_ ?_ ?_)
    · refine ed_lst (ad_cons (ed_tup (ad_cons (ed_int (ad_cons (ed_int (ad_nil ⟨[.int 0, .int 1], rfl, by simp, ?_⟩)))))))
      refine ad_cons (ed_tup (ad_cons (ed_int (ad_cons (ed_int (ad_nil ⟨[.int 1, .int 1], rfl, by simp, ?_⟩))))))
      refine ad_cons (ed_tup (ad_cons (ed_neg (ed_int ⟨1, rfl, ad_cons (ed_int (ad_nil ⟨[.int (-1), .int 1], rfl, by simp, ?_⟩))⟩))))
      refine ad_cons (ed_tup (ad_cons (ed_int (ad_cons (ed_int (ad_nil ⟨[.int 2, .int 1], rfl, by simp, ?_⟩))))))
      refine ad_cons (ed_tup (ad_cons (ed_int (ad_cons (ed_int (ad_nil ⟨[.int 1, .int 2], rfl, by simp, ?_⟩))))))
      refine ad_cons (ed_call O.lo (hr.mono (j := 1) (by decide)) hG (ad_cons (ed_bin (ed_call O.dr (hr.mono (j := 1) (by decide)) hG (ad_pot 0 rfl rfl (ad_cons (ed_int (ad_nil ⟨9, rfl, by decide, by decide, fun d hd => ed_int (od_sub ?_)⟩))))))))
      refine ad_cons (ed_bin (ed_int (ed_call O.dr (hr.mono (j := 1) (by decide)) hG (ad_pot 0 rfl rfl (ad_cons (ed_int (ad_nil ⟨3, rfl, by decide, by decide, fun d3 hd3 => od_add ?_⟩)))))))
      have b0 : (1 : Int) + (d3 : Int) ≠ 0 := by omega
      refine ad_nil (lowArg (n := 20) b0 (by show _ < 1048576; omega) (by show _ < 1048576; omega) (by decide) ?_)
      have lb := low_bd (t := (d : Int) - 4) (n := 20) b0 (by show _ < 1048576; omega) (by show _ < 1048576; omega)
      rw [low_fr b0] at lb ⊢
      have ov : Ov 6 24 (Rat.divInt ((d : Int) - 4) (1 + (d3 : Int))) := by
        have : (1 : Int) + (d3 : Int) = 1 ∨ (1 : Int) + (d3 : Int) = 2 ∨ (1 : Int) + (d3 : Int) = 3 := by omega
        rcases this with e | e | e <;> rw [e]
        · exact .of (c := 6) (by decide) rfl (by omega)
        · exact .of (c := 3) (by decide) rfl (by omega)
        · exact .of (c := 2) (by decide) rfl (by omega)
      refine ad_nil ⟨[.tup [.int 0, .int 1], .tup [.int 1, .int 1], .tup [.int (-1), .int 1], .tup [.int 2, .int 1], .tup [.int 1, .int 2], prq (Rat.divInt ((d : Int) - 4) (1 + (d3 : Int)))], rfl, by simp, ?_⟩
      refine ⟨_, rfl, ⟨[Rat.divInt 0 1, Rat.divInt 1 1, Rat.divInt (-1) 1, Rat.divInt 2 1, Rat.divInt 1 2, Rat.divInt ((d : Int) - 4) (1 + (d3 : Int))], rfl, fun x hx => ?_⟩, none, rfl⟩
      simp only [List.mem_cons, List.not_mem_nil, or_false] at hx
      rcases hx with rfl | rfl | rfl | rfl | rfl | rfl
      · exact ⟨bq_dv (by decide) (by decide) (by decide), .of (c := 6) (by decide) rfl (by decide)⟩
      · exact ⟨bq_dv (by decide) (by decide) (by decide), .of (c := 6) (by decide) rfl (by decide)⟩
      · exact ⟨bq_dv (by decide) (by decide) (by decide), .of (c := 6) (by decide) rfl (by decide)⟩
      · exact ⟨bq_dv (by decide) (by decide) (by decide), .of (c := 6) (by decide) rfl (by decide)⟩
      · exact ⟨bq_dv (by decide) (by decide) (by decide), .of (c := 3) (by decide) rfl (by decide)⟩
      · exact ⟨lb, ov⟩
    · rintro l i d S' hi ⟨⟨st, rfl, hst⟩, o8, rfl⟩
      rw [List.getElem?_map] at hi
      obtain ⟨x, hx, rfl⟩ := Option.map_eq_some_iff.mp hi
      obtain ⟨bx, ox⟩ := hst x (List.mem_of_getElem? hx)
      refine gd_name 8 nd rfl ?_
      refine sds_cons (sd_if (td_cmp (ed_call O.au (hr.mono (j := 3) (by decide)) hG (ad_cons (nm 7 (ad_cons (nm 8 (ad_nil ⟨LL, x, rfl, by omega, bl, bx, ?_⟩))))))))
      refine ed_call O.lw (hr.mono (j := 3) (by decide)) hG (ad_cons (nm 2 (ad_cons (ed_call O.mo (hr.mono (j := 3) (by decide)) hG (ad_cons (nm 3 (ad_cons (nm 4 (ad_cons (nm 8 (ad_nil ⟨ws, cs, x, rfl, by rw [b.lw, b.lc], by rw [b.lw]; exact b.m8, fun w hw => (g.bw w hw).le (by decide), fun c hc => (g.bc c hc).le (by decide), bx.le (by decide), ?_⟩)))))))))))
      refine ad_nil ⟨m, n, 10, own, mv ws cs x, 12, 36, 360, 18000000, rfl, g.m1, b.m8, by omega, g.ge, g.wp ox, ?_⟩
      refine od_neQ (eV x) (hr.mono (j := 2) (by decide)) hG (kB ?_)
      show SDs _ _ _ _ _ _
      exact sds_nil (sds_nil ⟨⟨st, rfl, hst⟩, _, rfl⟩)
    · rintro l S' ⟨-, o8, rfl⟩
      refine sds_cons (sd_set 7 nd rfl (ed_slLT (ed_bin (nm 7 (ed_bin (ed_lst (ad_cons (ed_tup (ad_cons (ed_int (ad_cons (ed_int (ad_nil ⟨[.int 0, .int 1], rfl, by simp, ?_⟩)))))))))))))
      refine ad_nil ⟨[.tup [.int 0, .int 1]], rfl, by simp, ed_int (od_repL (by decide) (by decide) (by decide) (od_catL ?_ (ed_int ⟨_, 3, rfl, rfl, .inl ⟨3, rfl, ?_⟩⟩)))⟩
      · rw [List.length_map]
        have : (List.replicate (3 : Int).toNat [D.tup [.int 0, .int 1]]).flatten.length = 3 := rfl
        omega
      rw [eT]
      refine sds_st (S' := [some .pot, some (.val (Bo C CB z n (srt own))), some (.val (.dcT (kvP own))), some (.val (.lst (ws.map prq))), some (.val (.lst (cs.map prq))), some (.val wd), some (.val cd), some (.val (.lst ([LV (srt own) ws cs 0, LV (srt own) ws cs 1, LV (srt own) ws cs 2].map prq))), o8, none, none]) rfl ?_
      refine sds_cons (sd_set 9 nd rfl (ed_lst (ad_cons (ed_ix (nm 7 (ed_int ⟨_, 0, _, .inl rfl, rfl, rfl, ?_⟩))))))
      refine ad_cons (ed_ix (nm 7 (ed_int ⟨_, 1, _, .inl rfl, rfl, rfl, ?_⟩)))
      refine ad_cons (ed_call O.by' (hr.mono (j := 2) (by decide)) hG (ad_cons (ed_ix (nm 7 (ed_int ⟨_, 2, _, .inl rfl, rfl, rfl, ?_⟩)))))
      refine ad_cons (ed_tup (ad_cons (ed_int (ad_cons (ed_int (ad_nil ⟨[.int 2, .int 1], rfl, by simp, ?_⟩))))))
      rw [← p2]
      refine ad_nil ⟨_, _, rfl, v2.le (by decide), two.le (by decide), ?_⟩
      rw [mulF_fr]
      refine ad_nil ⟨[prq (LV (srt own) ws cs 0), prq (LV (srt own) ws cs 1), prq (LV (srt own) ws cs 2 * ((2 : Int) : Rat))], rfl, by simp, ?_⟩
      refine sds_cons (sd_set 10 nd rfl (ed_lst (ad_cons (ed_call O.wo (hr.mono (j := 9) (by decide)) hG (ad_cons (nm 1 (ad_cons (nm 5 (ad_nil ⟨z, m, n, 10, srt own, wd, xs, ws, 12, 6, 20000, 600000, rfl, g.hz, g.hm, by omega, b.ge, g.sw, g.wo, ?_⟩)))))))))
      refine ad_cons (ed_call O.sl (hr.mono (j := 10) (by decide)) hG (ad_cons (nm 1 (ad_cons (nm 5 (ad_cons (nm 6 (ad_nil (arg ?_)))))))))
      refine ad_cons (ed_call O.be (hr.mono (j := 10) (by decide)) hG (ad_cons (nm 1 (ad_cons (nm 5 (ad_cons (nm 6 (ad_nil (arg ?_)))))))))
      refine ad_nil ⟨[RF C (wsum (srt own) ws), RF C (LV (srt own) ws cs 1), RF C (LV (srt own) ws cs 2 * 2)], rfl, by simp, ?_⟩
      refine sds_cons (sd_if (td_cmp (ed_call O.pa (hr.mono (j := 4) (by decide)) hG (ad_cons (nm 10 (ad_nil ⟨[wsum (srt own) ws, LV (srt own) ws cs 1, LV (srt own) ws cs 2 * 2], rfl, by simp, nm 9 (od_neQs (m := [LV (srt own) ws cs 0, LV (srt own) ws cs 1, LV (srt own) ws cs 2 * ((2 : Int) : Rat)]) (by rw [e0]; rfl) (hr.mono (j := 2) (by decide)) hG (kB ?_))⟩))))))
      show SDs _ _ _ _ _ _
      refine sds_nil ?_
      refine sds_cons (sd_set 9 nd rfl (ed_call O.ls (hr.mono (j := 3) (by decide)) hG (ad_cons (ed_call O.by' (hr.mono (j := 2) (by decide)) hG (ad_cons (ed_ix (nm 9 (ed_int ⟨_, 0, _, .inl rfl, rfl, rfl, ?_⟩))))))))
      refine ad_cons (ed_ix (nm 9 (ed_int ⟨_, 2, _, .inl rfl, rfl, rfl, ?_⟩)))
      refine ad_nil ⟨_, _, rfl, v0.le (by decide), (v2.mul two).le (by decide), ?_⟩
      rw [mulF_fr]
      refine ad_cons (ed_call O.by' (hr.mono (j := 2) (by decide)) hG (ad_cons (ed_ix (nm 9 (ed_int ⟨_, 1, _, .inl rfl, rfl, rfl, ?_⟩)))))
      refine ad_cons (ed_ix (nm 9 (ed_int ⟨_, 1, _, .inl rfl, rfl, rfl, ?_⟩)))
      refine ad_nil ⟨_, _, rfl, v1.le (by decide), v1.le (by decide), ?_⟩
      rw [mulF_fr]
      refine ad_nil ⟨_, _, rfl, (v0.mul (v2.mul two)).le (by decide), (v1.mul v1).le (by decide), ?_⟩
      rw [subF_fr, eL]
      refine sds_st (S' := [some .pot, some (.val (Bo C CB z n (srt own))), some (.val (.dcT (kvP own))), some (.val (.lst (ws.map prq))), some (.val (.lst (cs.map prq))), some (.val wd), some (.val cd), some (.val (.lst ([LV (srt own) ws cs 0, LV (srt own) ws cs 1, LV (srt own) ws cs 2].map prq))), o8, some (.val (prq (leanV (srt own) ws cs))), some (.val (.lst [RF C (wsum (srt own) ws), RF C (LV (srt own) ws cs 1), RF C (LV (srt own) ws cs 2 * 2)]))]) rfl ?_
      refine sds_cons (sd_if (td_cmp (ed_call O.pa (hr.mono (j := 4) (by decide)) hG (ad_cons (ed_lst (ad_cons (ed_call O.le (hr.mono (j := 10) (by decide)) hG (ad_cons (nm 1 (ad_cons (nm 5 (ad_cons (nm 6 (ad_nil (arg ?_)))))))))))))))
      refine ad_cons (ed_callK0 O.leK (hr.mono (j := 10) (by decide)) hG (kd_cons (nm 6 (kd_cons (nm 5 (kd_cons (nm 1 (kd_nil ⟨rfl, arg ?_⟩))))))))
      refine ad_nil ⟨[RF C (leanV (srt own) ws cs), RF C (leanV (srt own) ws cs)], rfl, by simp, ?_⟩
      refine ad_nil ⟨[leanV (srt own) ws cs, leanV (srt own) ws cs], rfl, by simp, ?_⟩
      refine ed_bin (ed_lst (ad_cons (nm 9 (ad_nil ⟨[prq (leanV (srt own) ws cs)], rfl, by simp, ed_int (od_repL (by decide) (by show 1 * 2 ≤ 100000; decide) (by decide) ?_)⟩))))
      refine od_neQs (m := [leanV (srt own) ws cs, leanV (srt own) ws cs]) rfl (hr.mono (j := 2) (by decide)) hG (kB ?_)
      show SDs _ _ _ _ _ _
      refine sds_nil ?_
      refine sds_cons (sd_set 7 nd rfl (ed_lst (ad_cons (ed_call O.bu r11 hG (ad_cons (nm 1 (ad_cons (nm 5 (ad_cons (nm 6 (ad_nil (arg ?_))))))))))))
      refine ad_cons (ed_callK0 O.buK r11 hG (kd_cons (nm 5 (kd_cons (nm 1 (kd_cons (nm 6 (kd_nil ⟨rfl, arg ?_⟩))))))))
      have hb2 : gBu n (srt own) ws cs = .bl bb := by rw [hbb]
      rw [hb2]
      refine ad_nil ⟨[.bl bb, .bl bb], rfl, by simp, ?_⟩
      have pd : PyD (.lst [.bl bb, .bl bb]) (.list [.bool bb, .bool bb]) := .lst (.cons (.bl _) (.cons (.bl _) .nil))
      have ps : (PyData.list [.bool bb, .bool bb]).showable = true := by cases bb <;> decide +kernel
      have pl : (PyData.list [.bool bb, .bool bb]).shown.length ≤ sizeLine := by cases bb <;> decide +kernel
      have pu : (Bx P w K mg base NLr "_law_line_right" (top 80) f cdv A outer s H).A.units + ((PyData.list [.bool bb, .bool bb]).depth + 3) < cLine := by
        have e : (PyData.list [.bool bb, .bool bb]).depth ≤ 8 := by cases bb <;> decide +kernel
        exact Nat.lt_of_le_of_lt (Nat.add_le_add_left (show (PyData.list [.bool bb, .bool bb]).depth + 3 ≤ 64 by omega) _) (ff hr)
      refine sds_cons (sd_ret (ed_cmp (ed_callB T.T.repr (ad_cons (nm 7 (ad_nil (cd_repr hG pu pd ps pl ?_)))))))
      refine ed_callB T.T.repr (ad_cons (ed_bin (ed_lst (ad_cons (ed_cmp (i0 (p := fr (leanV (srt own) ws cs)) (nm 9 ⟨rfl, ed_int (od_gt ?_)⟩)))))))
      rw [dD, ← hbb]
      refine ad_nil ⟨[.bl bb], rfl, by simp, ed_int (od_repL (by decide) (by show 1 * 2 ≤ 100000; decide) (by decide) ?_)⟩
      refine ad_nil (cd_repr (d := .lst [.bl bb, .bl bb]) hG pu pd ps pl (od_eqs ?_))
      rw [decide_eq_true rfl]
      exact q
  cases hm : own.isEmpty with
  | true =>
    show ED _ _ _ _ _
    have e : LL = [] := by
      rw [hL, srt_mt hm]
      rfl
    refine ed_int (od_nei (kB ?_))
    have : decide (((LL.map prq).length : Int) = 0) = true := by rw [e]; rfl
    rw [this]
    show SDs _ _ _ _ _ _
    exact sds_nil fin
  | false =>
    show ED _ _ _ _ _
    have ne := srt_ne hm
    refine ed_bin (pD V (hr.mono (j := 2) (by decide)) hG (nm 1 ⟨rfl, ?_⟩))
    rw [dgD_ne ne]
    refine ed_int (od_add (od_nei (kB ?_)))
    have : decide (((LL.map prq).length : Int) = (n : Int) + 1) = true := by
      refine decide_eq_true ?_
      rw [List.length_map, hL]
      unfold lineX
      rw [if_neg (fun z => by cases h : srt own with | nil => exact ne h | cons _ _ => rw [h] at z; cases z), line_len b.ge b.lw b.lc]
      omega
    rw [this]
    show SDs _ _ _ _ _ _
    exact sds_nil fin
end
end K15

set_option Elab.async false
set_option linter.all false
set_option maxRecDepth 100000
set_option maxHeartbeats 8000000
/-! k15: families of products -/
namespace K15
open PySem L2 DL
/-! families: keys may stand more than once -/
structure Fm (m n M K0 : Nat) (ps : List Ent) : Prop where
  len : ∀ e ∈ ps, e.1.length = m
  nn : ∀ e ∈ ps, ∀ c ∈ e.1, (0 : Int) ≤ c
  sum : ∀ e ∈ ps, e.1.sum = (n : Int)
  pos : ∀ e ∈ ps, (0 : Rat) < e.2
  ov : ∀ e ∈ ps, Ov M K0 e.2
theorem Fm.nil {m n M K0 : Nat} : Fm m n M K0 [] := ⟨nofun, nofun, nofun, nofun, nofun⟩
theorem Fm.of {m n b M K0 : Nat} {es : List Ent} (g : GE m n b es) (o : ∀ e ∈ es, Ov M K0 e.2) : Fm m n M K0 es := ⟨g.len, g.nn, g.sum, g.pos, o⟩
theorem Fm.mono {m n M K0 K1 : Nat} {es : List Ent} (f : Fm m n M K0 es) (h : K0 ≤ K1) : Fm m n M K1 es := ⟨f.len, f.nn, f.sum, f.pos, fun e he => (f.ov e he).mono h⟩
theorem Fm.app {m n M K0 : Nat} {a b : List Ent} (f : Fm m n M K0 a) (g : Fm m n M K0 b) : Fm m n M K0 (a ++ b) := by
  refine ⟨fun e he => ?_, fun e he => ?_, fun e he => ?_, fun e he => ?_, fun e he => ?_⟩
  all_goals rcases List.mem_append.mp he with h | h
  · exact f.len e h
  · exact g.len e h
  · exact f.nn e h
  · exact g.nn e h
  · exact f.sum e h
  · exact g.sum e h
  · exact f.pos e h
  · exact g.pos e h
  · exact f.ov e h
  · exact g.ov e h
theorem Fm.take {m n M K0 : Nat} {a : List Ent} (f : Fm m n M K0 a) (i : Nat) : Fm m n M K0 (a.take i) :=
  ⟨fun e he => f.len e (List.mem_of_mem_take he), fun e he => f.nn e (List.mem_of_mem_take he), fun e he => f.sum e (List.mem_of_mem_take he), fun e he => f.pos e (List.mem_of_mem_take he), fun e he => f.ov e (List.mem_of_mem_take he)⟩
theorem fm_ins {m n M K0 K1 : Nat} {acc : List Ent} {p : Ent} (m0 : 0 < M) (f : Fm m n M K1 acc) (g : Fm m n M K0 [p]) : Fm m n M (K1 + K0) (insE acc p) := by
  have hp := List.mem_singleton.mpr (rfl : p = p)
  have mm : ∀ x ∈ insE acc p, x = p ∨ x ∈ acc ∨ ∃ e ∈ acc, x = (e.1, e.2 + p.2) := fun x hx => by
    unfold insE at hx
    split at hx
    · obtain ⟨e, he, rfl⟩ := List.mem_map.mp hx
      by_cases y : e.1 = p.1
      · rw [if_pos y]; exact .inr (.inr ⟨e, he, rfl⟩)
      · rw [if_neg y]; exact .inr (.inl he)
    · rcases List.mem_append.mp hx with h | h
      · exact .inr (.inl h)
      · exact .inl (List.mem_singleton.mp h)
  refine ⟨fun x hx => ?_, fun x hx => ?_, fun x hx => ?_, fun x hx => ?_, fun x hx => ?_⟩
  all_goals rcases mm x hx with rfl | h | ⟨e, he, rfl⟩
  · exact g.len _ hp
  · exact f.len x h
  · exact f.len e he
  · exact g.nn _ hp
  · exact f.nn x h
  · exact f.nn e he
  · exact g.sum _ hp
  · exact f.sum x h
  · exact f.sum e he
  · exact g.pos _ hp
  · exact f.pos x h
  · have h1 := f.pos e he
    have h2 := g.pos _ hp
    show (0 : Rat) < e.2 + p.2
    grind
  · exact (g.ov _ hp).mono (by omega)
  · exact (f.ov x h).mono (by omega)
  · exact (f.ov e he).add (g.ov _ hp) m0
theorem fm_fold {m n M K0 : Nat} (m0 : 0 < M) : ∀ {ps acc : List Ent} {K1 : Nat}, Fm m n M K1 acc → Fm m n M K0 ps → Fm m n M (K1 + ps.length * K0) (ps.foldl insE acc)
  | [], acc, K1, f, _ => f.mono (by omega)
  | p :: ps, acc, K1, f, g => by
    have g1 : Fm m n M K0 [p] := ⟨fun e he => g.len e (by rw [List.mem_singleton.mp he]; exact List.mem_cons_self ..), fun e he => g.nn e (by rw [List.mem_singleton.mp he]; exact List.mem_cons_self ..), fun e he => g.sum e (by rw [List.mem_singleton.mp he]; exact List.mem_cons_self ..), fun e he => g.pos e (by rw [List.mem_singleton.mp he]; exact List.mem_cons_self ..), fun e he => g.ov e (by rw [List.mem_singleton.mp he]; exact List.mem_cons_self ..)⟩
    have g2 : Fm m n M K0 ps := ⟨fun e he => g.len e (List.mem_cons_of_mem _ he), fun e he => g.nn e (List.mem_cons_of_mem _ he), fun e he => g.sum e (List.mem_cons_of_mem _ he), fun e he => g.pos e (List.mem_cons_of_mem _ he), fun e he => g.ov e (List.mem_cons_of_mem _ he)⟩
    rw [List.foldl_cons]
    refine (fm_fold m0 (fm_ins m0 f g1) g2).mono ?_
    rw [List.length_cons, Nat.succ_mul]
    omega
theorem fm_gath {m n M K0 : Nat} {ps : List Ent} (m0 : 0 < M) (f : Fm m n M K0 ps) : Fm m n M (ps.length * K0) (gath ps) := by
  have := fm_fold m0 (Fm.nil (m := m) (n := n) (M := M) (K0 := 0)) f
  rw [Nat.zero_add] at this
  exact this
theorem fold_nd : ∀ {ps acc : List Ent}, (acc.map (·.1)).Nodup → ((ps.foldl insE acc).map (·.1)).Nodup ∧ (ps.foldl insE acc).length ≤ acc.length + ps.length
  | [], acc, h => ⟨h, Nat.le_refl _⟩
  | p :: ps, acc, h => by
    obtain ⟨h1, h2⟩ := fold_nd (ps := ps) (insE_nd (p := p) h)
    rw [List.foldl_cons]
    have := insE_len (acc := acc) (p := p)
    exact ⟨h1, by rw [List.length_cons]; omega⟩
theorem fm_ge {m n M K0 b : Nat} {es : List Ent} (f : Fm m n M K0 es) (nd : (es.map (·.1)).Nodup) (hl : es.length ≤ 200) (m0 : 0 < M) (h1 : M < 2 ^ b) (h2 : K0 < 2 ^ b) : GE m n b es := ⟨f.len, f.nn, f.sum, f.pos, fun e he => (f.ov e he).bq m0 h1 h2, nd, hl⟩
theorem gath_bq {m n M K0 c : Nat} {ps : List Ent} (m0 : 0 < M) (f : Fm m n M K0 ps) (hl : ps.length ≤ 200) (h1 : M < 2 ^ c) (h2 : 200 * K0 < 2 ^ c) (i : Nat) : ∀ e ∈ gath (ps.take i), Bq c e.2 := fun e he => by
  have g := (fm_gath m0 (f.take i)).ov e he
  have : (ps.take i).length * K0 ≤ 200 * K0 := Nat.mul_le_mul_right _ (by rw [List.length_take]; omega)
  exact (g.mono this).bq m0 h1 h2
theorem gath_ge {m n M K0 c : Nat} {ps : List Ent} (m0 : 0 < M) (f : Fm m n M K0 ps) (hl : ps.length ≤ 200) (h1 : M < 2 ^ c) (h2 : 200 * K0 < 2 ^ c) : GE m n c (gath ps) := by
  obtain ⟨nd, ln⟩ := fold_nd (ps := ps) (acc := []) (by simp)
  have : ps.length * K0 ≤ 200 * K0 := Nat.mul_le_mul_right _ hl
  exact fm_ge ((fm_gath m0 f).mono this) nd (Nat.le_trans ln (by simpa using hl)) m0 h1 h2
end K15

set_option Elab.async false
set_option linter.all false
set_option maxRecDepth 100000
set_option maxHeartbeats 8000000
/-! k15: _law_rules_right -/
namespace K15
open PySem L2 DL
theorem kvD_inj {C : Addr} : ∀ {es fs : List Ent}, kvD C es = kvD C fs → es = fs
  | [], [], _ => rfl
  | [], _ :: _, h => by cases h
  | _ :: _, [], h => by cases h
  | e :: es, f :: fs, h => by
    have h1 : (ik e.1, RF C e.2) = (ik f.1, RF C f.2) := (List.cons.inj h).1
    have h2 := kvD_inj (es := es) (fs := fs) (List.cons.inj h).2
    have h3 := ik_inj (congrArg Prod.fst h1)
    have h4 := RF_inj (congrArg Prod.snd h1)
    rw [h2, show e = f from Prod.ext h3 h4]
theorem Bo_inj {C CB : Addr} {z : List Nat} {n : Nat} {es fs : List Ent} (h : Bo C CB z n es = Bo C CB z n fs) : es = fs := by
  have h1 : kvD C es = kvD C fs := congrArg (fun d => match d with | .obj _ [_, _, (_, .dcT k)] => k | _ => []) h
  exact kvD_inj h1
theorem zip_range {f : Rat → Rat → Rat} (g : Nat → Rat) {cs : List Rat} {m : Nat} (h : cs.length = m) : List.zipWith f ((List.range m).map g) cs = (List.range m).map fun a => f (g a) (cs.getD a 0) := by
  refine List.ext_getElem? fun i => ?_
  rw [List.getElem?_zipWith, List.getElem?_map, List.getElem?_map]
  by_cases c : i < m
  · rw [List.getElem?_range c, List.getElem?_eq_getElem (by omega : i < cs.length)]
    show some (f (g i) _) = some (f (g i) _)
    rw [List.getD_eq_getElem?_getD, List.getElem?_eq_getElem (by omega : i < cs.length)]
    rfl
  · rw [List.getElem?_eq_none (by rw [List.length_range]; omega)]
    rfl
theorem outs_z {z : List Nat} {out : List D} {T : Nat → D} (hz : LetZ z) (h : Paired (fun d y => ∃ a, z[a]? = some d ∧ y = T a) z out) : out = (List.range z.length).map T := by
  have ln := Paired.length h
  refine List.ext_getElem? fun i => ?_
  rw [List.getElem?_map]
  by_cases c : i < z.length
  · have e1 : z[i]? = some z[i] := List.getElem?_eq_getElem c
    have e2 : out[i]? = some (out[i]'(by omega)) := List.getElem?_eq_getElem (by omega)
    obtain ⟨a, ha, hy⟩ := paired_at h e1 e2
    obtain ⟨la, ea⟩ := List.getElem?_eq_some_iff.mp ha
    have : a = i := by
      rcases Nat.lt_trichotomy a i with x | x | x
      · have := List.pairwise_iff_getElem.mp hz.up a i la c x; omega
      · exact x
      · have := List.pairwise_iff_getElem.mp hz.up i a c la x; omega
    subst this
    rw [e2, hy, List.getElem?_range c]
    rfl
  · rw [List.getElem?_eq_none (by omega), List.getElem?_eq_none (by rw [List.length_range]; omega)]
    rfl
theorem ov_int {c : Int} {k : Nat} (h : c.natAbs ≤ k) : Ov 1 k ((c : Int) : Rat) := ⟨c, (fr_val ((c : Int) : Rat)).symm, h⟩
theorem Gv.n8 {C : Addr} {z : List Nat} {m n : Nat} {own : List Ent} {ws cs : List Rat} {xs ys : List D} {wd cd : D} (g : Gv C z m n own ws cs xs ys wd cd) : n ≤ 8 := by have := g.at'.nb.n5; omega
theorem Gv.oE {C : Addr} {z : List Nat} {m n : Nat} {own : List Ent} {ws cs : List Rat} {xs ys : List D} {wd cd : D} (g : Gv C z m n own ws cs xs ys wd cd) : ∀ e ∈ srt own, Ov 12 360 e.2 := fun e he => g.oe e ((srt_perm own).mem_iff.mp he)
theorem Gv.lE {C : Addr} {z : List Nat} {m n : Nat} {own : List Ent} {ws cs : List Rat} {xs ys : List D} {wd cd : D} (g : Gv C z m n own ws cs xs ys wd cd) : (srt own).length ≤ 7 := by rw [(srt_perm own).length_eq]; exact g.l7
/-- what a letter taken out leaves -/
theorem Gv.take {C : Addr} {z : List Nat} {m n : Nat} {own : List Ent} {ws cs : List Rat} {xs ys : List D} {wd cd : D} (g : Gv C z m n own ws cs xs ys wd cd) {a : Nat} (ha : a < m) : Nb m (n - 1) 14 (srt (takeE a (srt own))) ws cs := by
  have b := g.at'.nb
  have n5 := b.n5
  have lE := g.lE
  have gt := b.ge.take g.n8 ha
  refine ⟨srt_ge gt, by omega, b.m8, by decide, ?_, ?_, b.lw, b.lc, b.ow, b.oc⟩
  · rw [(srt_perm _).length_eq]
    unfold takeE
    rw [List.length_map]
    have := List.length_filter_le (has a) (srt own)
    omega
  · intro e he
    have he := (srt_perm _).mem_iff.mp he
    unfold takeE at he
    obtain ⟨x, hx, rfl⟩ := List.mem_map.mp he
    have mx := (List.mem_filter.mp hx).1
    have la : a < x.1.length := by rw [b.ge.len x mx]; exact ha
    have c := b.ge.cnt mx (List.mem_of_getElem? (getD_get la))
    have h1 := (g.oE x mx).mul (ov_int (c := x.1.getD a 0) (k := 5) (by omega))
    exact h1.mono (by decide)
theorem LV_w {m n b : Nat} {es : List Ent} {ws cs : List Rat} (h : Nb m n b es ws cs) : wsum es ws = LV es ws cs 0 := (LV_0 h.ge.len h.lw h.lc).symm
theorem Gv.okb {C : Addr} {z : List Nat} {m n : Nat} {own : List Ent} {ws cs : List Rat} {xs ys : List D} {wd cd : D} (g : Gv C z m n own ws cs xs ys wd cd) : Okb z m n 10 (srt own) := ⟨g.hz, g.hm, g.n8, by decide, g.at'.nb.ge, srt_srt g.ge g.n8⟩
theorem Nb.wo {C : Addr} {m n b : Nat} {es : List Ent} {ws cs : List Rat} {xs : List D} (h : Nb m n b es ws cs) (px : Paired (Nq C 1000) xs ws) (w0 : ∀ w ∈ ws, (0 : Rat) < w) : Wo C m n es ws xs 12 6 20000 600000 := by
  have p1 : 6 ^ n ≤ 6 ^ 5 := Nat.pow_le_pow_right (by decide) h.n5
  have p2 : 1200001 ^ n ≤ 1200001 ^ 5 := Nat.pow_le_pow_right (by decide) h.n5
  exact ⟨px, h.lw, w0, h.oe, h.ow, by decide, by decide, Nat.lt_of_le_of_lt (Nat.mul_le_mul_left 12 p1) (by decide +kernel), Nat.lt_of_le_of_lt (Nat.mul_le_mul_left 201 (Nat.mul_le_mul_left 20000 p2)) (by decide +kernel)⟩
/-- thrice a blend and the blend -/
theorem Gv.twice {C : Addr} {z : List Nat} {m n : Nat} {own : List Ent} {ws cs : List Rat} {xs ys : List D} {wd cd : D} (g : Gv C z m n own ws cs xs ys wd cd) : Fm m n 12 1080 ((srt own).map (scE 3) ++ srt own) ∧ ((srt own).map (scE 3) ++ srt own).length ≤ 14 ∧ GE m n 12 ((srt own).map (scE 3)) := by
  have b := g.at'.nb
  have lE := g.lE
  have t0 : (0 : Rat) < 3 := by decide
  have tb : Bq 2 (3 : Rat) := Bq.int (i := 3) (by decide) (by decide)
  have gd : GE m n (10 + 2) ((srt own).map (scE 3)) := b.ge.keyed (scE 3) (fun _ => rfl) (fun e he => Rat.mul_pos (b.ge.pos e he) t0) fun e he => (b.ge.bq e he).mul tb
  refine ⟨(Fm.of gd fun e he => ?_).app ((Fm.of b.ge g.oE).mono (by decide)), by rw [List.length_append, List.length_map]; omega, gd⟩
  obtain ⟨x, hx, rfl⟩ := List.mem_map.mp he
  exact ((g.oE x hx).mul (ov_int (c := 3) (k := 3) (by decide))).mono (by decide)
theorem Gv.nb2 {C : Addr} {z : List Nat} {m n : Nat} {own : List Ent} {ws cs : List Rat} {xs ys : List D} {wd cd : D} (g : Gv C z m n own ws cs xs ys wd cd) : Nb m n 800 (sumE ((srt own).map (scE 3)) (srt own)) ws cs := by
  have b := g.at'.nb
  obtain ⟨f, l, gd⟩ := g.twice
  have gg := gath_ge (c := 800) (by decide) f (by omega) (by decide +kernel) (by decide +kernel)
  have nd := fold_nd (ps := (srt own).map (scE 3) ++ srt own) (acc := []) List.nodup_nil
  refine ⟨srt_ge gg, b.n5, b.m8, by decide, ?_, ?_, b.lw, b.lc, b.ow, b.oc⟩
  · show (srt _).length ≤ _
    rw [(srt_perm _).length_eq]
    have := nd.2
    rw [List.length_nil] at this
    exact Nat.le_trans this (by omega)
  · intro e he
    have he := (srt_perm _).mem_iff.mp he
    refine ((fm_gath (by decide) f).ov e he).mono ?_
    exact Nat.le_trans (Nat.mul_le_mul_right _ l) (by decide)
theorem low_mul (c : Rat) (k : Int) : low ((fr c).1 * k) (fr c).2 = fr (c * ((k : Int) : Rat)) := by
  have h := mulF_fr c ((k : Int) : Rat)
  have h : low ((fr c).1 * k) ((fr c).2 * 1) = fr (c * ((k : Int) : Rat)) := h
  rw [Int.mul_one] at h
  exact h
theorem pe_rat {C : Addr} : ∀ {l : List Rat}, (∀ r ∈ l, Bq 1000 r) → Paired (Nq C 1000) (l.map (RF C)) l
  | [], _ => .nil
  | r :: l, h => .cons (.rat r (h r (List.mem_cons_self ..))) (pe_rat fun x hx => h x (List.mem_cons_of_mem _ hx))
theorem od_eqRR {X : Cx} {C : Addr} {Q : D → Prop} {r s : Rat} (L : Lv X.prog X.w X.K X.mg X.base C) (e : r = s) (hr : Room 1 X.A) (hG : X.A.guards = some (gOf X)) (q : Q (.bl true)) : OD X (compareOp .Eq) (Ra C (fr r)) (Ra C (fr s)) Q := by
  subst e
  exact od_eqO L.V.T.nu L.eq hr hG ⟨_, _, rfl, .inl ⟨_, rfl, by rw [decide_eq_true rfl, decide_eq_true rfl]; exact q⟩⟩
abbrev NRr : List Str := ["_law_pot_here", "_law_blend_here", "_law_weights_here", "_law_direction_here", "_law_passed_here", "_law_given_here", "_law_letters_here", "_law_degree", "_law_outs", "_law_due", "_law_slopes", "_law_told", "_law_here", "_law_number", "_law_more", "_law_twice", "_law_letter", "_law_out", "_law_one"]
abbrev PRr : List Str := ["_law_pot_here", "_law_blend_here", "_law_weights_here", "_law_direction_here", "_law_passed_here", "_law_given_here"]
section
variable {P : Program} {w : World} {K : PySem.W.Frag} {mg : Str → Option Value} {base : Heap} {C CB : Addr}
abbrev spRr (C CB : Addr) : SpD := fun as Q => ∃ z, ∃ m n : Nat, ∃ own ws cs xs ys wd cd, as = [.pot, .val (Bo C CB z n (srt own)), .val (.lst (ws.map prq)), .val (.lst (cs.map prq)), .val wd, .val cd] ∧ Gv C z m n own ws cs xs ys wd cd ∧ Q (.bl true)
theorem sc_rr : FnScope NRr PRr (defScope (top 81)) := ⟨rfl, rfl, rfl, by decide +kernel, rfl, by decide +kernel, by decide +kernel⟩
theorem ok_rr {f : Addr} {fd : FuncData} (F : FunS K "_law_rules_right" "_law_rules_right" (top 81) f fd) (V : Bt P w K mg base C CB) (O : Lz P w K mg base C CB) (AD : Sm P w K mg base CB "__add__" 9 (spBAdd C CB)) (SC : Mt P w K mg base CB "scaled" 9 (spScaled C CB)) : GnOk P w K mg base 12 f fd PRr (lift K (spRr C CB)) := by
  refine gn_dl F sc_rr (fun as Q h => by obtain ⟨_, _, _, _, _, _, _, _, _, _, rfl, _⟩ := h; rfl) (fun cdv A outer s H hr hG W as Q h => ?_)
  obtain ⟨z, m, n, own, ws, cs, xs, ys, wd, cd, rfl, g, q⟩ := h
  have nd := sc_rr.nd
  have T := V.T
  have L := V.L
  have r11 : Room 11 (A.deeper (PyProof.Rows.envOfC "_law_rules_right" (defScope (top 81)) s.heap.objs.size f cdv)) := hr
  have o := g.at'
  have b := o.nb
  have n5 := b.n5
  have n8 := g.n8
  have hz := g.hz
  have hm := g.hm
  have m8 := b.m8
  obtain ⟨N0, hN⟩ : ∃ k : Nat, k = if (srt own).isEmpty = true then 0 else n := ⟨_, rfl⟩
  have arg : ∀ {gg : Nat → List Ent → List Rat → List Rat → D} {Q' : D → Prop}, Q' (gg n (srt own) ws cs) → spAl C CB gg [.val (Bo C CB z n (srt own)), .val wd, .val cd] Q' := fun hq => ⟨z, m, n, 10, srt own, wd, cd, xs, ys, ws, cs, rfl, hz, hm, g.sw, g.sc, o, hq⟩
  have oW : At C m n 10 (srt own) ws ws xs xs := ⟨⟨b.ge, b.n5, b.m8, b.b8, b.l20, b.oe, b.lw, b.lw, b.ow, b.ow⟩, o.px, o.px, o.w0⟩
  have argW : ∀ {gg : Nat → List Ent → List Rat → List Rat → D} {Q' : D → Prop}, Q' (gg n (srt own) ws ws) → spAl C CB gg [.val (Bo C CB z n (srt own)), .val wd, .val wd] Q' := fun hq => ⟨z, m, n, 10, srt own, wd, wd, xs, xs, ws, ws, rfl, hz, hm, g.sw, g.sw, oW, hq⟩
  -- the letters, the degree
  refine sds_cons (sd_par 6 7 rfl nd rfl rfl (by decide) rfl rfl (ad_cons (pL V (hr.mono (j := 2) (by decide)) hG (nm 1 ⟨rfl, ad_cons (ed_imp (Q := fun y => y = .int (N0 : Int)) ?_ ?_)⟩))))
  · refine ed_ifx (td_val (pN V (hr.mono (j := 2) (by decide)) hG (nm 1 ⟨rfl, kB ?_⟩)))
    cases he : (srt own).isEmpty with
    | true =>
      show ED _ _ _ _ _
      rw [he] at hN
      exact ed_int (by rw [hN]; rfl)
    | false =>
      show ED _ _ _ _ _
      rw [he] at hN
      have hN : N0 = n := hN
      refine pD V (hr.mono (j := 2) (by decide)) hG (nm 1 ⟨rfl, ?_⟩)
      rw [dgD_ne (fun z => by rw [z] at he; cases he), hN]
  rintro y rfl
  refine ad_nil ⟨_, _, rfl, ?_⟩
  refine sds_st (S' := [some .pot, some (.val (Bo C CB z n (srt own))), some (.val (.lst (ws.map prq))), some (.val (.lst (cs.map prq))), some (.val wd), some (.val cd), some (.val (.str (SX.S z))), some (.val (.int (N0 : Int))), none, none, none, none, none, none, none, none, none, none, none]) rfl ?_
  -- what each letter leaves
  obtain ⟨TB, hTB⟩ : ∃ f : Nat → D, f = fun a => Bo C CB z (n - 1) (srt (takeE a (srt own))) := ⟨_, rfl⟩
  have argT : ∀ {gg : Nat → List Ent → List Rat → List Rat → D} {Q' : D → Prop} {a : Nat}, a < m → Q' (gg (n - 1) (srt (takeE a (srt own))) ws cs) → spAl C CB gg [.val (TB a), .val wd, .val cd] Q' := fun {gg Q' a} ha hq => by
    rw [hTB]
    exact ⟨z, m, n - 1, 14, srt (takeE a (srt own)), wd, cd, xs, ys, ws, cs, rfl, hz, hm, g.sw, g.sc, ⟨g.take ha, o.px, o.py, o.w0⟩, hq⟩
  have argWo : ∀ {Q' : D → Prop} {a : Nat}, a < m → Q' (RF C (wsum (srt (takeE a (srt own))) ws)) → spWorth C CB [.val (TB a), .val wd] Q' := fun {Q' a} ha hq => by
    rw [hTB]
    exact ⟨z, m, n - 1, 14, srt (takeE a (srt own)), wd, xs, ws, 12, 6, 20000, 600000, rfl, hz, hm, by omega, (g.take ha).ge, g.sw, (g.take ha).wo o.px o.w0, hq⟩
  refine sds_cons (sd_ownLc (i := 8) (g := gName 16) (own := [("_law_letter", 16)]) rfl nd rfl rfl (pi_str we_pe) (blkOk_by (by show blkC NRr (defScope (top 81)) _ _ = true; decide +kernel)) (fun _ _ _ _ _ => pg_name (i := 16) nd rfl (Or.inl rfl)) (lc_C (s := SX.S z) (fun d y => ∃ a, z[a]? = some d ∧ y = TB a) 16 (by have := hz.l8; simp; omega) (nm 6 rfl) (by simp) ?_ ?_))
  · intro i d hd s2 H0 C2 cl fp
    have hd' : z[i]? = some d := by simpa using hd
    refine ed_call O.tk (hr.mono (j := 9) (by decide)) hG (ad_cons (nm 1 (ad_cons (nm 16 (ad_nil ⟨z, m, n, 10, i, srt own, d, rfl, g.okb, hd', by decide, i, hd', ?_⟩)))))
    rw [hTB]
  intro out ho
  have eo := outs_z (z := z) (T := TB) hz (by simpa using ho)
  rw [hm] at eo
  subst eo
  refine sds_frz 8 _ rfl ?_
  refine sds_st (S' := [some .pot, some (.val (Bo C CB z n (srt own))), some (.val (.lst (ws.map prq))), some (.val (.lst (cs.map prq))), some (.val wd), some (.val cd), some (.val (.str (SX.S z))), some (.val (.int (N0 : Int))), some (.val (.lst ((List.range m).map TB))), none, none, none, none, none, none, none, none, none, none]) rfl ?_
  -- a slope by what the letters leave
  have w1 : ((List.range m).map fun a => wsum (srt (takeE a (srt own))) ws * cs.getD a 0) = (List.range m).map fun a => LV (takeE a (srt own)) ws cs 0 * cs.getD a 0 := List.map_congr_left fun a ha => by rw [LV_w (g.take (List.mem_range.mp ha)), LV_srt]
  have t1 : tot ((List.range m).map fun a => wsum (srt (takeE a (srt own))) ws * cs.getD a 0) = LV (srt own) ws cs 1 := by
    rw [w1, ← LV_take b.ge b.lw b.lc 0]
    have : ((0 + 1 : Nat) : Rat) = 1 := rfl
    rw [this, Rat.one_mul]
  have cb : ∀ a, Bq 20 (cs.getD a 0) := fun a => by
    rw [List.getD_eq_getElem?_getD]
    cases e : cs[a]? with
    | none => exact bq_0.le (by decide)
    | some c => exact g.bc c (List.mem_of_getElem? e)
  refine sds_cons (sd_set 9 nd rfl (ed_call O.to (hr.mono (j := 3) (by decide)) hG (ad_cons (ed_fd (fd_relZ (l := (List.range m).map TB) (l' := cs.map prq) (fun a b y => ∀ es u, a = Bo C CB z (n - 1) es → b = prq u → y = prq (wsum es ws * u)) 17 18 (own := [("_law_out", 17), ("_law_one", 18)]) rfl nd T.T.zip (blkOk_by (by show blkC NRr (defScope (top 81)) _ _ = true; decide +kernel)) (fun _ _ _ _ _ => pg_tup rfl (pgs_cons (pg_name (i := 17) nd rfl (Or.inl rfl)) (pgs_cons (pg_name (i := 18) nd rfl (Or.inl rfl)) pgs_nil rfl) rfl)) (by rw [List.length_map, List.length_map, List.length_range, b.lc]) (by rw [List.length_map, List.length_range]; omega) (.inl rfl) (.inl rfl) (ad_cons (nm 8 (ad_cons (nm 3 (ad_nil rfl))))) (by simp) (by simp) ?_ ?_)))))
  · intro n' a c ha hc s2 H0 C2 cl fp
    rw [List.getElem?_map] at ha
    obtain ⟨i, hi, rfl⟩ := Option.map_eq_some_iff.mp ha
    have li : i < m := List.mem_range.mp (List.mem_of_getElem? hi)
    obtain ⟨u, hu, rfl⟩ := List.mem_map.mp (List.mem_of_getElem? hc)
    have nb := g.take li
    have wb : Bq 300 (wsum (srt (takeE i (srt own))) ws) := by rw [LV_w nb]; exact nb.bq 0
    refine ed_call O.by' (hr.mono (j := 2) (by decide)) hG (ad_cons (ed_call O.pr (hr.mono (j := 3) (by decide)) hG (ad_cons (ed_call O.wo (hr.mono (j := 9) (by decide)) hG (ad_cons (nm 17 (ad_cons (nm 4 (ad_nil (argWo li (ad_nil ⟨_, rfl, ?_⟩)))))))))))
    refine ad_cons (nm 18 (ad_nil ⟨_, _, rfl, wb.le (by decide), (g.bc u hu).le (by decide), ?_⟩))
    rw [mulF_fr]
    intro es u' h1 h2
    rw [hTB] at h1
    rw [Bo_inj h1, prq_inj h2]
  intro out lo ho
  rw [List.length_map, List.length_range] at lo
  have eo := zip_outG (f := fun x y => x * y) (g := prq) (a := (List.range m).map fun a => wsum (srt (takeE a (srt own))) ws) (b := cs) (out := out) (by rw [List.length_map, List.length_range, b.lc]) (by rw [lo, List.length_map, List.length_range]) fun n' x y v h1 h2 h3 => by
    rw [List.getElem?_map] at h1
    obtain ⟨i, hi, rfl⟩ := Option.map_eq_some_iff.mp h1
    exact ho n' (TB i) (prq y) v (by rw [List.getElem?_map, hi]; rfl) (by rw [List.getElem?_map, h2]; rfl) h3 _ y (by rw [hTB]) rfl
  rw [zip_range (fun a => wsum (srt (takeE a (srt own))) ws) b.lc] at eo
  subst eo
  refine ad_nil ⟨_, rfl, by rw [List.length_map, List.length_range]; exact m8, fun r hr' => ?_, ?_⟩
  · obtain ⟨a, ha, rfl⟩ := List.mem_map.mp hr'
    have nb := g.take (List.mem_range.mp ha)
    rw [LV_w nb]
    exact ((nb.bq 0).mul (cb a)).le (by decide)
  rw [t1]
  refine sds_cons (sd_if (td_cmp (ed_call O.pr (hr.mono (j := 3) (by decide)) hG (ad_cons (ed_callK0 O.slK (hr.mono (j := 10) (by decide)) hG (kd_cons (nm 5 (kd_cons (nm 1 (kd_cons (nm 4 (kd_nil ⟨rfl, arg (ad_nil ⟨_, rfl, nm 9 (od_neQ rfl (hr.mono (j := 2) (by decide)) hG (kB ?_))⟩)⟩))))))))))))
  show SDs _ _ _ _ _ _
  refine sds_nil ?_
  refine sds_st (S' := [some .pot, some (.val (Bo C CB z n (srt own))), some (.val (.lst (ws.map prq))), some (.val (.lst (cs.map prq))), some (.val wd), some (.val cd), some (.val (.str (SX.S z))), some (.val (.int (N0 : Int))), some (.val (.lst ((List.range m).map TB))), some (.val (prq (LV (srt own) ws cs 1))), none, none, none, none, none, none, none, none, none]) rfl ?_
  -- a bend by the slopes
  refine sds_cons (sd_ownLc (i := 10) (g := gName 17) (own := [("_law_out", 17)]) rfl nd rfl rfl (pi_list we_pe) (blkOk_by (by show blkC NRr (defScope (top 81)) _ _ = true; decide +kernel)) (fun _ _ _ _ _ => pg_name (i := 17) nd rfl (Or.inl rfl)) (lc_L (l := (List.range m).map TB) (fun i acc => acc = ((List.range m).take i).map fun a => prq (LV (takeE a (srt own)) ws cs 1)) (fun d => itE _ [("_law_out", 17)] 17 d) (nm 8 ⟨rfl, by rw [List.length_map, List.length_range]; omega, rfl⟩) (fun d _ => pat_name 17 (by simp)) ?_ ?_))
  · rintro i d acc hi ha rfl s2 H0 C2 cl fp
    rw [List.getElem?_map] at hi
    obtain ⟨a, ha', rfl⟩ := Option.map_eq_some_iff.mp hi
    have la : a < m := List.mem_range.mp (List.mem_of_getElem? ha')
    refine ed_call O.pr (hr.mono (j := 3) (by decide)) hG (ad_cons (ed_call O.sl (hr.mono (j := 10) (by decide)) hG (ad_cons (nm 17 (ad_cons (nm 4 (ad_cons (nm 5 (ad_nil (argT la (ad_nil ⟨_, rfl, ?_⟩)))))))))))
    rw [LV_srt, List.take_add_one, ha', List.map_append]
    rfl
  rintro acc ha rfl
  rw [List.length_map, List.length_range, List.take_of_length_le (by rw [List.length_range]; exact Nat.le_refl _)]
  have em : (List.range m).map (fun a => prq (LV (takeE a (srt own)) ws cs 1)) = ((List.range m).map fun a => LV (takeE a (srt own)) ws cs 1).map prq := by rw [List.map_map]; rfl
  rw [em]
  refine sds_frz 10 _ rfl ?_
  obtain ⟨sl, hsl⟩ : ∃ l, l = (List.range m).map fun a => LV (takeE a (srt own)) ws cs 1 := ⟨_, rfl⟩
  have lsl : sl.length = m := by rw [hsl, List.length_map, List.length_range]
  have bsl : ∀ r ∈ sl, Bq 300 r := fun r hr' => by
    rw [hsl] at hr'
    obtain ⟨a, ha, rfl⟩ := List.mem_map.mp hr'
    rw [← LV_srt]
    exact (g.take (List.mem_range.mp ha)).bq 1
  rw [← hsl]
  refine sds_st (S' := [some .pot, some (.val (Bo C CB z n (srt own))), some (.val (.lst (ws.map prq))), some (.val (.lst (cs.map prq))), some (.val wd), some (.val cd), some (.val (.str (SX.S z))), some (.val (.int (N0 : Int))), some (.val (.lst ((List.range m).map TB))), some (.val (prq (LV (srt own) ws cs 1))), some (.val (.lst (sl.map prq))), none, none, none, none, none, none, none, none]) rfl ?_
  have t2 : tot (List.zipWith (fun x y => x * y) sl cs) = LV (srt own) ws cs 2 * 2 := by
    rw [hsl, zip_range (fun a => LV (takeE a (srt own)) ws cs 1) b.lc, ← LV_take b.ge b.lw b.lc 1]
    have : ((1 + 1 : Nat) : Rat) = 2 := rfl
    rw [this, Rat.mul_comm]
  refine sds_cons (sd_set 9 nd rfl (ed_call O.to (hr.mono (j := 3) (by decide)) hG (ad_cons (ed_fd (fd_relZ (l := sl.map prq) (l' := cs.map prq) (fun a b y => ∀ u v, a = prq u → b = prq v → y = prq (u * v)) 11 18 (own := [("_law_told", 11), ("_law_one", 18)]) rfl nd T.T.zip (blkOk_by (by show blkC NRr (defScope (top 81)) _ _ = true; decide +kernel)) (fun _ _ _ _ _ => pg_tup rfl (pgs_cons (pg_name (i := 11) nd rfl (Or.inl rfl)) (pgs_cons (pg_name (i := 18) nd rfl (Or.inl rfl)) pgs_nil rfl) rfl)) (by rw [List.length_map, List.length_map, lsl, b.lc]) (by rw [List.length_map]; omega) (.inl rfl) (.inl rfl) (ad_cons (nm 10 (ad_cons (nm 3 (ad_nil rfl))))) (by simp) (by simp) ?_ ?_)))))
  · intro n' a c ha hc s2 H0 C2 cl fp
    obtain ⟨u, hu, rfl⟩ := List.mem_map.mp (List.mem_of_getElem? ha)
    obtain ⟨v, hv', rfl⟩ := List.mem_map.mp (List.mem_of_getElem? hc)
    refine ed_call O.by' (hr.mono (j := 2) (by decide)) hG (ad_cons (nm 11 (ad_cons (nm 18 (ad_nil ⟨_, _, rfl, (bsl u hu).le (by decide), (g.bc v hv').le (by decide), ?_⟩)))))
    rw [mulF_fr]
    intro u' v' h1 h2
    rw [prq_inj h1, prq_inj h2]
  intro out lo ho
  rw [List.length_map] at lo
  have eo := zip_outG (f := fun x y => x * y) (g := prq) (a := sl) (b := cs) (out := out) (by rw [lsl, b.lc]) lo fun n' x y v h1 h2 h3 => ho n' (prq x) (prq y) v (by rw [List.getElem?_map, h1]; rfl) (by rw [List.getElem?_map, h2]; rfl) h3 x y rfl rfl
  subst eo
  refine ad_nil ⟨_, rfl, by rw [List.length_zipWith, lsl, b.lc, Nat.min_self]; exact m8, fun r hr' => ?_, ?_⟩
  · obtain ⟨i, hi, e⟩ := List.getElem_of_mem hr'
    have gi : (List.zipWith (fun x y => x * y) sl cs)[i]? = some r := by rw [List.getElem?_eq_getElem hi, e]
    rw [List.getElem?_zipWith] at gi
    cases h1 : sl[i]? with
    | none => rw [h1] at gi; cases gi
    | some x => cases h2 : cs[i]? with
      | none => rw [h1, h2] at gi; cases gi
      | some y =>
        rw [h1, h2] at gi
        cases gi
        exact ((bsl x (List.mem_of_getElem? h1)).mul (g.bc y (List.mem_of_getElem? h2))).le (by decide)
  rw [t2]
  refine sds_cons (sd_if (td_cmp (ed_call O.pr (hr.mono (j := 3) (by decide)) hG (ad_cons (ed_callK0 O.beK (hr.mono (j := 10) (by decide)) hG (kd_cons (nm 5 (kd_cons (nm 1 (kd_cons (nm 4 (kd_nil ⟨rfl, arg (ad_nil ⟨_, rfl, nm 9 (od_neQ rfl (hr.mono (j := 2) (by decide)) hG (kB ?_))⟩)⟩))))))))))))
  show SDs _ _ _ _ _ _
  refine sds_nil ?_
  -- along the weights themselves
  obtain ⟨eu1, eu2⟩ := LV_eu b.ge b.lw
  have bW := oW.nb
  have v0 := bW.bq 0
  have eM : ∀ i, (srt own).isEmpty = true → LV (srt own) ws ws i = 0 := fun i he => by
    cases h : srt own with
    | nil => rfl
    | cons _ _ => rw [h] at he; cases he
  have nN : ((N0 : Int) : Rat) = (N0 : Rat) := Rat.intCast_natCast N0
  have eu3 : LV (srt own) ws ws 1 = LV (srt own) ws ws 0 * ((N0 : Int) : Rat) := by
    rw [nN, hN]
    split
    · rename_i he
      rw [eM 1 he, eM 0 he, Rat.zero_mul]
    · rw [eu1, Rat.mul_comm]
  have eu4 : LV (srt own) ws ws 2 * 2 = LV (srt own) ws ws 0 * (((N0 : Int) * ((N0 : Int) - 1) : Int) : Rat) := by
    rw [Rat.intCast_mul, Rat.intCast_sub, nN, hN]
    have h1 : ((1 : Int) : Rat) = 1 := rfl
    rw [h1]
    split
    · rename_i he
      rw [eM 2 he, eM 0 he, Rat.zero_mul, Rat.zero_mul]
    · rw [Rat.mul_comm, eu2, Rat.mul_comm]
  have n08 : (N0 : Int) ≤ 8 := by rw [hN]; split <;> omega
  have pN1 : prq ((N0 : Int) : Rat) = .tup [.int (N0 : Int), .int 1] := rfl
  have pN2 : prq (((N0 : Int) * ((N0 : Int) - 1) : Int) : Rat) = .tup [.int ((N0 : Int) * ((N0 : Int) - 1)), .int 1] := rfl
  have hNN : ((N0 : Int) * ((N0 : Int) - 1)).natAbs < 2 ^ 10 := by
    rw [Int.natAbs_mul]
    exact Nat.lt_of_le_of_lt (Nat.mul_le_mul (show (N0 : Int).natAbs ≤ 8 by omega) (show ((N0 : Int) - 1).natAbs ≤ 8 by omega)) (by decide)
  refine sds_cons (sd_set 12 nd rfl (ed_call O.pr (hr.mono (j := 3) (by decide)) hG (ad_cons (ed_call O.wo (hr.mono (j := 9) (by decide)) hG (ad_cons (nm 1 (ad_cons (nm 4 (ad_nil ⟨z, m, n, 10, srt own, wd, xs, ws, 12, 6, 20000, 600000, rfl, hz, hm, n8, b.ge, g.sw, g.wo, ad_nil ⟨_, rfl, ?_⟩⟩)))))))))
  rw [LV_w bW]
  refine sds_cons (sd_set 11 nd rfl (ed_lst (ad_cons (ed_call O.sl (hr.mono (j := 10) (by decide)) hG (ad_cons (nm 1 (ad_cons (nm 4 (ad_cons (nm 4 (ad_nil (argW ?_))))))))))))
  refine ad_cons (ed_call O.be (hr.mono (j := 10) (by decide)) hG (ad_cons (nm 1 (ad_cons (nm 4 (ad_cons (nm 4 (ad_nil (argW ?_)))))))))
  refine ad_nil ⟨[RF C (LV (srt own) ws ws 1), RF C (LV (srt own) ws ws 2 * 2)], rfl, by simp, ?_⟩
  refine sds_st (S' := [some .pot, some (.val (Bo C CB z n (srt own))), some (.val (.lst (ws.map prq))), some (.val (.lst (cs.map prq))), some (.val wd), some (.val cd), some (.val (.str (SX.S z))), some (.val (.int (N0 : Int))), some (.val (.lst ((List.range m).map TB))), some (.val (prq (LV (srt own) ws cs 2 * 2))), some (.val (.lst (sl.map prq))), some (.val (.lst [RF C (LV (srt own) ws ws 1), RF C (LV (srt own) ws ws 2 * 2)])), some (.val (prq (LV (srt own) ws ws 0))), none, none, none, none, none, none]) rfl ?_
  refine sds_cons (sd_if (td_cmp (ed_call O.pa (hr.mono (j := 4) (by decide)) hG (ad_cons (nm 11 (ad_nil ⟨[LV (srt own) ws ws 1, LV (srt own) ws ws 2 * 2], rfl, by simp, ?_⟩))))))
  refine ed_lst (ad_cons (ed_call O.by' (hr.mono (j := 2) (by decide)) hG (ad_cons (nm 12 (ad_cons (ed_tup (ad_cons (nm 7 (ad_cons (ed_int (ad_nil ⟨[.int (N0 : Int), .int 1], rfl, by simp, ?_⟩)))))))))))
  rw [← pN1]
  refine ad_nil ⟨_, _, rfl, v0.le (by decide), (Bq.int (n := 10) (by show _ < 1024; omega) (by decide)).le (by decide), ?_⟩
  rw [mulF_fr]
  refine ad_cons (ed_call O.by' (hr.mono (j := 2) (by decide)) hG (ad_cons (nm 12 (ad_cons (ed_tup (ad_cons (ed_bin (nm 7 (ed_bin (nm 7 (ed_int (od_sub (od_mulS (.inl ⟨by omega, by omega⟩) (ad_cons (ed_int (ad_nil ⟨[.int ((N0 : Int) * ((N0 : Int) - 1)), .int 1], rfl, by simp, ?_⟩))))))))))))))))
  rw [← pN2]
  refine ad_nil ⟨_, _, rfl, v0.le (by decide), (Bq.int hNN (by decide)).le (by decide), ?_⟩
  rw [mulF_fr]
  refine ad_nil ⟨[prq (LV (srt own) ws ws 0 * ((N0 : Int) : Rat)), prq (LV (srt own) ws ws 0 * (((N0 : Int) * ((N0 : Int) - 1) : Int) : Rat))], rfl, by simp, ?_⟩
  refine od_neQs (m := [LV (srt own) ws ws 0 * ((N0 : Int) : Rat), LV (srt own) ws ws 0 * (((N0 : Int) * ((N0 : Int) - 1) : Int) : Rat)]) (by rw [eu3, eu4]) (hr.mono (j := 2) (by decide)) hG (kB ?_)
  show SDs _ _ _ _ _ _
  refine sds_nil ?_
  -- a direction multiplied
  refine sds_cons (sd_set 13 nd rfl (ed_call O.pi (hr.mono (j := 2) (by decide)) hG (ad_pot 0 rfl rfl ?_)))
  refine ad_cons (ed_lst (ad_cons (ed_int (ad_cons (ed_neg (ed_int ⟨1, rfl, ?_⟩))))))
  refine ad_cons (ed_int ?_)
  refine ad_cons (ed_neg (ed_int ⟨3, rfl, ?_⟩))
  refine ad_nil ⟨[.int 2, .int (-1), .int 0, .int (-3)], rfl, by simp, ad_nil ⟨_, rfl, by simp, by simp, fun x hx => ?_⟩⟩
  obtain ⟨k, rfl, hk⟩ : ∃ k : Int, x = .int k ∧ k.natAbs ≤ 3 := by
    simp only [List.mem_cons, List.not_mem_nil, or_false] at hx
    rcases hx with rfl | rfl | rfl | rfl
    · exact ⟨2, rfl, by decide⟩
    · exact ⟨-1, rfl, by decide⟩
    · exact ⟨0, rfl, by decide⟩
    · exact ⟨-3, rfl, by decide⟩
  have k64 : -(2 ^ 64) < k ∧ k < 2 ^ 64 := by constructor <;> omega
  have kb : Bq 2 ((k : Int) : Rat) := Bq.int (by show _ < 4; omega) (by decide)
  refine sds_st (S' := [some .pot, some (.val (Bo C CB z n (srt own))), some (.val (.lst (ws.map prq))), some (.val (.lst (cs.map prq))), some (.val wd), some (.val cd), some (.val (.str (SX.S z))), some (.val (.int (N0 : Int))), some (.val (.lst ((List.range m).map TB))), some (.val (prq (LV (srt own) ws cs 2 * 2))), some (.val (.lst (sl.map prq))), some (.val (.lst [RF C (LV (srt own) ws ws 1), RF C (LV (srt own) ws ws 2 * 2)])), some (.val (prq (LV (srt own) ws ws 0))), some (.val (.int k)), none, none, none, none, none]) rfl ?_
  refine sds_cons (sd_ownLc (i := 14) (g := gName 18) (own := [("_law_one", 18)]) rfl nd rfl rfl (pi_list we_pe) (blkOk_by (by show blkC NRr (defScope (top 81)) _ _ = true; decide +kernel)) (fun _ _ _ _ _ => pg_name (i := 18) nd rfl (Or.inl rfl)) (lc_L (l := cs.map prq) (fun i acc => acc = (cs.take i).map fun c => RF C (c * ((k : Int) : Rat))) (fun d => itE _ [("_law_one", 18)] 18 d) (nm 3 ⟨rfl, by rw [List.length_map, b.lc]; omega, rfl⟩) (fun d _ => pat_name 18 (by simp)) ?_ ?_))
  · rintro i d acc hi ha rfl s2 H0 C2 cl fp
    rw [List.getElem?_map] at hi
    obtain ⟨c, hc, rfl⟩ := Option.map_eq_some_iff.mp hi
    have bc := g.bc c (List.mem_of_getElem? hc)
    refine ed_makeA L.V.mk2 (hr.mono (j := 3) (by decide)) hG (ad_cons (ed_bin (i0 (p := fr c) (nm 18 ⟨rfl, nm 13 (od_mulS (.inr k64) (ad_cons (i1 (p := fr c) (nm 18 ⟨rfl, ad_nil (mk_ok (n := 22) (fr_ne c) (mul_bd bc.t (kb.t)) (bd_mono bc.b (by decide)) (by decide) ?_)⟩))))⟩))))
    rw [low_mul]
    rw [List.take_add_one, hc, List.map_append]
    rfl
  rintro acc ha rfl
  rw [List.length_map, List.take_length]
  obtain ⟨cm', hcm⟩ : ∃ l, l = cs.map (· * ((k : Int) : Rat)) := ⟨_, rfl⟩
  have ecm : (cs.map fun c => RF C (c * ((k : Int) : Rat))) = cm'.map (RF C) := by rw [hcm, List.map_map]; rfl
  rw [ecm]
  refine sds_frz 14 _ rfl ?_
  have oM : At C m n 10 (srt own) ws cm' xs (cm'.map (RF C)) := by
    refine ⟨⟨b.ge, b.n5, b.m8, b.b8, b.l20, b.oe, b.lw, by rw [hcm, List.length_map, b.lc], b.ow, fun c hc => ?_⟩, o.px, pe_rat fun c hc => ?_, o.w0⟩
    · rw [hcm] at hc
      obtain ⟨x, hx, rfl⟩ := List.mem_map.mp hc
      exact ((g.oc x hx).mul (ov_int (c := k) hk)).mono (by decide)
    · rw [hcm] at hc
      obtain ⟨x, hx, rfl⟩ := List.mem_map.mp hc
      exact ((g.bc x hx).mul kb).le (by decide)
  refine sds_st (S' := [some .pot, some (.val (Bo C CB z n (srt own))), some (.val (.lst (ws.map prq))), some (.val (.lst (cs.map prq))), some (.val wd), some (.val cd), some (.val (.str (SX.S z))), some (.val (.int (N0 : Int))), some (.val (.lst ((List.range m).map TB))), some (.val (prq (LV (srt own) ws cs 2 * 2))), some (.val (.lst (sl.map prq))), some (.val (.lst [RF C (LV (srt own) ws ws 1), RF C (LV (srt own) ws ws 2 * 2)])), some (.val (prq (LV (srt own) ws ws 0))), some (.val (.int k)), some (.val (.lst (cm'.map (RF C)))), none, none, none, none]) rfl ?_
  have eMu : leanV (srt own) ws cm' = leanV (srt own) ws cs * ((k * k : Int) : Rat) := by rw [hcm, lean_mu, Rat.intCast_mul]
  have bkk : Bq 4 ((k * k : Int) : Rat) := by rw [Rat.intCast_mul]; exact kb.mul kb
  refine sds_cons (sd_if (td_not (td_cmp (ed_call O.le (hr.mono (j := 10) (by decide)) hG (ad_cons (nm 1 (ad_cons (nm 4 (ad_cons (nm 14 (ad_nil ⟨z, m, n, 10, srt own, wd, _, xs, _, ws, cm', rfl, hz, hm, g.sw, .inl rfl, oM, ?_⟩)))))))))))
  refine ed_bin (ed_call O.le (hr.mono (j := 10) (by decide)) hG (ad_cons (nm 1 (ad_cons (nm 4 (ad_cons (nm 5 (ad_nil (arg ?_)))))))))
  refine ed_bin (nm 13 (nm 13 (od_mulS (.inl k64) ?_)))
  refine od_mulR L (hr.mono (j := 6) (by decide)) hG ((leanV_bq b).le (by decide)) (.int (k * k) (bkk.le (by decide))) ?_
  refine od_eqRR L eMu (hr.mono (j := 1) (by decide)) hG (kB ?_)
  show SDs _ _ _ _ _ _
  refine sds_nil ?_
  -- thrice the blend and the blend
  obtain ⟨ft, lt, gt⟩ := g.twice
  have three : ((3 : Int) : Rat) = 3 := rfl
  refine sds_cons (sd_set 15 nd rfl (ed_bin (ed_meth T.nu.cl SC (hr.mono (j := 9) (by decide)) hG (nm 1 ⟨bf C z n (srt own), rfl, lkN (by decide +kernel) (by decide +kernel) (by decide +kernel), ad_cons (ed_int (ad_nil ⟨z, m, n, 10, 2, srt own, .int 3, 3, rfl, g.okb, .int 3 (Bq.int (by decide) (by decide)), by decide, by decide, ?_⟩))⟩))))
  refine nm 1 (od_oo (op := .Add) T.nu AD (hr.mono (j := 9) (by decide)) hG ⟨z, m, n, n, n, 800, _, _, rfl, hz, hm, n8, by decide, gt.mono (by decide), b.ge.mono (by decide), .inr (.inr rfl), fun i e he => (gath_bq (c := 900) (by decide) ft (by omega) (by decide +kernel) (by decide +kernel) i e he).le (by decide), gath_ge (c := 800) (by decide) ft (by omega) (by decide +kernel) (by decide +kernel), ?_⟩)
  have o2 : At C m n 800 (sumE ((srt own).map (scE 3)) (srt own)) ws cs xs ys := ⟨g.nb2, o.px, o.py, o.w0⟩
  refine sds_st (S' := [some .pot, some (.val (Bo C CB z n (srt own))), some (.val (.lst (ws.map prq))), some (.val (.lst (cs.map prq))), some (.val wd), some (.val cd), some (.val (.str (SX.S z))), some (.val (.int (N0 : Int))), some (.val (.lst ((List.range m).map TB))), some (.val (prq (LV (srt own) ws cs 2 * 2))), some (.val (.lst (sl.map prq))), some (.val (.lst [RF C (LV (srt own) ws ws 1), RF C (LV (srt own) ws ws 2 * 2)])), some (.val (prq (LV (srt own) ws ws 0))), some (.val (.int k)), some (.val (.lst (cm'.map (RF C)))), some (.val (Bo C CB z n (sumE ((srt own).map (scE 3)) (srt own)))), none, none, none]) rfl ?_
  have four : Bq 3 ((4 : Int) : Rat) := Bq.int (by decide) (by decide)
  have e4 : LV (sumE ((srt own).map (scE 3)) (srt own)) ws cs 1 = LV (srt own) ws cs 1 * ((4 : Int) : Rat) := by
    rw [LV_sum]
    have : ((4 : Int) : Rat) = 4 := rfl
    rw [this]
    grind
  refine sds_cons (sd_if (td_not (td_cmp (ed_call O.sl (hr.mono (j := 10) (by decide)) hG (ad_cons (nm 15 (ad_cons (nm 4 (ad_cons (nm 5 (ad_nil ⟨z, m, n, 800, _, wd, cd, xs, ys, ws, cs, rfl, hz, hm, g.sw, g.sc, o2, ?_⟩)))))))))))
  refine ed_bin (ed_call O.sl (hr.mono (j := 10) (by decide)) hG (ad_cons (nm 1 (ad_cons (nm 4 (ad_cons (nm 5 (ad_nil (arg (ed_int ?_))))))))))
  refine od_mulR L (hr.mono (j := 6) (by decide)) hG ((b.bq 1).le (by decide)) (.int 4 (four.le (by decide))) ?_
  refine od_eqRR L e4 (hr.mono (j := 1) (by decide)) hG (kB ?_)
  show SDs _ _ _ _ _ _
  refine sds_nil ?_
  refine sds_cons (sd_ret (ed_cmp (ed_call O.bu r11 hG (ad_cons (nm 1 (ad_cons (nm 4 (ad_cons (nm 4 (ad_nil (argW (ed_bl (od_isB ?_)))))))))))))
  rw [decide_eq_false (lean_eu b.ge b.lw)]
  exact q
end
end K15

set_option Elab.async false
set_option linter.all false
set_option maxRecDepth 100000
set_option maxHeartbeats 8000000
/-! k15: _law_right, law -/
namespace DL
open PySem PySem.Spec PyProof.Rows L2
theorem Wr.up {X : Cx} {j k : Nat} {d : D} {t : Str} (h : Wr X j d t) (e : j ≤ k) : Wr X k d t := fun A g W H pins σ s v u base Q E hA => h A g W H pins σ s v u base Q E (hA.mono e)
/-- data with a text -/
def Tx (X : Cx) (k n : Nat) (d : D) : Prop := Rp d ∧ ∃ t, Wr X k d t ∧ t.length ≤ n
theorem tx_all {X : Cx} {k n : Nat} : ∀ {l : List D}, (∀ x ∈ l, Tx X k n x) → Rps l ∧ ∃ ts : List Str, ts.length = l.length ∧ (∀ t ∈ ts, t.length ≤ n) ∧ ∀ (i : Nat) d, l[i]? = some d → ∃ t, ts[i]? = some t ∧ Wr X k d t
  | [], _ => ⟨.nil, [], rfl, by simp, by simp⟩
  | x :: l, h => by
    obtain ⟨r, t, w, b⟩ := h x (by simp)
    obtain ⟨rs, ts, e, bs, ws⟩ := tx_all (l := l) fun y hy => h y (by simp [hy])
    refine ⟨.cons r rs, t :: ts, by rw [List.length_cons, List.length_cons, e], fun y hy => ?_, fun i d hd => ?_⟩
    · rcases List.mem_cons.mp hy with z | z
      · rw [z]; exact b
      · exact bs y z
    · cases i with
      | zero => cases hd; exact ⟨t, rfl, w⟩
      | succ i => exact ws i d hd
theorem Tx.up {X : Cx} {j k m n : Nat} {d : D} (h : Tx X j m d) (e : j ≤ k) (e2 : m ≤ n) : Tx X k n d := let ⟨r, t, w, b⟩ := h; ⟨r, t, w.up e, Nat.le_trans b e2⟩
theorem cd_reprT3 {X : Cx} {k : Nat} {l : List D} (hr : Room (k + 2) X.A) (hG : X.A.guards = some (gOf X)) (hl : l.length ≤ 3) (h : ∀ x ∈ l, Tx X k 2000000 x) : ∃ t, ∀ Q : D → Prop, Q (.str t) → CD X (.builtin "repr") [.val (.lst l)] Q := by
  obtain ⟨rs, ts, e, bs, ws⟩ := tx_all h
  refine ⟨listText ts, fun Q q => cd_reprL hr hG (by omega) rs e ws ?_ q⟩
  have := listText_up bs
  have : (2000000 + 2) * ts.length ≤ (2000000 + 2) * 3 := Nat.mul_le_mul (Nat.le_refl _) (by omega)
  have : (2000000 + 2) * 3 + 4 ≤ sizeLine := by decide
  omega
end DL
namespace K15
open PySem L2 DL
theorem blT_len {z : List Nat} {m n b : Nat} {es : List Ent} (hz : LetZ z) (ln : es.length ≤ 60) (ge : GE m n b es) (hn : n ≤ 8) (m8 : m ≤ 8) (hb : b ≤ 1900) : (blT z es).length ≤ 2000000 := by
  have l1 := letT_len hz
  have l2 := txs_len ln ge hn m8 hb
  have l3 : (("Blend(" : Str)).length ≤ 6 := by decide +kernel
  have l4 : ((", " : Str)).length ≤ 2 := by decide +kernel
  have l5 : ((")" : Str)).length ≤ 1 := by decide +kernel
  exact Nat.le_trans (app_len (app_len (app_len (app_len l3 l1) l4) l2) l5) (by decide)
theorem rpt_kv (C : Addr) : ∀ es : List Ent, Rpt (kvD C es)
  | [] => .nil
  | e :: es => .cons (.obj (.cons (.int _) (.cons (.int _) .nil))) (rpt_kv C es)
theorem rp_Bo (C CB : Addr) (z : List Nat) (n : Nat) (es : List Ent) : Rp (Bo C CB z n es) := by
  refine .obj (.cons (.str _) (.cons ?_ (.cons (.dcT (rpt_kv C es)) .nil)))
  unfold dgD
  split
  · exact .non
  · exact .int _
theorem tx_num {X : Cx} {C : Addr} (R : Sm X.prog X.w X.K X.mg X.base C "__repr__" 1 (sp1b C 1900 fun p => .str (reprF p))) {d : D} {r : Rat} (h : Nq C 1900 d r) : Tx X 1 4000 d := by
  cases h with
  | rat _ h =>
    exact ⟨.obj (.cons (.int _) (.cons (.int _) .nil)), reprF (fr _), wr_obj R (fun Q q => ⟨fr _, rfl, h, q⟩), reprF_len h⟩
  | int i h => exact ⟨.int _, _, wr_int (tl h.t), Nat.le_trans (tlen h.t) (by decide)⟩
theorem nq_split {C : Addr} {b : Nat} : ∀ {xs : List D} {ws : List Rat}, Paired (Nq C b) xs ws → (∃ is : List Int, xs = is.map D.int ∧ ∀ i ∈ is, i.natAbs < 2 ^ b) ∨ (∃ r, Ra C (fr r) ∈ xs)
  | _, _, .nil => .inl ⟨[], rfl, nofun⟩
  | _, _, .cons h t => by
    cases h with
    | rat _ h => exact .inr ⟨_, List.mem_cons_self ..⟩
    | int i h =>
      rcases nq_split t with ⟨is, rfl, hi⟩ | ⟨r, hr⟩
      · refine .inl ⟨i :: is, rfl, fun j hj => ?_⟩
        rcases List.mem_cons.mp hj with rfl | y
        · exact h.t
        · exact hi j y
      · exact .inr ⟨r, List.mem_cons_of_mem _ hr⟩
theorem ra_nokey {C : Addr} {r : Rat} {l : List D} (h : Ra C (fr r) ∈ l) (ks : List Key) : l ≠ ks.map kD := fun e => by
  rw [e] at h
  obtain ⟨k, _, z⟩ := List.mem_map.mp h
  cases k <;> cases z
theorem pe_mem {C : Addr} {b : Nat} {xs : List D} {ws : List Rat} (h : Paired (Nq C b) xs ws) : ∀ x ∈ xs, ∃ r, Nq C b x r := fun x hx => by
  obtain ⟨i, hi⟩ := List.getElem?_of_mem hx
  obtain ⟨r, _, q⟩ := paired_get h hi
  exact ⟨r, q⟩
theorem tx_nums {X : Cx} {C : Addr} (R : Sm X.prog X.w X.K X.mg X.base C "__repr__" 1 (sp1b C 1900 fun p => .str (reprF p))) {d : D} {xs : List D} {ws : List Rat} (sd : SeqD d xs) (h : Paired (Nq C 1000) xs ws) (hl : xs.length ≤ 8) : Tx X 2 40000 d := by
  have tx : ∀ x ∈ xs, Tx X 1 4000 x := fun x hx => by
    obtain ⟨r, q⟩ := pe_mem h x hx
    exact tx_num R (q.mono (by decide))
  obtain ⟨rs, ts, e, bs, ws'⟩ := tx_all tx
  have bd : (4000 + 2) * ts.length + 4 ≤ 40000 := by
    have : (4000 + 2) * ts.length ≤ (4000 + 2) * 8 := Nat.mul_le_mul_left _ (by omega)
    omega
  rcases sd with rfl | rfl
  · exact ⟨.lst rs, _, wr_list (by omega) rs e ws', Nat.le_trans (listText_up bs) bd⟩
  · rcases nq_split h with ⟨is, rfl, hi⟩ | ⟨r, hr⟩
    · have lg : ∀ i ∈ is, i.natAbs.log2 < 1920 := fun i hi' => tl (Nat.lt_of_lt_of_le (hi i hi') (Nat.pow_le_pow_right (by decide) (by decide)))
      refine ⟨.tup rs, _, wr_tupI (k := 1) lg, ?_⟩
      have l1 : ∀ t ∈ is.map (fun i => (toString i : Str)), t.length ≤ 4000 := fun t ht => by
        obtain ⟨i, hi', rfl⟩ := List.mem_map.mp ht
        exact Nat.le_trans (PyProof.Rows.int_text_len_1921 (lg i hi')) (by decide)
      refine Nat.le_trans (tupleText_up l1) ?_
      rw [List.length_map] at hl ⊢
      have : (4000 + 2) * is.length ≤ (4000 + 2) * 8 := Nat.mul_le_mul_left _ hl
      omega
    · exact ⟨.tup rs, _, wr_tup (ra_nokey hr) rs e ws', Nat.le_trans (tupleText_up bs) bd⟩
section
variable {P : Program} {w : World} {K : PySem.W.Frag} {mg : Str → Option Value} {base : Heap} {C CB : Addr}
abbrev NRi : List Str := ["_law_pot_here", "_law_many", "_law_degree", "_law_letters_here", "_law_own", "_law_blend_here", "_law_weights_here", "_law_direction_here", "_law_passed_here", "_law_given_here", "_law_stay"]
abbrev spRight : SpD := fun as Q => as = [.pot] ∧ Q (.bl true)
theorem sc_right : FnScope NRi ["_law_pot_here"] (defScope (top 82)) := ⟨rfl, rfl, rfl, by decide +kernel, rfl, by decide +kernel, by decide +kernel⟩
theorem ok_right {f : Addr} {fd : FuncData} (F : FunS K "_law_right" "_law_right" (top 82) f fd) (T : Tb K mg C CB) (R : Sm P w K mg base C "__repr__" 1 (sp1b C 1900 fun p => .str (reprF p))) (RB : Sm P w K mg base CB "__repr__" 5 (spBRepr C CB)) (DR : Df P w K mg base "_law_draw" 1 2 spDraw) (LE : Df P w K mg base "_law_letters" 3 2 spLets) (DN : Df P w K mg base "_law_drawn" 4 4 spDrawn) (BL : Df P w K mg base "_law_blend" 9 3 (spBln C CB)) (WE : Df P w K mg base "_law_weights" 3 2 spWts) (DI : Df P w K mg base "_law_direction" 3 2 spDir) (GI : Df P w K mg base "_law_given" 5 2 (spGvn C)) (LR : Df P w K mg base "_law_line_right" 12 7 (spLr C CB)) (RR : Df P w K mg base "_law_rules_right" 12 6 (spRr C CB)) : GnOk P w K mg base 13 f fd ["_law_pot_here"] (lift K spRight) := by
  refine gn_dl F sc_right (fun as Q h => by obtain ⟨rfl, _⟩ := h; rfl) (fun cdv A outer s H hr hG W as Q h => ?_)
  obtain ⟨rfl, q⟩ := h
  have nd := sc_right.nd
  have r12 : Room 12 (A.deeper (PyProof.Rows.envOfC "_law_right" (defScope (top 82)) s.heap.objs.size f cdv)) := hr
  refine sds_cons (sd_par 1 2 rfl nd rfl rfl (by decide) rfl rfl ?_)
  refine ad_cons (ed_bin (ed_int (ed_call DR (hr.mono (j := 1) (by decide)) hG (ad_pot 0 rfl rfl (ad_cons (ed_int (ad_nil ⟨4, rfl, by decide, by decide, fun d hd => od_add ?_⟩)))))))
  refine ad_cons (ed_call DR (hr.mono (j := 1) (by decide)) hG (ad_pot 0 rfl rfl (ad_cons (ed_int (ad_nil ⟨6, rfl, by decide, by decide, fun n hn => ?_⟩)))))
  refine ad_nil ⟨_, _, rfl, ?_⟩
  obtain ⟨m, hm⟩ : ∃ m, m = d + 1 := ⟨_, rfl⟩
  have e1 : (1 : Int) + (d : Int) = ((m : Nat) : Int) := by omega
  rw [e1]
  have m1 : 1 ≤ m := by omega
  have m4 : m ≤ 4 := by omega
  have n5 : n ≤ 5 := by omega
  refine sds_cons (sd_set 3 nd rfl (ed_call LE (hr.mono (j := 3) (by decide)) hG (ad_pot 0 rfl rfl (ad_cons (nm 1 (ad_nil ⟨m, rfl, m1, by omega, fun z hz hzm => ?_⟩))))))
  refine sds_cons (sd_set 4 nd rfl (ed_call DN (hr.mono (j := 4) (by decide)) hG (ad_pot 0 rfl rfl (ad_cons (nm 1 (ad_cons (nm 2 (ad_cons (ed_int (ad_nil ⟨m, n, 7, rfl, m1, by omega, by omega, by decide, fun es ge oe le => ?_⟩))))))))))
  refine sds_cons (sd_set 5 nd rfl (ed_call BL (hr.mono (j := 9) (by decide)) hG (ad_pot 0 rfl rfl (ad_cons (nm 3 (ad_cons (nm 4 (ad_nil ⟨z, m, n, 10, es, rfl, hz, hzm, by omega, by decide, ge, ?_⟩))))))))
  refine sds_cons (sd_par 6 7 rfl nd rfl rfl (by decide) rfl rfl ?_)
  refine ad_cons (ed_call WE (hr.mono (j := 3) (by decide)) hG (ad_pot 0 rfl rfl (ad_cons (nm 1 (ad_nil ⟨m, rfl, by omega, fun ws lw hw => ?_⟩)))))
  refine ad_cons (ed_call DI (hr.mono (j := 3) (by decide)) hG (ad_pot 0 rfl rfl (ad_cons (nm 1 (ad_nil ⟨m, rfl, by omega, fun cs lc hc => ?_⟩)))))
  refine ad_nil ⟨_, _, rfl, ?_⟩
  refine sds_cons (sd_par 8 9 rfl nd rfl rfl (by decide) rfl rfl ?_)
  refine ad_cons (ed_call GI (hr.mono (j := 5) (by decide)) hG (ad_pot 0 rfl rfl (ad_cons (nm 6 (ad_nil ⟨ws, 1000, rfl, by omega, by decide, fun w hw' => (hw w hw').2.1.le (by decide), fun wd xs sw px => ?_⟩)))))
  refine ad_cons (ed_call GI (hr.mono (j := 5) (by decide)) hG (ad_pot 0 rfl rfl (ad_cons (nm 7 (ad_nil ⟨cs, 1000, rfl, by omega, by decide, fun c hc' => (hc c hc').1.le (by decide), fun cd ys sc py => ?_⟩)))))
  refine ad_nil ⟨_, _, rfl, ?_⟩
  have gE := srt_ge ge
  have lE : (srt es).length ≤ 7 := by rw [(srt_perm es).length_eq]; exact le
  have g : Gv C z m n es ws cs xs ys wd cd := by
    refine ⟨hz, hzm, m1, ge, oe, le, ⟨⟨gE, n5, by omega, by decide, by omega, fun e he => (oe e ((srt_perm es).mem_iff.mp he)).mono (by decide), lw, lc, fun w hw' => (hw w hw').2.2, fun c hc' => (hc c hc').2.mono (by decide)⟩, px, py, fun w hw' => (hw w hw').1⟩, sw, sc, fun w hw' => (hw w hw').2.1, fun c hc' => (hc c hc').1, fun c hc' => (hc c hc').2⟩
  refine sds_st (S' := [some .pot, some (.val (.int (m : Int))), some (.val (.int (n : Int))), some (.val (.str (SX.S z))), some (.val (.dcT (kvP es))), some (.val (Bo C CB z n (srt es))), some (.val (.lst (ws.map prq))), some (.val (.lst (cs.map prq))), some (.val wd), some (.val cd), none]) rfl ?_
  obtain ⟨t, ht⟩ := cd_reprT3 (X := Bx P w K mg base NRi "_law_right" (top 82) f cdv A outer s H) (k := 5) (l := [Bo C CB z n (srt es), wd, cd]) (hr.mono (j := 7) (by decide)) hG (by simp) fun x hx => by
    rcases List.mem_cons.mp hx with rfl | hx
    · exact ⟨rp_Bo C CB z n (srt es), _, wr_obj RB fun Q q => ⟨z, m, n, 10, srt es, rfl, hz, hzm, by omega, by decide, gE, by omega, q⟩, blT_len hz (by omega) gE (by omega) (by omega) (by decide)⟩
    rcases List.mem_cons.mp hx with rfl | hx
    · exact (tx_nums R sw px (by rw [Paired.length px, lw]; omega)).up (by decide) (by decide)
    rw [List.mem_singleton.mp hx]
    exact (tx_nums R sc py (by rw [Paired.length py, lc]; omega)).up (by decide) (by decide)
  refine sds_cons (sd_set 10 nd rfl (ed_callB T.T.repr (ad_cons (ed_lst (ad_cons (nm 5 (ad_cons (nm 8 (ad_cons (nm 9 (ad_nil ⟨[Bo C CB z n (srt es), wd, cd], rfl, by simp, ad_nil (ht _ ?_)⟩)))))))))))
  refine sds_st (S' := [some .pot, some (.val (.int (m : Int))), some (.val (.int (n : Int))), some (.val (.str (SX.S z))), some (.val (.dcT (kvP es))), some (.val (Bo C CB z n (srt es))), some (.val (.lst (ws.map prq))), some (.val (.lst (cs.map prq))), some (.val wd), some (.val cd), some (.val (.str t))]) rfl ?_
  refine sds_cons (sd_if (td_not (td_val (ed_call LR r12 hG (ad_pot 0 rfl rfl (ad_cons (nm 5 (ad_cons (nm 4 (ad_cons (nm 6 (ad_cons (nm 7 (ad_cons (nm 8 (ad_cons (nm 9 (ad_nil ⟨z, m, n, es, ws, cs, xs, ys, wd, cd, rfl, g, kB ?_⟩))))))))))))))))))
  show SDs _ _ _ _ _ _
  refine sds_nil ?_
  refine sds_cons (sd_if (td_not (td_val (ed_call RR r12 hG (ad_pot 0 rfl rfl (ad_cons (nm 5 (ad_cons (nm 6 (ad_cons (nm 7 (ad_cons (nm 8 (ad_cons (nm 9 (ad_nil ⟨z, m, n, es, ws, cs, xs, ys, wd, cd, rfl, g, kB ?_⟩))))))))))))))))
  show SDs _ _ _ _ _ _
  refine sds_nil ?_
  refine sds_cons (sd_ret (ed_cmp (ed_callB T.T.repr (ad_cons (ed_lst (ad_cons (nm 5 (ad_cons (nm 8 (ad_cons (nm 9 (ad_nil ⟨[Bo C CB z n (srt es), wd, cd], rfl, by simp, ad_nil (ht _ (nm 10 (od_eqs ?_)))⟩))))))))))))
  rw [decide_eq_true rfl]
  exact q
abbrev spLaw : SpD := fun as Q => ∃ ns : List Int, as = [.val (.frl ns)] ∧ Q (.bl true)
theorem sc_law : FnScope ["_law_script", "_law_k"] ["_law_script"] (defScope (top 83)) := ⟨rfl, rfl, rfl, by decide +kernel, rfl, by decide +kernel, by decide +kernel⟩
theorem ok_law {f : Addr} {fd : FuncData} (F : FunS K "law" "law" (top 83) f fd) (T : Tb K mg C CB) (Pt : Nf P w K mg base "_law_pot" 1 spPot) (R : Df P w K mg base "_law_right" 13 1 spRight) : GnOk P w K mg base 14 f fd ["_law_script"] (lift K spLaw) := by
  refine gn_dl F sc_law (fun as Q h => by obtain ⟨_, rfl, _⟩ := h; rfl) (fun cdv A outer s H hr hG W as Q h => ?_)
  obtain ⟨ns, rfl, q⟩ := h
  have nd := sc_law.nd
  obtain ⟨n, hn, n2⟩ : ∃ n : Nat, (if (if (ns.length : Int) < 2 then (ns.length : Int) else 2) > 1 then (if (ns.length : Int) < 2 then (ns.length : Int) else 2) else 1) = (n : Int) ∧ n ≤ 2 := by
    refine ⟨(if (if (ns.length : Int) < 2 then (ns.length : Int) else 2) > 1 then (if (ns.length : Int) < 2 then (ns.length : Int) else 2) else 1).toNat, ?_, ?_⟩
    · split <;> split at * <;> omega
    · split <;> split at * <;> omega
  refine sds_cons (sd_ret (ed_callB T.T.all (ad_cons (ed_fd (fd_relR (n := n) (fun _ y => y = .bl true) 1 (own := [("_law_k", 1)]) rfl nd T.T.range (blkOk_by (by show blkC ["_law_script", "_law_k"] (defScope (top 83)) _ _ = true; decide +kernel)) (fun _ _ _ _ _ => pg_name (i := 1) nd rfl (Or.inl rfl)) (by omega) ?_ (by simp) ?_ ?_)))))
  · refine ad_cons (ed_callB T.T.max (ad_cons (ed_int (ad_cons (ed_callB T.min (ad_cons (ed_int (ad_cons (ed_callB T.T.len (ad_cons (nm 0 (ad_nil (cd_lenF (ad_nil (cd_min2 rfl (ad_nil (cd_max rfl (ad_nil ?_))))))))))))))))))
    rw [hn]
  · intro i hi s2 H0 C2 cl fp
    exact ed_call R hr hG (ad_newpot (fd_callN Pt (hr.mono (j := 1) (by decide)) hG (ad_cons (nm 0 (ad_cons (nm 1 (ad_nil ⟨ns, i, rfl, by omega, fun a b h => ⟨a, b, rfl, h, ad_nil ⟨rfl, rfl⟩⟩⟩)))))))
  · intro out ho
    refine ad_nil (cd_allT rfl (fun y hy => ?_) q)
    obtain ⟨i, hi, e⟩ := List.getElem_of_mem hy
    obtain ⟨y', e1, p⟩ := ho.2 i (by rw [← ho.1]; exact hi)
    rw [List.getElem?_eq_getElem hi] at e1
    cases e1
    rw [← e]
    exact p
end
end K15

set_option Elab.async false
set_option linter.all false
set_option maxRecDepth 100000
set_option maxHeartbeats 8000000
/-! k15: what the top has written, put together -/
namespace K15
open PySem L2 DL PySem.Spec PyProof.Rows
theorem kit_ref {K : PySem.W.Frag} {t : Value} {C : Addr} {b : Bool} (hd : PySem.W.hasDictIn K C = true) (ty : PySem.W.typeIn K (.ref C) = some (.type "type")) (n : ¬ t = .ref C) (s : PySem.W.subIn K t (.ref C) = some b) : PySem.W.kitOne K t (.ref C) = some b := by
  obtain ⟨cd, hc, _⟩ := PySem.W.any_some hd
  unfold PySem.W.kitOne
  rw [if_neg (by simpa using n)]
  show (if ((PySem.W.clsIn K C).isSome && PySem.W.typeIn K (.ref C) == some (.type "type")) = true then PySem.W.subIn K t (.ref C) else none) = some b
  rw [hc, ty, if_pos (by simp)]
  exact s
theorem kit_tyc {K : PySem.W.Frag} {C : Addr} {T : String} {b : Bool} (m : PySem.W.kitMeta T = true) (s : PySem.W.subIn K (.ref C) (.type T) = some b) : PySem.W.kitOne K (.ref C) (.type T) = some b := by
  unfold PySem.W.kitOne
  rw [if_neg (by simp)]
  show (if PySem.W.kitMeta T = true then PySem.W.subIn K (.ref C) (.type T) else none) = some b
  rw [if_pos m]
  exact s
theorem paired_rev {α β : Type} {R : α → β → Prop} : ∀ {l : List α} {m : List β}, Paired R l m → Paired R l.reverse m.reverse
  | _, _, .nil => .nil
  | _, _, .cons h t => by
    rw [List.reverse_cons, List.reverse_cons]
    exact Paired.snoc h (paired_rev t)
theorem fun_kbnR {K : PySem.W.Frag} {x qual : Str} {st : Stmt} {f : Addr} {fd : FuncData} {ps : List Str} {n : Nat} {ks : List Str} (F : Fun K x qual st f fd)
    (h : ∀ (kV doc pm : Value) (an : Option Addr) (cdv ct : Value) (us ws : List Value), us.length = n → ws.length = ks.length → bindArgs (PySem.W.fnOf x qual (defArgs st) (defBody st) (defScope st) .none kV doc pm an cdv ct) ⟨us, ks.zip ws⟩ = pure (ps.zip (us ++ ws.reverse))) :
    KBn K fd ps n ks (fun us ws => us ++ ws.reverse) (fun vs zs => vs ++ zs.reverse) := by
  obtain ⟨oc, od, kV, doc, pm, an, cdv, ct, osl, rfl, lk, hcd⟩ := F.ex
  exact ⟨fun s us ws _ l1 l2 => .of_eq (h kV doc pm an cdv ct us ws l1 l2), fun r1 r2 => r1.append (paired_rev r2)⟩
theorem fund1 {K : PySem.W.Frag} {x qual : Str} {st : Stmt} {f T : Addr} {oc : Value} {od an : Option Addr} {osl : Array (Option Value)} {kV doc pm cdv ct : Value} {tk : Tok} {oT : Value} {dT : Option Addr} {n : Nat} {sT : Array (Option Value)}
    (l : K.lookup f = some ⟨oc, od, .func (PySem.W.fnOf x qual (defArgs st) (defBody st) (defScope st) (.ref T) kV doc pm an cdv ct), osl⟩) (c : PySem.W.codeIn K cdv qual = true) (k : PySem.W.keepIn K (.ref f) = true) (t : K.lookup T = some ⟨oT, dT, .seq [Value.int 1 tk].toArray n, sT⟩) :
    FunD K x qual (defArgs st) (defBody st) (defScope st) [.int 1] [] f (PySem.W.fnOf x qual (defArgs st) (defBody st) (defScope st) (.ref T) kV doc pm an cdv ct) :=
  ⟨⟨oc, od, .ref T, kV, doc, pm, an, cdv, ct, osl, rfl, l, c, .inr ⟨by simp, T, _, [.int 1 tk], n, rfl, t, rfl, .cons ⟨tk, rfl⟩ .nil⟩, .inl rfl⟩, k⟩
theorem law_gives {K : PySem.W.Frag} (H : Hp) (a : Addr) (ns : List Int) (h : SqL K H a (ns.map V.int)) : lift K spLaw [] [.ref a] H fun v _ => v = .bl true :=
  ⟨[.val (.frl ns)], ⟨H, fun _ => False⟩, fun d => d = .bl true, ⟨fun b ⟨_, _, _, z⟩ => absurd z List.not_mem_nil, Ex.refl H, fun _ z => z.elim⟩, .cons (.frl h) .nil, ⟨ns, rfl, rfl⟩, fun d v W' H' _ _ n q => by
    cases n <;> first | rfl | (cases q; done) | (cases q; rfl)⟩
theorem fun_kbnG {K : PySem.W.Frag} {x qual : Str} {st : Stmt} {f : Addr} {fd : FuncData} {ps : List Str} {n : Nat} {ks : List Str} (g : ∀ {α : Type}, List α → List α) (hg : ∀ {α β : Type} {R : α → β → Prop} {l : List α} {m : List β}, Paired R l m → Paired R (g l) (g m)) (F : Fun K x qual st f fd)
    (h : ∀ (kV doc pm : Value) (an : Option Addr) (cdv ct : Value) (us ws : List Value), us.length = n → ws.length = ks.length → bindArgs (PySem.W.fnOf x qual (defArgs st) (defBody st) (defScope st) .none kV doc pm an cdv ct) ⟨us, ks.zip ws⟩ = pure (ps.zip (us ++ g ws))) :
    KBn K fd ps n ks (fun us ws => us ++ g ws) (fun vs zs => vs ++ g zs) := by
  obtain ⟨oc, od, kV, doc, pm, an, cdv, ct, osl, rfl, lk, hcd⟩ := F.ex
  exact ⟨fun s us ws _ l1 l2 => .of_eq (h kV doc pm an cdv ct us ws l1 l2), fun r1 r2 => r1.append (hg r2)⟩
theorem paired_ro3 {α β : Type} {R : α → β → Prop} : ∀ {l : List α} {m : List β}, Paired R l m → Paired R (ro3 l) (ro3 m)
  | _, _, .nil => .nil
  | _, _, .cons a .nil => .cons a .nil
  | _, _, .cons a (.cons b .nil) => .cons a (.cons b .nil)
  | _, _, .cons a (.cons b (.cons c .nil)) => .cons b (.cons c (.cons a .nil))
  | _, _, .cons a (.cons b (.cons c (.cons d t))) => .cons a (.cons b (.cons c (.cons d t)))
theorem paired_sw3 {α β : Type} {R : α → β → Prop} : ∀ {l : List α} {m : List β}, Paired R l m → Paired R (sw3 l) (sw3 m)
  | _, _, .nil => .nil
  | _, _, .cons a .nil => .cons a .nil
  | _, _, .cons a (.cons b .nil) => .cons a (.cons b .nil)
  | _, _, .cons a (.cons b (.cons c .nil)) => .cons b (.cons a (.cons c .nil))
  | _, _, .cons a (.cons b (.cons c (.cons d t))) => .cons a (.cons b (.cons c (.cons d t)))
theorem fundT {K : PySem.W.Frag} {x qual : Str} {st : Stmt} {f T T2 : Addr} {oc : Value} {od an : Option Addr} {osl : Array (Option Value)} {kV doc pm cdv ct : Value} {oT : Value} {dT : Option Addr} {n : Nat} {sT : Array (Option Value)}
    (l : K.lookup f = some ⟨oc, od, .func (PySem.W.fnOf x qual (defArgs st) (defBody st) (defScope st) (.ref T) kV doc pm an cdv ct), osl⟩) (c : PySem.W.codeIn K cdv qual = true) (k : PySem.W.keepIn K (.ref f) = true) (t : K.lookup T = some ⟨oT, dT, .seq [Value.ref T2].toArray n, sT⟩) :
    FunD K x qual (defArgs st) (defBody st) (defScope st) [.ref T2] [] f (PySem.W.fnOf x qual (defArgs st) (defBody st) (defScope st) (.ref T) kV doc pm an cdv ct) :=
  ⟨⟨oc, od, .ref T, kV, doc, pm, an, cdv, ct, osl, rfl, l, c, .inr ⟨by simp, T, _, [.ref T2], n, rfl, t, rfl, .cons rfl .nil⟩, .inl rfl⟩, k⟩
theorem lw_mk {P : Program} {w : World} {K : PySem.W.Frag} {h : Heap} {mg : Str → Option Value} {fa : Addr} (X : K.In h) (G : h.Ns mainGlobals mg) (hfa : mg "law" = some (.ref fa))
    {C CB f_init f_binit T2 f_isint f_iscount f_islist f_counts f_small f_rising f_isnum f_above f_nums f_ratof f_let f_gath f_entry f_ck f_ckw f_ckd f_worth f_slope f_bend f_lean f_bup f_along f_term f_line f_tl f_way f_taken f_tt f_pot f_draw f_pick f_low f_sum f_by f_less f_tot f_pass f_pair f_pairs f_lets f_cnt f_amt f_drn f_ent f_bln f_lwo f_wts f_dir f_gvn f_mv f_aup f_lr f_rr f_right f_law f_add f_radd f_sub f_mul f_rmul f_eq f_repr f_bents f_badd f_bsc f_beq f_brepr f_ptop f_pbot f_psign f_blet f_bdeg f_bno p_ptop p_pbot p_psign p_blet p_bdeg p_bno : Addr} {r_ptop r_pbot r_psign r_blet r_bdeg r_bno : List Value} {rlm rla : Option Value} {tk1 tk2 tk3 : Tok} {dd2 : Option Addr} {n2 : Nat} {s2 : Array (Option Value)}
    (aC : PySem.W.nsIn K mainGlobals "Ratio" = some (some (.ref C)))
    (aCB : PySem.W.nsIn K mainGlobals "Blend" = some (some (.ref CB)))
    (a_isint : PySem.W.nsIn K mainGlobals "is_integer" = some (some (.ref f_isint)))
    (F_isint : ∃ fd, Fun K "is_integer" "is_integer" (top 3) f_isint fd)
    (a_iscount : PySem.W.nsIn K mainGlobals "is_count" = some (some (.ref f_iscount)))
    (F_iscount : ∃ fd, Fun K "is_count" "is_count" (top 4) f_iscount fd)
    (a_islist : PySem.W.nsIn K mainGlobals "is_list" = some (some (.ref f_islist)))
    (F_islist : ∃ fd, Fun K "is_list" "is_list" (top 5) f_islist fd)
    (a_counts : PySem.W.nsIn K mainGlobals "is_counts" = some (some (.ref f_counts)))
    (F_counts : ∃ fd, Fun K "is_counts" "is_counts" (top 6) f_counts fd)
    (a_small : PySem.W.nsIn K mainGlobals "is_small_letter" = some (some (.ref f_small)))
    (F_small : ∃ fd, Fun K "is_small_letter" "is_small_letter" (top 7) f_small fd)
    (a_rising : PySem.W.nsIn K mainGlobals "is_rising" = some (some (.ref f_rising)))
    (F_rising : ∃ fd, Fun K "is_rising" "is_rising" (top 8) f_rising fd)
    (a_isnum : PySem.W.nsIn K mainGlobals "is_number" = some (some (.ref f_isnum)))
    (F_isnum : ∃ fd, Fun K "is_number" "is_number" (top 25) f_isnum fd)
    (a_above : PySem.W.nsIn K mainGlobals "is_above" = some (some (.ref f_above)))
    (F_above : ∃ fd, Fun K "is_above" "is_above" (top 26) f_above fd)
    (a_nums : PySem.W.nsIn K mainGlobals "is_numbers" = some (some (.ref f_nums)))
    (F_nums : ∃ fd, Fun K "is_numbers" "is_numbers" (top 27) f_nums fd)
    (a_ratof : PySem.W.nsIn K mainGlobals "ratio_of" = some (some (.ref f_ratof)))
    (F_ratof : ∃ fd, Fun K "ratio_of" "ratio_of" (top 28) f_ratof fd)
    (a_let : PySem.W.nsIn K mainGlobals "is_letters" = some (some (.ref f_let)))
    (F_let : ∃ fd, Fun K "is_letters" "is_letters" (top 34) f_let fd)
    (a_gath : PySem.W.nsIn K mainGlobals "gathered" = some (some (.ref f_gath)))
    (F_gath : ∃ fd, Fun K "gathered" "gathered" (top 35) f_gath fd)
    (a_entry : PySem.W.nsIn K mainGlobals "_is_entry" = some (some (.ref f_entry)))
    (F_entry : ∃ fd, Fun K "_is_entry" "_is_entry" (top 36) f_entry fd)
    (a_ck : PySem.W.nsIn K mainGlobals "check_blend" = some (some (.ref f_ck)))
    (F_ck : ∃ fd, Fun K "check_blend" "check_blend" (top 39) f_ck fd)
    (a_ckw : PySem.W.nsIn K mainGlobals "check_weights" = some (some (.ref f_ckw)))
    (F_ckw : ∃ fd, Fun K "check_weights" "check_weights" (top 40) f_ckw fd)
    (a_ckd : PySem.W.nsIn K mainGlobals "check_direction" = some (some (.ref f_ckd)))
    (F_ckd : ∃ fd, Fun K "check_direction" "check_direction" (top 41) f_ckd fd)
    (a_worth : PySem.W.nsIn K mainGlobals "worth" = some (some (.ref f_worth)))
    (F_worth : ∃ fd, Fun K "worth" "worth" (top 43) f_worth fd)
    (a_slope : PySem.W.nsIn K mainGlobals "slope" = some (some (.ref f_slope)))
    (F_slope : ∃ fd, Fun K "slope" "slope" (top 44) f_slope fd)
    (a_bend : PySem.W.nsIn K mainGlobals "bend" = some (some (.ref f_bend)))
    (F_bend : ∃ fd, Fun K "bend" "bend" (top 45) f_bend fd)
    (a_lean : PySem.W.nsIn K mainGlobals "lean" = some (some (.ref f_lean)))
    (F_lean : ∃ fd, Fun K "lean" "lean" (top 46) f_lean fd)
    (a_bup : PySem.W.nsIn K mainGlobals "bends_up" = some (some (.ref f_bup)))
    (F_bup : ∃ fd, Fun K "bends_up" "bends_up" (top 47) f_bup fd)
    (a_along : PySem.W.nsIn K mainGlobals "along" = some (some (.ref f_along)))
    (F_along : ∃ fd, Fun K "along" "along" (top 48) f_along fd)
    (a_term : PySem.W.nsIn K mainGlobals "_term" = some (some (.ref f_term)))
    (F_term : ∃ fd, Fun K "_term" "_term" (top 49) f_term fd)
    (a_line : PySem.W.nsIn K mainGlobals "line_of" = some (some (.ref f_line)))
    (F_line : ∃ fd, Fun K "line_of" "line_of" (top 50) f_line fd)
    (a_tl : PySem.W.nsIn K mainGlobals "_times_letter" = some (some (.ref f_tl)))
    (F_tl : ∃ fd, Fun K "_times_letter" "_times_letter" (top 51) f_tl fd)
    (a_way : PySem.W.nsIn K mainGlobals "is_way" = some (some (.ref f_way)))
    (F_way : ∃ fd, Fun K "is_way" "is_way" (top 53) f_way fd)
    (a_taken : PySem.W.nsIn K mainGlobals "taken" = some (some (.ref f_taken)))
    (F_taken : ∃ fd, Fun K "taken" "taken" (top 54) f_taken fd)
    (a_tt : PySem.W.nsIn K mainGlobals "_times_taken" = some (some (.ref f_tt)))
    (F_tt : ∃ fd, Fun K "_times_taken" "_times_taken" (top 55) f_tt fd)
    (a_pot : PySem.W.nsIn K mainGlobals "_law_pot" = some (some (.ref f_pot)))
    (F_pot : ∃ fd, Fun K "_law_pot" "_law_pot" (top 57) f_pot fd)
    (a_draw : PySem.W.nsIn K mainGlobals "_law_draw" = some (some (.ref f_draw)))
    (F_draw : ∃ fd, Fun K "_law_draw" "_law_draw" (top 58) f_draw fd)
    (a_pick : PySem.W.nsIn K mainGlobals "_law_pick" = some (some (.ref f_pick)))
    (F_pick : ∃ fd, Fun K "_law_pick" "_law_pick" (top 59) f_pick fd)
    (a_low : PySem.W.nsIn K mainGlobals "_law_low" = some (some (.ref f_low)))
    (F_low : ∃ fd, Fun K "_law_low" "_law_low" (top 60) f_low fd)
    (a_sum : PySem.W.nsIn K mainGlobals "_law_sum" = some (some (.ref f_sum)))
    (F_sum : ∃ fd, Fun K "_law_sum" "_law_sum" (top 61) f_sum fd)
    (a_by : PySem.W.nsIn K mainGlobals "_law_by" = some (some (.ref f_by)))
    (F_by : ∃ fd, Fun K "_law_by" "_law_by" (top 62) f_by fd)
    (a_less : PySem.W.nsIn K mainGlobals "_law_less" = some (some (.ref f_less)))
    (F_less : ∃ fd, Fun K "_law_less" "_law_less" (top 63) f_less fd)
    (a_tot : PySem.W.nsIn K mainGlobals "_law_total" = some (some (.ref f_tot)))
    (F_tot : ∃ fd, Fun K "_law_total" "_law_total" (top 64) f_tot fd)
    (a_pass : PySem.W.nsIn K mainGlobals "_law_passed" = some (some (.ref f_pass)))
    (F_pass : ∃ fd, Fun K "_law_passed" "_law_passed" (top 65) f_pass fd)
    (a_pair : PySem.W.nsIn K mainGlobals "_law_pair" = some (some (.ref f_pair)))
    (F_pair : ∃ fd, Fun K "_law_pair" "_law_pair" (top 66) f_pair fd)
    (a_pairs : PySem.W.nsIn K mainGlobals "_law_pairs" = some (some (.ref f_pairs)))
    (F_pairs : ∃ fd, Fun K "_law_pairs" "_law_pairs" (top 67) f_pairs fd)
    (a_lets : PySem.W.nsIn K mainGlobals "_law_letters" = some (some (.ref f_lets)))
    (F_lets : ∃ fd, Fun K "_law_letters" "_law_letters" (top 68) f_lets fd)
    (a_cnt : PySem.W.nsIn K mainGlobals "_law_counts" = some (some (.ref f_cnt)))
    (F_cnt : ∃ fd, Fun K "_law_counts" "_law_counts" (top 69) f_cnt fd)
    (a_amt : PySem.W.nsIn K mainGlobals "_law_amount" = some (some (.ref f_amt)))
    (F_amt : ∃ fd, Fun K "_law_amount" "_law_amount" (top 70) f_amt fd)
    (a_drn : PySem.W.nsIn K mainGlobals "_law_drawn" = some (some (.ref f_drn)))
    (F_drn : ∃ fd, Fun K "_law_drawn" "_law_drawn" (top 71) f_drn fd)
    (a_ent : PySem.W.nsIn K mainGlobals "_law_entries" = some (some (.ref f_ent)))
    (F_ent : ∃ fd, Fun K "_law_entries" "_law_entries" (top 72) f_ent fd)
    (a_bln : PySem.W.nsIn K mainGlobals "_law_blend" = some (some (.ref f_bln)))
    (F_bln : ∃ fd, Fun K "_law_blend" "_law_blend" (top 73) f_bln fd)
    (a_lwo : PySem.W.nsIn K mainGlobals "_law_worth" = some (some (.ref f_lwo)))
    (F_lwo : ∃ fd, Fun K "_law_worth" "_law_worth" (top 74) f_lwo fd)
    (a_wts : PySem.W.nsIn K mainGlobals "_law_weights" = some (some (.ref f_wts)))
    (F_wts : ∃ fd, Fun K "_law_weights" "_law_weights" (top 75) f_wts fd)
    (a_dir : PySem.W.nsIn K mainGlobals "_law_direction" = some (some (.ref f_dir)))
    (F_dir : ∃ fd, Fun K "_law_direction" "_law_direction" (top 76) f_dir fd)
    (a_gvn : PySem.W.nsIn K mainGlobals "_law_given" = some (some (.ref f_gvn)))
    (F_gvn : ∃ fd, Fun K "_law_given" "_law_given" (top 77) f_gvn fd)
    (a_mv : PySem.W.nsIn K mainGlobals "_law_moved" = some (some (.ref f_mv)))
    (F_mv : ∃ fd, Fun K "_law_moved" "_law_moved" (top 78) f_mv fd)
    (a_aup : PySem.W.nsIn K mainGlobals "_law_added_up" = some (some (.ref f_aup)))
    (F_aup : ∃ fd, Fun K "_law_added_up" "_law_added_up" (top 79) f_aup fd)
    (a_lr : PySem.W.nsIn K mainGlobals "_law_line_right" = some (some (.ref f_lr)))
    (F_lr : ∃ fd, Fun K "_law_line_right" "_law_line_right" (top 80) f_lr fd)
    (a_rr : PySem.W.nsIn K mainGlobals "_law_rules_right" = some (some (.ref f_rr)))
    (F_rr : ∃ fd, Fun K "_law_rules_right" "_law_rules_right" (top 81) f_rr fd)
    (a_right : PySem.W.nsIn K mainGlobals "_law_right" = some (some (.ref f_right)))
    (F_right : ∃ fd, Fun K "_law_right" "_law_right" (top 82) f_right fd)
    (a_law : PySem.W.nsIn K mainGlobals "law" = some (some (.ref f_law)))
    (F_law : ∃ fd, Fun K "law" "law" (top 83) f_law fd)
    (a_init : PySem.W.findIn K (.ref C) "__init__" = some (some (.ref f_init)))
    (i_init : PySem.W.isFn K (.ref f_init) = true)
    (F_init : ∃ fd, FunD K "__init__" "Ratio.__init__" (defArgs sInit) (defBody sInit) (defScope sInit) [.int 1] [] f_init fd)
    (a_binit : PySem.W.findIn K (.ref CB) "__init__" = some (some (.ref f_binit)))
    (i_binit : PySem.W.isFn K (.ref f_binit) = true)
    (F_binit : ∃ fd, FunD K "__init__" "Blend.__init__" (defArgs (ble 0)) (defBody (ble 0)) (defScope (ble 0)) [.ref T2] [] f_binit fd)
    (t2 : K.lookup T2 = some ⟨.type "tuple", dd2, .seq #[] n2, s2⟩)
    (a_add : PySem.W.findIn K (.ref C) "__add__" = some (some (.ref f_add)))
    (i_add : PySem.W.isFn K (.ref f_add) = true)
    (F_add : ∃ fd, Fun K "__add__" "Ratio.__add__" (rat 5) f_add fd)
    (a_radd : PySem.W.findIn K (.ref C) "__radd__" = some (some (.ref f_radd)))
    (i_radd : PySem.W.isFn K (.ref f_radd) = true)
    (F_radd : ∃ fd, Fun K "__radd__" "Ratio.__radd__" (rat 6) f_radd fd)
    (a_sub : PySem.W.findIn K (.ref C) "__sub__" = some (some (.ref f_sub)))
    (i_sub : PySem.W.isFn K (.ref f_sub) = true)
    (F_sub : ∃ fd, Fun K "__sub__" "Ratio.__sub__" (rat 7) f_sub fd)
    (a_mul : PySem.W.findIn K (.ref C) "__mul__" = some (some (.ref f_mul)))
    (i_mul : PySem.W.isFn K (.ref f_mul) = true)
    (F_mul : ∃ fd, Fun K "__mul__" "Ratio.__mul__" (rat 9) f_mul fd)
    (a_rmul : PySem.W.findIn K (.ref C) "__rmul__" = some (some (.ref f_rmul)))
    (i_rmul : PySem.W.isFn K (.ref f_rmul) = true)
    (F_rmul : ∃ fd, Fun K "__rmul__" "Ratio.__rmul__" (rat 10) f_rmul fd)
    (a_eq : PySem.W.findIn K (.ref C) "__eq__" = some (some (.ref f_eq)))
    (i_eq : PySem.W.isFn K (.ref f_eq) = true)
    (F_eq : ∃ fd, Fun K "__eq__" "Ratio.__eq__" (rat 17) f_eq fd)
    (a_repr : PySem.W.findIn K (.ref C) "__repr__" = some (some (.ref f_repr)))
    (i_repr : PySem.W.isFn K (.ref f_repr) = true)
    (F_repr : ∃ fd, Fun K "__repr__" "Ratio.__repr__" (rat 19) f_repr fd)
    (a_ptop : PySem.W.findIn K (.ref C) "top" = some (some (.ref p_ptop)))
    (g_ptop : PySem.W.specialIn K (.ref p_ptop) "__get__" = some (some (.builtin "property.__get__")))
    (t_ptop : PySem.W.takesIn K (.ref p_ptop) = some true)
    (c_ptop : PySem.W.recIn K p_ptop "property" = some (.ref f_ptop :: r_ptop))
    (F_ptop : ∃ fd, Fun K "top" "Ratio.top" (rat 1) f_ptop fd)
    (a_pbot : PySem.W.findIn K (.ref C) "bottom" = some (some (.ref p_pbot)))
    (g_pbot : PySem.W.specialIn K (.ref p_pbot) "__get__" = some (some (.builtin "property.__get__")))
    (t_pbot : PySem.W.takesIn K (.ref p_pbot) = some true)
    (c_pbot : PySem.W.recIn K p_pbot "property" = some (.ref f_pbot :: r_pbot))
    (F_pbot : ∃ fd, Fun K "bottom" "Ratio.bottom" (rat 2) f_pbot fd)
    (a_psign : PySem.W.findIn K (.ref C) "sign" = some (some (.ref p_psign)))
    (g_psign : PySem.W.specialIn K (.ref p_psign) "__get__" = some (some (.builtin "property.__get__")))
    (t_psign : PySem.W.takesIn K (.ref p_psign) = some true)
    (c_psign : PySem.W.recIn K p_psign "property" = some (.ref f_psign :: r_psign))
    (F_psign : ∃ fd, Fun K "sign" "Ratio.sign" (rat 3) f_psign fd)
    (a_bents : PySem.W.findIn K (.ref CB) "entries" = some (some (.ref f_bents)))
    (i_bents : PySem.W.isFn K (.ref f_bents) = true)
    (F_bents : ∃ fd, Fun K "entries" "Blend.entries" (ble 5) f_bents fd)
    (a_badd : PySem.W.findIn K (.ref CB) "__add__" = some (some (.ref f_badd)))
    (i_badd : PySem.W.isFn K (.ref f_badd) = true)
    (F_badd : ∃ fd, Fun K "__add__" "Blend.__add__" (ble 7) f_badd fd)
    (a_bsc : PySem.W.findIn K (.ref CB) "scaled" = some (some (.ref f_bsc)))
    (i_bsc : PySem.W.isFn K (.ref f_bsc) = true)
    (F_bsc : ∃ fd, Fun K "scaled" "Blend.scaled" (ble 9) f_bsc fd)
    (a_beq : PySem.W.findIn K (.ref CB) "__eq__" = some (some (.ref f_beq)))
    (i_beq : PySem.W.isFn K (.ref f_beq) = true)
    (F_beq : ∃ fd, Fun K "__eq__" "Blend.__eq__" (ble 10) f_beq fd)
    (a_brepr : PySem.W.findIn K (.ref CB) "__repr__" = some (some (.ref f_brepr)))
    (i_brepr : PySem.W.isFn K (.ref f_brepr) = true)
    (F_brepr : ∃ fd, Fun K "__repr__" "Blend.__repr__" (ble 11) f_brepr fd)
    (a_blet : PySem.W.findIn K (.ref CB) "letters" = some (some (.ref p_blet)))
    (g_blet : PySem.W.specialIn K (.ref p_blet) "__get__" = some (some (.builtin "property.__get__")))
    (t_blet : PySem.W.takesIn K (.ref p_blet) = some true)
    (c_blet : PySem.W.recIn K p_blet "property" = some (.ref f_blet :: r_blet))
    (F_blet : ∃ fd, Fun K "letters" "Blend.letters" (ble 1) f_blet fd)
    (a_bdeg : PySem.W.findIn K (.ref CB) "degree" = some (some (.ref p_bdeg)))
    (g_bdeg : PySem.W.specialIn K (.ref p_bdeg) "__get__" = some (some (.builtin "property.__get__")))
    (t_bdeg : PySem.W.takesIn K (.ref p_bdeg) = some true)
    (c_bdeg : PySem.W.recIn K p_bdeg "property" = some (.ref f_bdeg :: r_bdeg))
    (F_bdeg : ∃ fd, Fun K "degree" "Blend.degree" (ble 2) f_bdeg fd)
    (a_bno : PySem.W.findIn K (.ref CB) "is_nought" = some (some (.ref p_bno)))
    (g_bno : PySem.W.specialIn K (.ref p_bno) "__get__" = some (some (.builtin "property.__get__")))
    (t_bno : PySem.W.takesIn K (.ref p_bno) = some true)
    (c_bno : PySem.W.recIn K p_bno "property" = some (.ref f_bno :: r_bno))
    (F_bno : ∃ fd, Fun K "is_nought" "Blend.is_nought" (ble 3) f_bno fd)
    (pg : PySem.W.plainGet K C Str.empty = true)
    (hd : PySem.W.hasDictIn K C = true)
    (po : PySem.W.plainOver K C = true)
    (sa : PySem.W.findIn K (.ref C) "__setattr__" = some (some (.builtin "object.__setattr__")))
    (mk : PySem.W.makesIn K C = true)
    (kc : PySem.W.keepIn K (.ref C) = true)
    (nT : PySem.W.findIn K (.ref C) "_top" = some none)
    (nB : PySem.W.findIn K (.ref C) "_bottom" = some none)
    (ne : PySem.W.findIn K (.ref C) "__ne__" = some (some (.builtin "object.__ne__")))
    (sf : PySem.W.selfFirst K C = true)
    (nf : PySem.W.notFirst K C (.ref C) = true)
    (ni : PySem.W.notFirst K C (.type "int") = true)
    (sub_is : PySem.W.subIn K (.ref C) (.type "int") = some false)
    (sub_ob : PySem.W.subIn K (.ref C) (.type "object") = some true)
    (sub_li : PySem.W.subIn K (.ref C) (.type "list") = some false)
    (sub_tu : PySem.W.subIn K (.ref C) (.type "tuple") = some false)
    (ca : PySem.W.findIn K (.ref C) "__class__" = some (some (.builtin "object.__class__")))
    (cm : PySem.W.mroIn K C (.type "object") = some true)
    (pgB : PySem.W.plainGet K CB Str.empty = true)
    (hdB : PySem.W.hasDictIn K CB = true)
    (poB : PySem.W.plainOver K CB = true)
    (saB : PySem.W.findIn K (.ref CB) "__setattr__" = some (some (.builtin "object.__setattr__")))
    (mkB : PySem.W.makesIn K CB = true)
    (kcB : PySem.W.keepIn K (.ref CB) = true)
    (nL : PySem.W.findIn K (.ref CB) "_letters" = some none)
    (nD : PySem.W.findIn K (.ref CB) "_degree" = some none)
    (nA : PySem.W.findIn K (.ref CB) "_amounts" = some none)
    (neB : PySem.W.findIn K (.ref CB) "__ne__" = some (some (.builtin "object.__ne__")))
    (sfB : PySem.W.selfFirst K CB = true)
    (nfB : PySem.W.notFirst K CB (.ref CB) = true)
    (niB : PySem.W.notFirst K CB (.type "int") = true)
    (sub_isB : PySem.W.subIn K (.ref CB) (.type "int") = some false)
    (sub_obB : PySem.W.subIn K (.ref CB) (.type "object") = some true)
    (caB : PySem.W.findIn K (.ref CB) "__class__" = some (some (.builtin "object.__class__")))
    (cmB : PySem.W.mroIn K CB (.type "object") = some true)
    (cn : PySem.W.specialIn K (.builtin "object.__class__") "__get__" = some (some (.builtin "getset_descriptor.__get__")))
    (ct : PySem.W.takesIn K (.builtin "object.__class__") = some true)
    (tyCB : PySem.W.typeIn K (.ref CB) = some (.type "type"))
    (tyC : PySem.W.typeIn K (.ref C) = some (.type "type"))
    (s_NoneType : PySem.W.subIn K (.type "NoneType") (.ref C) = some false)
    (s_bool : PySem.W.subIn K (.type "bool") (.ref C) = some false)
    (s_str : PySem.W.subIn K (.type "str") (.ref C) = some false)
    (s_tuple : PySem.W.subIn K (.type "tuple") (.ref C) = some false)
    (s_list : PySem.W.subIn K (.type "list") (.ref C) = some false)
    (s_int : PySem.W.subIn K (.type "int") (.ref C) = some false)
    (s_dict : PySem.W.subIn K (.type "dict") (.ref C) = some false)
    (s_listB : PySem.W.subIn K (.type "list") (.ref CB) = some false)
    (s_strB : PySem.W.subIn K (.type "str") (.ref CB) = some false)
    (nlB : PySem.W.notFirst K CB (.type "list") = true)
    (nsB : PySem.W.notFirst K CB (.type "str") = true)
    (s_intB : PySem.W.subIn K (.type "int") (.ref CB) = some false)
    (lm : PySem.W.findIn K (.type "int") "__rmul__" = some rlm)
    (la : PySem.W.findIn K (.type "int") "__radd__" = some rla)
    (z_gcd : PySem.W.nsIn K mainGlobals "gcd" = some (some (.builtin "math.gcd")))
    (z_perm : PySem.W.nsIn K mainGlobals "perm" = some (some (.builtin "math.perm")))
    (z_ml : PySem.W.nsIn K mainGlobals "MOST_LETTERS" = some (some (.int 8 tk1)))
    (z_md : PySem.W.nsIn K mainGlobals "MOST_DEGREE" = some (some (.int 8 tk2)))
    (z_me : PySem.W.nsIn K mainGlobals "MOST_ENTRIES" = some (some (.int 300 tk3)))
    (z_isinstance : PySem.W.nsIn K mainGlobals "isinstance" = some none)
    (z_int : PySem.W.nsIn K mainGlobals "int" = some none)
    (z_bool : PySem.W.nsIn K mainGlobals "bool" = some none)
    (z_list : PySem.W.nsIn K mainGlobals "list" = some none)
    (z_tuple : PySem.W.nsIn K mainGlobals "tuple" = some none)
    (z_abs : PySem.W.nsIn K mainGlobals "abs" = some none)
    (z_len : PySem.W.nsIn K mainGlobals "len" = some none)
    (z_max : PySem.W.nsIn K mainGlobals "max" = some none)
    (z_divmod : PySem.W.nsIn K mainGlobals "divmod" = some none)
    (z_str : PySem.W.nsIn K mainGlobals "str" = some none)
    (z_repr : PySem.W.nsIn K mainGlobals "repr" = some none)
    (z_range : PySem.W.nsIn K mainGlobals "range" = some none)
    (z_all : PySem.W.nsIn K mainGlobals "all" = some none)
    (z_zip : PySem.W.nsIn K mainGlobals "zip" = some none)
    (z_enumerate : PySem.W.nsIn K mainGlobals "enumerate" = some none)
    (z_sorted : PySem.W.nsIn K mainGlobals "sorted" = some none)
    (z_sum : PySem.W.nsIn K mainGlobals "sum" = some none)
    (z_min : PySem.W.nsIn K mainGlobals "min" = some none)
    (z_dict : PySem.W.nsIn K mainGlobals "dict" = some none)
    : ∃ fd : FuncData, (∀ (s : Shared) (v : Value), BindsTo s fd ⟨[v], []⟩ [("_law_script", v)]) ∧ ∀ base : Heap, K.In base → base.Ns mainGlobals mg → GnOk P w K mg base 14 fa fd ["_law_script"] (lift K spLaw) := by
  have e := hfa.symm.trans (PySem.W.mg_of X G a_law)
  cases e
  obtain ⟨d_isint, F_isint⟩ := F_isint
  obtain ⟨d_iscount, F_iscount⟩ := F_iscount
  obtain ⟨d_islist, F_islist⟩ := F_islist
  obtain ⟨d_counts, F_counts⟩ := F_counts
  obtain ⟨d_small, F_small⟩ := F_small
  obtain ⟨d_rising, F_rising⟩ := F_rising
  obtain ⟨d_isnum, F_isnum⟩ := F_isnum
  obtain ⟨d_above, F_above⟩ := F_above
  obtain ⟨d_nums, F_nums⟩ := F_nums
  obtain ⟨d_ratof, F_ratof⟩ := F_ratof
  obtain ⟨d_let, F_let⟩ := F_let
  obtain ⟨d_gath, F_gath⟩ := F_gath
  obtain ⟨d_entry, F_entry⟩ := F_entry
  obtain ⟨d_ck, F_ck⟩ := F_ck
  obtain ⟨d_ckw, F_ckw⟩ := F_ckw
  obtain ⟨d_ckd, F_ckd⟩ := F_ckd
  obtain ⟨d_worth, F_worth⟩ := F_worth
  obtain ⟨d_slope, F_slope⟩ := F_slope
  obtain ⟨d_bend, F_bend⟩ := F_bend
  obtain ⟨d_lean, F_lean⟩ := F_lean
  obtain ⟨d_bup, F_bup⟩ := F_bup
  obtain ⟨d_along, F_along⟩ := F_along
  obtain ⟨d_term, F_term⟩ := F_term
  obtain ⟨d_line, F_line⟩ := F_line
  obtain ⟨d_tl, F_tl⟩ := F_tl
  obtain ⟨d_way, F_way⟩ := F_way
  obtain ⟨d_taken, F_taken⟩ := F_taken
  obtain ⟨d_tt, F_tt⟩ := F_tt
  obtain ⟨d_pot, F_pot⟩ := F_pot
  obtain ⟨d_draw, F_draw⟩ := F_draw
  obtain ⟨d_pick, F_pick⟩ := F_pick
  obtain ⟨d_low, F_low⟩ := F_low
  obtain ⟨d_sum, F_sum⟩ := F_sum
  obtain ⟨d_by, F_by⟩ := F_by
  obtain ⟨d_less, F_less⟩ := F_less
  obtain ⟨d_tot, F_tot⟩ := F_tot
  obtain ⟨d_pass, F_pass⟩ := F_pass
  obtain ⟨d_pair, F_pair⟩ := F_pair
  obtain ⟨d_pairs, F_pairs⟩ := F_pairs
  obtain ⟨d_lets, F_lets⟩ := F_lets
  obtain ⟨d_cnt, F_cnt⟩ := F_cnt
  obtain ⟨d_amt, F_amt⟩ := F_amt
  obtain ⟨d_drn, F_drn⟩ := F_drn
  obtain ⟨d_ent, F_ent⟩ := F_ent
  obtain ⟨d_bln, F_bln⟩ := F_bln
  obtain ⟨d_lwo, F_lwo⟩ := F_lwo
  obtain ⟨d_wts, F_wts⟩ := F_wts
  obtain ⟨d_dir, F_dir⟩ := F_dir
  obtain ⟨d_gvn, F_gvn⟩ := F_gvn
  obtain ⟨d_mv, F_mv⟩ := F_mv
  obtain ⟨d_aup, F_aup⟩ := F_aup
  obtain ⟨d_lr, F_lr⟩ := F_lr
  obtain ⟨d_rr, F_rr⟩ := F_rr
  obtain ⟨d_right, F_right⟩ := F_right
  obtain ⟨d_law, F_law⟩ := F_law
  obtain ⟨d_init, F_init⟩ := F_init
  obtain ⟨d_binit, F_binit⟩ := F_binit
  obtain ⟨d_add, F_add⟩ := F_add
  obtain ⟨d_radd, F_radd⟩ := F_radd
  obtain ⟨d_sub, F_sub⟩ := F_sub
  obtain ⟨d_mul, F_mul⟩ := F_mul
  obtain ⟨d_rmul, F_rmul⟩ := F_rmul
  obtain ⟨d_eq, F_eq⟩ := F_eq
  obtain ⟨d_repr, F_repr⟩ := F_repr
  obtain ⟨d_bents, F_bents⟩ := F_bents
  obtain ⟨d_badd, F_badd⟩ := F_badd
  obtain ⟨d_bsc, F_bsc⟩ := F_bsc
  obtain ⟨d_beq, F_beq⟩ := F_beq
  obtain ⟨d_brepr, F_brepr⟩ := F_brepr
  obtain ⟨d_ptop, F_ptop⟩ := F_ptop
  obtain ⟨d_pbot, F_pbot⟩ := F_pbot
  obtain ⟨d_psign, F_psign⟩ := F_psign
  obtain ⟨d_blet, F_blet⟩ := F_blet
  obtain ⟨d_bdeg, F_bdeg⟩ := F_bdeg
  obtain ⟨d_bno, F_bno⟩ := F_bno
  have b_isint := F_isint.binds (ps := ["value"]) fun _ _ _ _ _ _ us hl => match us, hl with | [_], _ => rfl
  have b_iscount := F_iscount.binds (ps := ["value"]) fun _ _ _ _ _ _ us hl => match us, hl with | [_], _ => rfl
  have b_islist := F_islist.binds (ps := ["value"]) fun _ _ _ _ _ _ us hl => match us, hl with | [_], _ => rfl
  have b_counts := F_counts.binds (ps := ["value", "many"]) fun _ _ _ _ _ _ us hl => match us, hl with | [_, _], _ => rfl
  have b_small := F_small.binds (ps := ["value"]) fun _ _ _ _ _ _ us hl => match us, hl with | [_], _ => rfl
  have b_rising := F_rising.binds (ps := ["parts"]) fun _ _ _ _ _ _ us hl => match us, hl with | [_], _ => rfl
  have b_isnum := F_isnum.binds (ps := ["value"]) fun _ _ _ _ _ _ us hl => match us, hl with | [_], _ => rfl
  have b_above := F_above.binds (ps := ["value"]) fun _ _ _ _ _ _ us hl => match us, hl with | [_], _ => rfl
  have b_nums := F_nums.binds (ps := ["value", "many"]) fun _ _ _ _ _ _ us hl => match us, hl with | [_, _], _ => rfl
  have b_ratof := F_ratof.binds (ps := ["value"]) fun _ _ _ _ _ _ us hl => match us, hl with | [_], _ => rfl
  have b_let := F_let.binds (ps := ["value"]) fun _ _ _ _ _ _ us hl => match us, hl with | [_], _ => rfl
  have b_gath := F_gath.binds (ps := ["pairs"]) fun _ _ _ _ _ _ us hl => match us, hl with | [_], _ => rfl
  have b_entry := F_entry.binds (ps := ["entry", "many", "degree"]) fun _ _ _ _ _ _ us hl => match us, hl with | [_, _, _], _ => rfl
  have b_ck := F_ck.binds (ps := ["blend"]) fun _ _ _ _ _ _ us hl => match us, hl with | [_], _ => rfl
  have b_ckw := F_ckw.binds (ps := ["weights", "many"]) fun _ _ _ _ _ _ us hl => match us, hl with | [_, _], _ => rfl
  have b_ckd := F_ckd.binds (ps := ["direction", "many"]) fun _ _ _ _ _ _ us hl => match us, hl with | [_, _], _ => rfl
  have b_worth := F_worth.binds (ps := ["blend", "weights"]) fun _ _ _ _ _ _ us hl => match us, hl with | [_, _], _ => rfl
  have b_slope := F_slope.binds (ps := ["blend", "weights", "direction"]) fun _ _ _ _ _ _ us hl => match us, hl with | [_, _, _], _ => rfl
  have b_bend := F_bend.binds (ps := ["blend", "weights", "direction"]) fun _ _ _ _ _ _ us hl => match us, hl with | [_, _, _], _ => rfl
  have b_lean := F_lean.binds (ps := ["blend", "weights", "direction"]) fun _ _ _ _ _ _ us hl => match us, hl with | [_, _, _], _ => rfl
  have b_bup := F_bup.binds (ps := ["blend", "weights", "direction"]) fun _ _ _ _ _ _ us hl => match us, hl with | [_, _, _], _ => rfl
  have b_along := F_along.binds (ps := ["blend", "weights", "direction"]) fun _ _ _ _ _ _ us hl => match us, hl with | [_, _, _], _ => rfl
  have b_term := F_term.binds (ps := ["line", "power"]) fun _ _ _ _ _ _ us hl => match us, hl with | [_, _], _ => rfl
  have b_line := F_line.binds (ps := ["blend", "weights", "direction"]) fun _ _ _ _ _ _ us hl => match us, hl with | [_, _, _], _ => rfl
  have b_tl := F_tl.binds (ps := ["line", "weight", "change"]) fun _ _ _ _ _ _ us hl => match us, hl with | [_, _, _], _ => rfl
  have b_way := F_way.binds (ps := ["blend", "value"]) fun _ _ _ _ _ _ us hl => match us, hl with | [_, _], _ => rfl
  have b_taken := F_taken.binds (ps := ["blend", "way"]) fun _ _ _ _ _ _ us hl => match us, hl with | [_, _], _ => rfl
  have b_tt := F_tt.binds (ps := ["counts", "outs"]) fun _ _ _ _ _ _ us hl => match us, hl with | [_, _], _ => rfl
  have b_pot := F_pot.binds (ps := ["_law_script", "_law_k"]) fun _ _ _ _ _ _ us hl => match us, hl with | [_, _], _ => rfl
  have b_draw := F_draw.binds (ps := ["_law_pot_here", "_law_size"]) fun _ _ _ _ _ _ us hl => match us, hl with | [_, _], _ => rfl
  have b_pick := F_pick.binds (ps := ["_law_pot_here", "_law_some"]) fun _ _ _ _ _ _ us hl => match us, hl with | [_, _], _ => rfl
  have b_low := F_low.binds (ps := ["_law_top", "_law_bottom"]) fun _ _ _ _ _ _ us hl => match us, hl with | [_, _], _ => rfl
  have b_sum := F_sum.binds (ps := ["_law_one", "_law_other"]) fun _ _ _ _ _ _ us hl => match us, hl with | [_, _], _ => rfl
  have b_by := F_by.binds (ps := ["_law_one", "_law_other"]) fun _ _ _ _ _ _ us hl => match us, hl with | [_, _], _ => rfl
  have b_less := F_less.binds (ps := ["_law_one", "_law_other"]) fun _ _ _ _ _ _ us hl => match us, hl with | [_, _], _ => rfl
  have b_tot := F_tot.binds (ps := ["_law_pairs_here"]) fun _ _ _ _ _ _ us hl => match us, hl with | [_], _ => rfl
  have b_pass := F_pass.binds (ps := ["_law_pot_here", "_law_pair_here"]) fun _ _ _ _ _ _ us hl => match us, hl with | [_, _], _ => rfl
  have b_pair := F_pair.binds (ps := ["_law_value"]) fun _ _ _ _ _ _ us hl => match us, hl with | [_], _ => rfl
  have b_pairs := F_pairs.binds (ps := ["_law_value"]) fun _ _ _ _ _ _ us hl => match us, hl with | [_], _ => rfl
  have b_lets := F_lets.binds (ps := ["_law_pot_here", "_law_many"]) fun _ _ _ _ _ _ us hl => match us, hl with | [_, _], _ => rfl
  have b_cnt := F_cnt.binds (ps := ["_law_pot_here", "_law_many", "_law_degree"]) fun _ _ _ _ _ _ us hl => match us, hl with | [_, _, _], _ => rfl
  have b_amt := F_amt.binds (ps := ["_law_pot_here"]) fun _ _ _ _ _ _ us hl => match us, hl with | [_], _ => rfl
  have b_drn := F_drn.binds (ps := ["_law_pot_here", "_law_many", "_law_degree", "_law_most"]) fun _ _ _ _ _ _ us hl => match us, hl with | [_, _, _, _], _ => rfl
  have b_ent := F_ent.binds (ps := ["_law_pot_here", "_law_own"]) fun _ _ _ _ _ _ us hl => match us, hl with | [_, _], _ => rfl
  have b_bln := F_bln.binds (ps := ["_law_pot_here", "_law_letters_here", "_law_own"]) fun _ _ _ _ _ _ us hl => match us, hl with | [_, _, _], _ => rfl
  have b_lwo := F_lwo.binds (ps := ["_law_own", "_law_numbers"]) fun _ _ _ _ _ _ us hl => match us, hl with | [_, _], _ => rfl
  have b_wts := F_wts.binds (ps := ["_law_pot_here", "_law_many"]) fun _ _ _ _ _ _ us hl => match us, hl with | [_, _], _ => rfl
  have b_dir := F_dir.binds (ps := ["_law_pot_here", "_law_many"]) fun _ _ _ _ _ _ us hl => match us, hl with | [_, _], _ => rfl
  have b_gvn := F_gvn.binds (ps := ["_law_pot_here", "_law_pairs_here"]) fun _ _ _ _ _ _ us hl => match us, hl with | [_, _], _ => rfl
  have b_mv := F_mv.binds (ps := ["_law_weights_here", "_law_direction_here", "_law_step"]) fun _ _ _ _ _ _ us hl => match us, hl with | [_, _, _], _ => rfl
  have b_aup := F_aup.binds (ps := ["_law_pairs_here", "_law_step"]) fun _ _ _ _ _ _ us hl => match us, hl with | [_, _], _ => rfl
  have b_lr := F_lr.binds (ps := ["_law_pot_here", "_law_blend_here", "_law_own", "_law_weights_here", "_law_direction_here", "_law_passed_here", "_law_given_here"]) fun _ _ _ _ _ _ us hl => match us, hl with | [_, _, _, _, _, _, _], _ => rfl
  have b_rr := F_rr.binds (ps := ["_law_pot_here", "_law_blend_here", "_law_weights_here", "_law_direction_here", "_law_passed_here", "_law_given_here"]) fun _ _ _ _ _ _ us hl => match us, hl with | [_, _, _, _, _, _], _ => rfl
  have b_right := F_right.binds (ps := ["_law_pot_here"]) fun _ _ _ _ _ _ us hl => match us, hl with | [_], _ => rfl
  have b_law := F_law.binds (ps := ["_law_script"]) fun _ _ _ _ _ _ us hl => match us, hl with | [_], _ => rfl
  have b_add := F_add.binds (ps := ["self", "other"]) fun _ _ _ _ _ _ us hl => match us, hl with | [_, _], _ => rfl
  have b_radd := F_radd.binds (ps := ["self", "other"]) fun _ _ _ _ _ _ us hl => match us, hl with | [_, _], _ => rfl
  have b_sub := F_sub.binds (ps := ["self", "other"]) fun _ _ _ _ _ _ us hl => match us, hl with | [_, _], _ => rfl
  have b_mul := F_mul.binds (ps := ["self", "other"]) fun _ _ _ _ _ _ us hl => match us, hl with | [_, _], _ => rfl
  have b_rmul := F_rmul.binds (ps := ["self", "other"]) fun _ _ _ _ _ _ us hl => match us, hl with | [_, _], _ => rfl
  have b_eq := F_eq.binds (ps := ["self", "other"]) fun _ _ _ _ _ _ us hl => match us, hl with | [_, _], _ => rfl
  have b_repr := F_repr.binds (ps := ["self"]) fun _ _ _ _ _ _ us hl => match us, hl with | [_], _ => rfl
  have b_bents := F_bents.binds (ps := ["self"]) fun _ _ _ _ _ _ us hl => match us, hl with | [_], _ => rfl
  have b_badd := F_badd.binds (ps := ["self", "other"]) fun _ _ _ _ _ _ us hl => match us, hl with | [_, _], _ => rfl
  have b_bsc := F_bsc.binds (ps := ["self", "number"]) fun _ _ _ _ _ _ us hl => match us, hl with | [_, _], _ => rfl
  have b_beq := F_beq.binds (ps := ["self", "other"]) fun _ _ _ _ _ _ us hl => match us, hl with | [_, _], _ => rfl
  have b_brepr := F_brepr.binds (ps := ["self"]) fun _ _ _ _ _ _ us hl => match us, hl with | [_], _ => rfl
  have b_ptop := F_ptop.binds (ps := ["self"]) fun _ _ _ _ _ _ us hl => match us, hl with | [_], _ => rfl
  have b_pbot := F_pbot.binds (ps := ["self"]) fun _ _ _ _ _ _ us hl => match us, hl with | [_], _ => rfl
  have b_psign := F_psign.binds (ps := ["self"]) fun _ _ _ _ _ _ us hl => match us, hl with | [_], _ => rfl
  have b_blet := F_blet.binds (ps := ["self"]) fun _ _ _ _ _ _ us hl => match us, hl with | [_], _ => rfl
  have b_bdeg := F_bdeg.binds (ps := ["self"]) fun _ _ _ _ _ _ us hl => match us, hl with | [_], _ => rfl
  have b_bno := F_bno.binds (ps := ["self"]) fun _ _ _ _ _ _ us hl => match us, hl with | [_], _ => rfl
  obtain ⟨ds2, v2, b2⟩ := F_init.binds1 (ps := ["self", "top", "bottom"]) 3 1 (by simp) rfl fun T kV doc pm an cdv ct us its l1 l2 => match us, its, l1, l2 with | [_, _, _], [_], _, _ => ⟨_, rfl, rfl⟩
  obtain ⟨ds1, v1, b1⟩ := F_init.binds1 (ps := ["self", "top", "bottom"]) 2 0 (by simp) rfl fun T kV doc pm an cdv ct us its l1 l2 => match us, its, l1, l2 with | [_, _], [_], _, _ => ⟨_, rfl, rfl⟩
  obtain ⟨bds2, bv2, bb2⟩ := F_binit.binds1 (ps := ["self", "letters", "entries"]) 3 1 (by simp) rfl fun T kV doc pm an cdv ct us its l1 l2 => match us, its, l1, l2 with | [_, _, _], [_], _, _ => ⟨_, rfl, rfl⟩
  obtain ⟨bds1, bv1, bb1⟩ := F_binit.binds1 (ps := ["self", "letters", "entries"]) 2 0 (by simp) rfl fun T kV doc pm an cdv ct us its l1 l2 => match us, its, l1, l2 with | [_, _], [_], _, _ => ⟨_, rfl, rfl⟩
  have bK_along := fun_kbnR (ps := ["blend", "weights", "direction"]) (n := 0) (ks := ["direction", "weights", "blend"]) F_along fun _ _ _ _ _ _ us ws l1 l2 => match us, ws, l1, l2 with | [], [_, _, _], _, _ => rfl
  have bK_lean := fun_kbnR (ps := ["blend", "weights", "direction"]) (n := 0) (ks := ["direction", "weights", "blend"]) F_lean fun _ _ _ _ _ _ us ws l1 l2 => match us, ws, l1, l2 with | [], [_, _, _], _, _ => rfl
  have bK_slope := fun_kbnG (ps := ["blend", "weights", "direction"]) (n := 0) (ks := ["direction", "blend", "weights"]) (fun {α} => @ro3 α) (fun {α β R l m} h => paired_ro3 h) F_slope fun _ _ _ _ _ _ us ws l1 l2 => match us, ws, l1, l2 with | [], [_, _, _], _, _ => rfl
  have bK_bend := fun_kbnG (ps := ["blend", "weights", "direction"]) (n := 0) (ks := ["direction", "blend", "weights"]) (fun {α} => @ro3 α) (fun {α β R l m} h => paired_ro3 h) F_bend fun _ _ _ _ _ _ us ws l1 l2 => match us, ws, l1, l2 with | [], [_, _, _], _, _ => rfl
  have bK_bup := fun_kbnG (ps := ["blend", "weights", "direction"]) (n := 0) (ks := ["weights", "blend", "direction"]) (fun {α} => @sw3 α) (fun {α β R l m} h => paired_sw3 h) F_bup fun _ _ _ _ _ _ us ws l1 l2 => match us, ws, l1, l2 with | [], [_, _, _], _, _ => rfl
  have cl : Cls K C := ⟨pg, hd, po, sa⟩
  have clB : Cls K CB := ⟨pgB, hdB, poB, saB⟩
  have T : Txt K mg C := {
    nu := ⟨cl, sf, nf, ni, s_int, sub_is, sub_ob⟩
    is := ⟨cl, ca, cn, ct, cm⟩
    nT := nT
    nB := nB
    ne := ne
    mC := PySem.W.mg_of X G aC
    gcd := PySem.W.mg_of X G z_gcd
    isi := PySem.W.mg_none_of X G z_isinstance
    int := PySem.W.mg_none_of X G z_int
    bool := PySem.W.mg_none_of X G z_bool
    list := PySem.W.mg_none_of X G z_list
    tuple := PySem.W.mg_none_of X G z_tuple
    abs := PySem.W.mg_none_of X G z_abs
    len := PySem.W.mg_none_of X G z_len
    max := PySem.W.mg_none_of X G z_max
    divmod := PySem.W.mg_none_of X G z_divmod
    str := PySem.W.mg_none_of X G z_str
    repr := PySem.W.mg_none_of X G z_repr
    range := PySem.W.mg_none_of X G z_range
    all := PySem.W.mg_none_of X G z_all
    zip := PySem.W.mg_none_of X G z_zip
    k1 := kit_ty (by decide +kernel)
    k2 := kit_ty (by decide +kernel)
    k3 := kit_ty (by decide +kernel)
    k4 := kit_ty (by decide +kernel)
    k5 := kit_ty (by decide +kernel)
    k7 := kit_ty (by decide +kernel)
    k8 := kit_ty (by decide +kernel)
    k6 := kit_tyc (by decide +kernel) sub_is
    r1 := kit_ref hd tyC (fun z => by cases z) s_NoneType
    r2 := kit_ref hd tyC (fun z => by cases z) s_bool
    r3 := kit_ref hd tyC (fun z => by cases z) s_str
    r4 := kit_ref hd tyC (fun z => by cases z) s_tuple
    r5 := kit_ref hd tyC (fun z => by cases z) s_list
    r7 := kit_ref hd tyC (fun z => by cases z) s_int
    r8 := kit_ref hd tyC (fun z => by cases z) s_dict
    l0 := fun T h => by rcases h with rfl | rfl | rfl | rfl | rfl <;> exact kitAny_cons (b := false) (kit_ty (by decide +kernel)) (fun _ => kitAny_cons (b := false) (kit_ty (by decide +kernel)) (fun _ => rfl) (fun z => Bool.noConfusion z)) (fun z => Bool.noConfusion z)
    l3 := kitAny_cons (b := false) (kit_tyc (by decide +kernel) sub_li) (fun _ => kitAny_cons (b := false) (kit_tyc (by decide +kernel) sub_tu) (fun _ => rfl) (fun z => Bool.noConfusion z)) (fun z => Bool.noConfusion z)
    l1 := kitAny_cons (b := true) (same (beq_self_eq_true _)) (fun z => Bool.noConfusion z) (fun _ => rfl)
    l2 := kitAny_cons (b := false) (kit_ty (by decide +kernel)) (fun _ => kitAny_cons (b := true) (same (beq_self_eq_true _)) (fun z => Bool.noConfusion z) (fun _ => rfl)) (fun z => Bool.noConfusion z) }
  have T2' : Tb K mg C CB := {
    T := T, nu := ⟨clB, sfB, nfB, niB, s_intB, sub_isB, sub_obB⟩, is := ⟨clB, caB, cn, ct, cmB⟩, nL := nL, nD := nD, nA := nA, ne := neB, mB := PySem.W.mg_of X G aCB
    enum := PySem.W.mg_none_of X G z_enumerate, sorted := PySem.W.mg_none_of X G z_sorted, sum := PySem.W.mg_none_of X G z_sum, min := PySem.W.mg_none_of X G z_min, dict := PySem.W.mg_none_of X G z_dict
    ml := ⟨_, PySem.W.mg_of X G z_ml⟩, md := ⟨_, PySem.W.mg_of X G z_md⟩, me := ⟨_, PySem.W.mg_of X G z_me⟩ }
  have M : Mk K C f_init := ⟨mk, a_init, i_init, kc⟩
  have MB : Mk K CB f_binit := ⟨mkB, a_binit, i_binit, kcB⟩
  have em : EmpT K T2 := ⟨_, _, t2, rfl, rfl⟩
  have bL : ∀ (s : Shared) (v : Value), BindsTo s d_law ⟨[v], []⟩ [("_law_script", v)] := by
    obtain ⟨oc, od, kV, doc, pm, an, cdv, ct, osl, rfl, _⟩ := F_law.ex
    exact fun s v => .of_eq rfl
  refine ⟨d_law, bL, fun base _ _ => ?_⟩
  have D_isint : Df P w K mg base "is_integer" 1 1 (spB C isI) := df_of (fun_s F_isint) (ok_isint (fun_s F_isint) T) (PySem.W.mg_of X G a_isint) b_isint rfl
  have D_iscount : Df P w K mg base "is_count" 2 1 (spB C isC) := df_of (fun_s F_iscount) (ok_iscount (fun_s F_iscount) T D_isint) (PySem.W.mg_of X G a_iscount) b_iscount rfl
  have D_islist : Df P w K mg base "is_list" 1 1 spL := df_of (fun_s F_islist) (ok_islist (fun_s F_islist) T) (PySem.W.mg_of X G a_islist) b_islist rfl
  have D_islistK : Df P w K mg base "is_list" 1 1 (spLK K) := df_of (fun_s F_islist) (ok_islistK (fun_s F_islist) T) (PySem.W.mg_of X G a_islist) b_islist rfl
  have D_counts : Df P w K mg base "is_counts" 3 2 spCounts := df_of (fun_s F_counts) (ok_counts (fun_s F_counts) T D_islist D_iscount) (PySem.W.mg_of X G a_counts) b_counts rfl
  have D_small : Df P w K mg base "is_small_letter" 1 1 spSmall := df_of (fun_s F_small) (ok_small (fun_s F_small) T) (PySem.W.mg_of X G a_small) b_small rfl
  have D_rising : Df P w K mg base "is_rising" 1 1 spRising := df_of (fun_s F_rising) (ok_rising (fun_s F_rising) T) (PySem.W.mg_of X G a_rising) b_rising rfl
  have D_let : Df P w K mg base "is_letters" 2 1 spLet := df_of (fun_s F_let) (ok_let (fun_s F_let) T (PySem.W.mg_of X G z_ml) D_rising D_small) (PySem.W.mg_of X G a_let) b_let rfl
  have D_isnum : Df P w K mg base "is_number" 2 1 (spB C isN) := df_of (fun_s F_isnum) (ok_isnumber (fun_s F_isnum) T D_isint) (PySem.W.mg_of X G a_isnum) b_isnum rfl
  have GI := ok_init (P := P) (w := w) (base := base) (fund_s F_init) T D_isint
  have mk2 : Kl P w K mg base "Ratio" C 2 [] spInit := ⟨f_init, d_init, _, [], ds2, GI, M, T.mC, b2, v2, fun _ => .nil⟩
  have mk1 : Kl P w K mg base "Ratio" C 2 [.int 1] spInit := ⟨f_init, d_init, _, [.int 1], ds1, GI, M, T.mC, b1, v1, fun _ => .cons (.int 1) .nil⟩
  have D_ptop : Pr P w K mg base C "top" 1 (sp1 C fun p => .int p.1) := ⟨p_ptop, f_ptop, d_ptop, _, ok_top (fun_s F_ptop) T, ⟨a_ptop, g_ptop, t_ptop, _, c_ptop⟩, b_ptop⟩
  have D_pbot : Pr P w K mg base C "bottom" 1 (sp1 C fun p => .int p.2) := ⟨p_pbot, f_pbot, d_pbot, _, ok_bot (fun_s F_pbot) T, ⟨a_pbot, g_pbot, t_pbot, _, c_pbot⟩, b_pbot⟩
  have D_psign : Pr P w K mg base C "sign" 1 (sp1 C fun p => .int (sgF p)) := ⟨p_psign, f_psign, d_psign, _, ok_sign (fun_s F_psign) T, ⟨a_psign, g_psign, t_psign, _, c_psign⟩, b_psign⟩
  have V : Rt P w K mg base C := ⟨T, mk2, mk1, D_ptop, D_pbot⟩
  have D_ratof : Df P w K mg base "ratio_of" 4 1 (spRat C) := df_of (fun_s F_ratof) (ok_ratof (fun_s F_ratof) V) (PySem.W.mg_of X G a_ratof) b_ratof rfl
  have D_mul : Sm P w K mg base C "__mul__" 5 (spOp C fun p q => Ra C (mulF p q)) := ⟨f_mul, d_mul, _, ok_mul (fun_s F_mul) V D_ratof, a_mul, i_mul, b_mul⟩
  have D_rmul : Sm P w K mg base C "__rmul__" 6 (spOp C fun p q => Ra C (mulF q p)) := ⟨f_rmul, d_rmul, _, ok_rmul (fun_s F_rmul) V D_ratof D_mul, a_rmul, i_rmul, b_rmul⟩
  have D_eq : Sm P w K mg base C "__eq__" 1 (spEq C) := ⟨f_eq, d_eq, _, ok_eq (fun_s F_eq) T, a_eq, i_eq, b_eq⟩
  have D_add : Sm P w K mg base C "__add__" 5 (spOp C fun p q => Ra C (addF p q)) := ⟨f_add, d_add, _, ok_add (fun_s F_add) V D_ratof, a_add, i_add, b_add⟩
  have D_radd : Sm P w K mg base C "__radd__" 6 (spOp C fun p q => Ra C (addF q p)) := ⟨f_radd, d_radd, _, ok_radd (fun_s F_radd) V D_ratof D_add, a_radd, i_radd, b_radd⟩
  have D_repr : Sm P w K mg base C "__repr__" 1 (sp1b C 1900 fun p => .str (reprF p)) := ⟨f_repr, d_repr, _, ok_repr (fun_s F_repr) T, a_repr, i_repr, b_repr⟩
  have LL : Lv P w K mg base C := { V := V, ratof := D_ratof, mul := D_mul, rmul := D_rmul, eq := D_eq, add := D_add, radd := D_radd, sign := D_psign, lm := ⟨_, lm⟩, la := ⟨_, la⟩ }
  have D_above : Df P w K mg base "is_above" 5 1 (spAbove C) := df_of (fun_s F_above) (ok_above (fun_s F_above) T D_isnum D_ratof D_psign) (PySem.W.mg_of X G a_above) b_above rfl
  have D_entry : Df P w K mg base "_is_entry" 6 3 (spEntry C) := df_of (fun_s F_entry) (ok_entry (fun_s F_entry) T (PySem.W.mg_none_of X G z_sum) (PySem.W.mg_of X G z_md) D_counts D_above) (PySem.W.mg_of X G a_entry) b_entry rfl
  have GB := ok_binit (P := P) (w := w) (base := base) (fund_s F_binit) T2' D_ratof D_let D_islistK D_entry
  have mkA : Kl P w K mg base "Blend" CB 7 [] (spBl K C) := ⟨f_binit, d_binit, _, [], bds2, GB, MB, T2'.mB, bb2, bv2, fun _ => .nil⟩
  have mk0 : Kl P w K mg base "Blend" CB 7 [.cls T2] (spBl K C) := ⟨f_binit, d_binit, _, [.ref T2], bds1, GB, MB, T2'.mB, bb1, bv1, fun _ => .cons (.cls T2) .nil⟩
  have D_blet : Pr P w K mg base CB "letters" 1 (spB1 C CB fun z _ _ => .str (SX.S z)) := ⟨p_blet, f_blet, d_blet, _, ok_letters (fun_s F_blet) T2', ⟨a_blet, g_blet, t_blet, _, c_blet⟩, b_blet⟩
  have D_bdeg : Pr P w K mg base CB "degree" 1 (spB1 C CB fun _ n es => dgD n es) := ⟨p_bdeg, f_bdeg, d_bdeg, _, ok_degree (fun_s F_bdeg) T2', ⟨a_bdeg, g_bdeg, t_bdeg, _, c_bdeg⟩, b_bdeg⟩
  have D_bno : Pr P w K mg base CB "is_nought" 1 (spB1 C CB fun _ _ es => .bl es.isEmpty) := ⟨p_bno, f_bno, d_bno, _, ok_nought (fun_s F_bno) T2', ⟨a_bno, g_bno, t_bno, _, c_bno⟩, b_bno⟩
  have D_bents : Mt P w K mg base CB "entries" 1 (spEnts C CB) := ⟨f_bents, d_bents, _, ok_entries (fun_s F_bents) T2', ⟨a_bents, i_bents, F_bents.kp⟩, b_bents⟩
  have D_beq : Sm P w K mg base CB "__eq__" 4 (spBEq C CB) := ⟨f_beq, d_beq, _, ok_beq (fun_s F_beq) T2' LL, a_beq, i_beq, b_beq⟩
  have D_ck : Df P w K mg base "check_blend" 1 1 (spCk C CB) := df_of (fun_s F_ck) (ok_ck (fun_s F_ck) T2') (PySem.W.mg_of X G a_ck) b_ck rfl
  have VB : Bt P w K mg base C CB := { T := T2', L := LL, mkA := mkA, mk0 := ⟨T2, em, mk0⟩, letters := D_blet, degree := D_bdeg, nought := D_bno, entries := D_bents, beq := D_beq, ck := D_ck }
  have D_brepr : Sm P w K mg base CB "__repr__" 5 (spBRepr C CB) := ⟨f_brepr, d_brepr, _, ok_brepr (fun_s F_brepr) VB D_repr, a_brepr, i_brepr, b_brepr⟩
  have D_gath : Df P w K mg base "gathered" 7 1 (spGathG C) := df_of (fun_s F_gath) (ok_gathG (fun_s F_gath) LL) (PySem.W.mg_of X G a_gath) b_gath rfl
  have D_badd : Sm P w K mg base CB "__add__" 9 (spBAdd C CB) := ⟨f_badd, d_badd, _, ok_badd (fun_s F_badd) VB D_gath, a_badd, i_badd, b_badd⟩
  have D_bsc : Mt P w K mg base CB "scaled" 9 (spScaled C CB) := ⟨f_bsc, d_bsc, _, ok_scaled (fun_s F_bsc) VB D_above, ⟨a_bsc, i_bsc, F_bsc.kp⟩, b_bsc⟩
  have D_nums : Df P w K mg base "is_numbers" 3 2 (spNums C) := df_of (fun_s F_nums) (ok_nums (fun_s F_nums) T D_islist D_isnum) (PySem.W.mg_of X G a_nums) b_nums rfl
  have D_ckw : Df P w K mg base "check_weights" 6 2 (spCkw C) := df_of (fun_s F_ckw) (ok_ckw (fun_s F_ckw) T D_nums D_above) (PySem.W.mg_of X G a_ckw) b_ckw rfl
  have D_term : Df P w K mg base "_term" 4 2 (spTerm C) := df_of (fun_s F_term) (ok_term (fun_s F_term) V) (PySem.W.mg_of X G a_term) b_term rfl
  have D_tl : Df P w K mg base "_times_letter" 7 3 (spTl C) := df_of (fun_s F_tl) (ok_tl (fun_s F_tl) LL) (PySem.W.mg_of X G a_tl) b_tl rfl
  have D_line : Df P w K mg base "line_of" 8 3 (spLine C CB) := df_of (fun_s F_line) (ok_line (fun_s F_line) VB D_tl) (PySem.W.mg_of X G a_line) b_line rfl
  have D_worth : Df P w K mg base "worth" 9 2 (spWorth C CB) := df_of (fun_s F_worth) (ok_worth (fun_s F_worth) VB D_ckw D_term D_line) (PySem.W.mg_of X G a_worth) b_worth rfl
  have D_draw : Df P w K mg base "_law_draw" 1 2 spDraw := df_of (fun_s F_draw) (ok_draw (fun_s F_draw) T) (PySem.W.mg_of X G a_draw) b_draw rfl
  have D_pick : Df P w K mg base "_law_pick" 2 2 spPick := df_of (fun_s F_pick) (ok_pick (fun_s F_pick) T D_draw) (PySem.W.mg_of X G a_pick) b_pick rfl
  have D_low : Df P w K mg base "_law_low" 1 2 spLow := df_of (fun_s F_low) (ok_low (fun_s F_low) T) (PySem.W.mg_of X G a_low) b_low rfl
  have D_sum : Df P w K mg base "_law_sum" 2 2 (spFF addF) := df_of (fun_s F_sum) (ok_sum (fun_s F_sum) D_low) (PySem.W.mg_of X G a_sum) b_sum rfl
  have D_by : Df P w K mg base "_law_by" 2 2 (spFF mulF) := df_of (fun_s F_by) (ok_by (fun_s F_by) D_low) (PySem.W.mg_of X G a_by) b_by rfl
  have D_pass : Df P w K mg base "_law_passed" 4 2 (spPass C) := df_of (fun_s F_pass) (ok_pass (fun_s F_pass) V D_draw) (PySem.W.mg_of X G a_pass) b_pass rfl
  have D_pair : Df P w K mg base "_law_pair" 3 1 (spPair C) := df_of (fun_s F_pair) (ok_pair (fun_s F_pair) V) (PySem.W.mg_of X G a_pair) b_pair rfl
  have D_lets : Df P w K mg base "_law_letters" 3 2 spLets := df_of (fun_s F_lets) (ok_lets (fun_s F_lets) D_pick) (PySem.W.mg_of X G a_lets) b_lets rfl
  have D_cnt : Df P w K mg base "_law_counts" 2 3 spCnt := df_of (fun_s F_cnt) (ok_cnt (fun_s F_cnt) T D_draw) (PySem.W.mg_of X G a_cnt) b_cnt rfl
  have D_amt : Df P w K mg base "_law_amount" 3 1 spAmt := df_of (fun_s F_amt) (ok_amt (fun_s F_amt) D_draw D_pick D_low) (PySem.W.mg_of X G a_amt) b_amt rfl
  have D_drn : Df P w K mg base "_law_drawn" 4 4 spDrawn := df_of (fun_s F_drn) (ok_drn (fun_s F_drn) T D_draw D_cnt D_amt) (PySem.W.mg_of X G a_drn) b_drn rfl
  have D_ent : Df P w K mg base "_law_entries" 5 2 (spEntr C) := df_of (fun_s F_ent) (ok_ent (fun_s F_ent) T2' D_draw D_pick D_pass) (PySem.W.mg_of X G a_ent) b_ent rfl
  have D_bln : Df P w K mg base "_law_blend" 9 3 (spBln C CB) := df_of (fun_s F_bln) (ok_bln (fun_s F_bln) VB D_ent) (PySem.W.mg_of X G a_bln) b_bln rfl
  have D_lwo : Df P w K mg base "_law_worth" 3 2 spLWo := df_of (fun_s F_lwo) (ok_lwo (fun_s F_lwo) T2' D_sum D_by) (PySem.W.mg_of X G a_lwo) b_lwo rfl
  have D_wts : Df P w K mg base "_law_weights" 3 2 spWts := df_of (fun_s F_wts) (ok_wts (fun_s F_wts) T D_draw D_pick D_low) (PySem.W.mg_of X G a_wts) b_wts rfl
  have D_gvn : Df P w K mg base "_law_given" 5 2 (spGvn C) := df_of (fun_s F_gvn) (ok_gvn (fun_s F_gvn) T D_draw D_pass) (PySem.W.mg_of X G a_gvn) b_gvn rfl
  have D_sub : Sm P w K mg base C "__sub__" 5 (spOp C fun p q => Ra C (subF p q)) := ⟨f_sub, d_sub, _, ok_sub (fun_s F_sub) V D_ratof, a_sub, i_sub, b_sub⟩
  have D_ckd : Df P w K mg base "check_direction" 4 2 (spCkd C) := df_of (fun_s F_ckd) (ok_ckd (fun_s F_ckd) D_nums) (PySem.W.mg_of X G a_ckd) b_ckd rfl
  have D_along : Df P w K mg base "along" 9 3 (spAl C CB (gAl C)) := df_of (fun_s F_along) (ok_along (fun_s F_along) VB D_ckw D_ckd D_line) (PySem.W.mg_of X G a_along) b_along rfl
  have D_slope : Df P w K mg base "slope" 10 3 (spAl C CB (gSl C)) := df_of (fun_s F_slope) (ok_slope (fun_s F_slope) D_term D_along) (PySem.W.mg_of X G a_slope) b_slope rfl
  have D_bend : Df P w K mg base "bend" 10 3 (spAl C CB (gBe C)) := df_of (fun_s F_bend) (ok_bend (fun_s F_bend) LL D_term D_along) (PySem.W.mg_of X G a_bend) b_bend rfl
  have D_lean : Df P w K mg base "lean" 10 3 (spAl C CB (gLe C)) := df_of (fun_s F_lean) (ok_lean (fun_s F_lean) LL D_sub D_term D_along) (PySem.W.mg_of X G a_lean) b_lean rfl
  have D_bup : Df P w K mg base "bends_up" 11 3 (spAl C CB gBu) := df_of (fun_s F_bup) (ok_bup (fun_s F_bup) LL D_lean) (PySem.W.mg_of X G a_bup) b_bup rfl
  have D_way : Df P w K mg base "is_way" 3 2 (spWay C CB) := df_of (fun_s F_way) (ok_way (fun_s F_way) VB) (PySem.W.mg_of X G a_way) b_way rfl
  have D_tt : Df P w K mg base "_times_taken" 1 2 spTT := df_of (fun_s F_tt) (ok_tt (fun_s F_tt) T2' (PySem.W.mg_of X G z_perm)) (PySem.W.mg_of X G a_tt) b_tt rfl
  have D_taken : Df P w K mg base "taken" 9 2 (spTaken C CB) := df_of (fun_s F_taken) (ok_taken (fun_s F_taken) VB D_way D_tt) (PySem.W.mg_of X G a_taken) b_taken rfl
  have D_less : Df P w K mg base "_law_less" 3 2 (spFF subF) := df_of (fun_s F_less) (ok_less (fun_s F_less) D_sum) (PySem.W.mg_of X G a_less) b_less rfl
  have D_tot : Df P w K mg base "_law_total" 3 1 spTot := df_of (fun_s F_tot) (ok_tot (fun_s F_tot) D_sum) (PySem.W.mg_of X G a_tot) b_tot rfl
  have D_pairs : Df P w K mg base "_law_pairs" 4 1 (spPairs C) := df_of (fun_s F_pairs) (ok_pairs (fun_s F_pairs) T D_pair) (PySem.W.mg_of X G a_pairs) b_pairs rfl
  have D_dir : Df P w K mg base "_law_direction" 3 2 spDir := df_of (fun_s F_dir) (ok_dir (fun_s F_dir) T D_draw D_low) (PySem.W.mg_of X G a_dir) b_dir rfl
  have D_mv : Df P w K mg base "_law_moved" 3 3 spMv := df_of (fun_s F_mv) (ok_mv (fun_s F_mv) T D_sum D_by) (PySem.W.mg_of X G a_mv) b_mv rfl
  have D_aup : Df P w K mg base "_law_added_up" 3 2 spAup := df_of (fun_s F_aup) (ok_aup (fun_s F_aup) D_sum D_by) (PySem.W.mg_of X G a_aup) b_aup rfl
  have DK_along : DfK P w K mg base "along" 9 ["direction", "weights", "blend"] List.reverse (spAl C CB (gAl C)) := ⟨f_along, d_along, _, _, List.reverse, ok_along (fun_s F_along) VB D_ckw D_ckd D_line, PySem.W.mg_of X G a_along, F_along.kp, bK_along, fun _ _ _ h => paired_rev h⟩
  have DK_lean : DfK P w K mg base "lean" 10 ["direction", "weights", "blend"] List.reverse (spAl C CB (gLe C)) := ⟨f_lean, d_lean, _, _, List.reverse, ok_lean (fun_s F_lean) LL D_sub D_term D_along, PySem.W.mg_of X G a_lean, F_lean.kp, bK_lean, fun _ _ _ h => paired_rev h⟩
  have DK_slope : DfK P w K mg base "slope" 10 ["direction", "blend", "weights"] ro3 (spAl C CB (gSl C)) := ⟨f_slope, d_slope, _, _, ro3, ok_slope (fun_s F_slope) D_term D_along, PySem.W.mg_of X G a_slope, F_slope.kp, bK_slope, fun _ _ _ h => paired_ro3 h⟩
  have DK_bend : DfK P w K mg base "bend" 10 ["direction", "blend", "weights"] ro3 (spAl C CB (gBe C)) := ⟨f_bend, d_bend, _, _, ro3, ok_bend (fun_s F_bend) LL D_term D_along, PySem.W.mg_of X G a_bend, F_bend.kp, bK_bend, fun _ _ _ h => paired_ro3 h⟩
  have DK_bup : DfK P w K mg base "bends_up" 11 ["weights", "blend", "direction"] sw3 (spAl C CB gBu) := ⟨f_bup, d_bup, _, _, sw3, ok_bup (fun_s F_bup) LL D_lean, PySem.W.mg_of X G a_bup, F_bup.kp, bK_bup, fun _ _ _ h => paired_sw3 h⟩
  have LZ : Lz P w K mg base C CB := { al := D_along, alK := DK_along, sl := D_slope, slK := DK_slope, be := D_bend, beK := DK_bend, le := D_lean, leK := DK_lean, bu := D_bup, buK := DK_bup, wo := D_worth, tk := D_taken, pa := D_pairs, pr := D_pair, to := D_tot, ls := D_less, by' := D_by, su := D_sum, lo := D_low, dr := D_draw, pi := D_pick, lw := D_lwo, mo := D_mv, au := D_aup }
  have D_lr : Df P w K mg base "_law_line_right" 12 7 (spLr C CB) := df_of (fun_s F_lr) (ok_lr (fun_s F_lr) VB LZ) (PySem.W.mg_of X G a_lr) b_lr rfl
  have D_rr : Df P w K mg base "_law_rules_right" 12 6 (spRr C CB) := df_of (fun_s F_rr) (ok_rr (fun_s F_rr) VB LZ D_badd D_bsc) (PySem.W.mg_of X G a_rr) b_rr rfl
  have D_right : Df P w K mg base "_law_right" 13 1 spRight := df_of (fun_s F_right) (ok_right (fun_s F_right) T2' D_repr D_brepr D_draw D_lets D_drn D_bln D_wts D_dir D_gvn D_lr D_rr) (PySem.W.mg_of X G a_right) b_right rfl
  have D_pot : Nf P w K mg base "_law_pot" 1 spPot := ⟨f_pot, d_pot, _, ok_pot (fun_s F_pot) T, PySem.W.mg_of X G a_pot, F_pot.kp, b_pot⟩
  exact ok_law (fun_s F_law) T2' D_pot D_right
end K15

set_option Elab.async false
open PySem PySem.W PyProof.Rows
theorem PySem.W.Fast.tw18385019752742847488 : True := trivial
theorem PySem.W.Fast.tw16087123229074037760 : True := trivial
theorem PySem.W.Fast.tw4831973544964794400 : True := trivial
theorem PySem.W.Fast.tw13461502815495665696 : True := trivial
theorem PySem.W.Fast.tw8362949314682966080 : True := trivial
theorem PySem.W.Fast.tw8437101537046455392 : True := trivial
theorem PySem.W.Fast.tw17332089259697271904 : True := trivial
theorem PySem.W.Fast.tw17805132844182619264 : True := trivial
theorem PySem.W.Fast.tw432239852505875584 : True := trivial
theorem PySem.W.Fast.tw9526678329538439296 : True := trivial
theorem PySem.W.Fast.tw16738501753836681376 : True := trivial
theorem PySem.W.Fast.tw7509769156124875968 : True := trivial
theorem PySem.W.Fast.tw419610728616633536 : True := trivial
theorem PySem.W.Fast.tw5739111352609065152 : True := trivial
theorem PySem.W.Fast.tw13999071070126524608 : True := trivial
theorem PySem.W.Fast.tw13050963992523532480 : True := trivial
theorem PySem.W.Fast.tw4440328033907339456 : True := trivial
theorem PySem.W.Fast.tw9191277757215084832 : True := trivial
theorem PySem.W.Fast.tw1073766197173401888 : True := trivial
theorem PySem.W.Fast.tw18129363841925115168 : True := trivial
theorem PySem.W.Fast.tw4861334491637724480 : True := trivial
theorem PySem.W.Fast.tw105406219941247328 : True := trivial
theorem PySem.W.Fast.tw939643083885663616 : True := trivial
theorem PySem.W.Fast.tw1951210719832181152 : True := trivial
theorem PySem.W.Fast.tw356989102661701024 : True := trivial
theorem PySem.W.Fast.tw14376956515003910592 : True := trivial
theorem PySem.W.Fast.tw15569403308182312416 : True := trivial
theorem PySem.W.Fast.tw13295901056834516448 : True := trivial
theorem PySem.W.Fast.tw7451745437094014496 : True := trivial
theorem PySem.W.Fast.tw10160439667882021408 : True := trivial
theorem PySem.W.Fast.tw4549734448173301408 : True := trivial
theorem PySem.W.Fast.tw3943774246193089216 : True := trivial
theorem PySem.W.Fast.tw2227842409713070784 : True := trivial
theorem PySem.W.Fast.tw2518359899982493408 : True := trivial
theorem PySem.W.Fast.tw13111085115541991168 : True := trivial
theorem PySem.W.Fast.tw3842492565306609440 : True := trivial
theorem PySem.W.Fast.tw18127765671825665856 : True := trivial
theorem PySem.W.Fast.tw7313288802270903104 : True := trivial
theorem PySem.W.Fast.tw4498161480328481632 : True := trivial
theorem PySem.W.Fast.tw2783335262261668704 : True := trivial
theorem PySem.W.Fast.tw4034809748585261952 : True := trivial
theorem PySem.W.Fast.tw11405345232732764032 : True := trivial
theorem PySem.W.Fast.tw16279205287547568000 : True := trivial
theorem PySem.W.Fast.tw2688759724328495008 : True := trivial
theorem PySem.W.Fast.tw3306834484554056640 : True := trivial
theorem PySem.W.Fast.tw17675663187290223552 : True := trivial
theorem PySem.W.Fast.tw17735380839099024352 : True := trivial
theorem PySem.W.Fast.tw295478247047175169 : True := trivial
theorem PySem.W.Fast.tw307633650470280193 : True := trivial
theorem PySem.W.Fast.tw11537959690182178881 : True := trivial
theorem PySem.W.Fast.tw10084159596555846753 : True := trivial
theorem PySem.W.Fast.tw6401922827481864289 : True := trivial
theorem PySem.W.Fast.tw17677511388778792065 : True := trivial
theorem PySem.W.Fast.tw11763977608153991361 : True := trivial
theorem PySem.W.Fast.tw17895736032698187969 : True := trivial
theorem PySem.W.Fast.tw10553741341973078209 : True := trivial
theorem PySem.W.Fast.tw5903282142836036833 : True := trivial
theorem PySem.W.Fast.tw18201568274092901601 : True := trivial
theorem PySem.W.Fast.tw7877381689223919873 : True := trivial
theorem PySem.W.Fast.tw4099505838504425729 : True := trivial
theorem PySem.W.Fast.tw5479597901195888929 : True := trivial
theorem PySem.W.Fast.tw1158631243275178305 : True := trivial
theorem PySem.W.Fast.tw8368060818037950785 : True := trivial
theorem PySem.W.Fast.tw13442522559257740673 : True := trivial
theorem PySem.W.Fast.tw11754133766079024545 : True := trivial
theorem PySem.W.Fast.tw7312187483639096737 : True := trivial
theorem PySem.W.Fast.tw6565180835075673505 : True := trivial
theorem PySem.W.Fast.tw17785396285948544449 : True := trivial
theorem PySem.W.Fast.tw993872576363480513 : True := trivial
theorem PySem.W.Fast.tw10173496762092460545 : True := trivial
theorem PySem.W.Fast.tw11120126494447902273 : True := trivial
theorem PySem.W.Fast.tw17019926038599741025 : True := trivial
theorem PySem.W.Fast.tw1881064361580295777 : True := trivial
theorem PySem.W.Fast.tw18081287920218774145 : True := trivial
theorem PySem.W.Fast.tw1862987152256979585 : True := trivial
theorem PySem.W.Fast.tw765764629908559585 : True := trivial
theorem PySem.W.Fast.tw5168725683818144545 : True := trivial
theorem PySem.W.Fast.tw4737955058311767841 : True := trivial
theorem PySem.W.Fast.tw10648029448053053217 : True := trivial
theorem PySem.W.Fast.tw5713952462032956225 : True := trivial
theorem PySem.W.Fast.tw4940688776242242433 : True := trivial
theorem PySem.W.Fast.tw7435232878481372033 : True := trivial
theorem PySem.W.Fast.tw18403143023460652961 : True := trivial
theorem PySem.W.Fast.tw10154213183705512962 : True := trivial
theorem PySem.W.Fast.tw16589427298779131938 : True := trivial
theorem PySem.W.Fast.tw8028342493409868834 : True := trivial
theorem PySem.W.Fast.tw8925216728008625218 : True := trivial
theorem PySem.W.Fast.tw10508082997783367746 : True := trivial
theorem PySem.W.Fast.tw11494201831105253442 : True := trivial
theorem PySem.W.Fast.tw8030487672696033378 : True := trivial
theorem PySem.W.Fast.tw10034599797998217378 : True := trivial
theorem PySem.W.Fast.tw13743068833600448706 : True := trivial
theorem PySem.W.Fast.tw10399265922907784386 : True := trivial
theorem PySem.W.Fast.tw9223699234286596290 : True := trivial
theorem PySem.W.Fast.tw6143193482871864514 : True := trivial
theorem PySem.W.Fast.tw6462098853399916770 : True := trivial
theorem PySem.W.Fast.tw7575233358806460674 : True := trivial
theorem PySem.W.Fast.tw75655649046941954 : True := trivial
theorem PySem.W.Fast.tw2709230601910182146 : True := trivial
theorem PySem.W.Fast.tw18207129652467303714 : True := trivial
theorem PySem.W.Fast.tw13619465899527578914 : True := trivial
theorem PySem.W.Fast.tw12376587677189231938 : True := trivial
theorem PySem.W.Fast.tw7399419249769938242 : True := trivial
theorem PySem.W.Fast.tw7385907416950650242 : True := trivial
theorem PySem.W.Fast.tw11800417866699688386 : True := trivial
theorem PySem.W.Fast.tw10201271430656452034 : True := trivial
theorem PySem.W.Fast.tw10794405924582024642 : True := trivial
theorem PySem.W.Fast.tw15455079048550107618 : True := trivial
theorem PySem.W.Fast.tw2517275135908781602 : True := trivial
theorem PySem.W.Fast.tw1026511236555666978 : True := trivial
theorem PySem.W.Fast.tw12100128038262899266 : True := trivial
theorem PySem.W.Fast.tw1385418746854083202 : True := trivial
theorem PySem.W.Fast.tw8607194416058133154 : True := trivial
theorem PySem.W.Fast.tw12669553169974756066 : True := trivial
theorem PySem.W.Fast.tw3694892246732645090 : True := trivial
theorem PySem.W.Fast.tw15524403428224415458 : True := trivial
theorem PySem.W.Fast.tw15623218938618228482 : True := trivial
theorem PySem.W.Fast.tw16089549368482259746 : True := trivial
theorem PySem.W.Fast.tw6230155474668795746 : True := trivial
theorem PySem.W.Fast.tw16256748910033748898 : True := trivial
theorem PySem.W.Fast.tw13417381850091364290 : True := trivial
theorem PySem.W.Fast.tw8993668801494432706 : True := trivial
theorem PySem.W.Fast.tw13735523642778776514 : True := trivial
theorem PySem.W.Fast.tw8510670373833298914 : True := trivial
theorem PySem.W.Fast.tw3053277751054003203 : True := trivial
theorem PySem.W.Fast.tw5799617887763911715 : True := trivial
theorem PySem.W.Fast.tw5603748868495483971 : True := trivial
theorem PySem.W.Fast.tw8788701800694483107 : True := trivial
theorem PySem.W.Fast.tw15402749748457096387 : True := trivial
theorem PySem.W.Fast.tw3151715336529852675 : True := trivial
theorem PySem.W.Fast.tw17971241781794180387 : True := trivial
theorem PySem.W.Fast.tw1203676635756708195 : True := trivial
theorem PySem.W.Fast.tw1965638620147235235 : True := trivial
theorem PySem.W.Fast.tw15384578584977424867 : True := trivial
theorem PySem.W.Fast.tw1059305486724032003 : True := trivial
theorem PySem.W.Fast.tw11588076666279672355 : True := trivial
theorem PySem.W.Fast.tw15398654251819959875 : True := trivial
theorem PySem.W.Fast.tw6167335795763097251 : True := trivial
theorem PySem.W.Fast.tw635329767563126467 : True := trivial
theorem PySem.W.Fast.tw5390779348103853763 : True := trivial
theorem PySem.W.Fast.tw13666223005435840227 : True := trivial
theorem PySem.W.Fast.tw16069163146750651107 : True := trivial
theorem PySem.W.Fast.tw10448677684677561091 : True := trivial
theorem PySem.W.Fast.tw18021434537393596195 : True := trivial
theorem PySem.W.Fast.tw12868117013384384291 : True := trivial
theorem PySem.W.Fast.tw7616277469863491427 : True := trivial
theorem PySem.W.Fast.tw13036963037789545347 : True := trivial
theorem PySem.W.Fast.tw7215664060645666723 : True := trivial
theorem PySem.W.Fast.tw11419879143593863139 : True := trivial
theorem PySem.W.Fast.tw15056451961032521699 : True := trivial
theorem PySem.W.Fast.tw834248825226362884 : True := trivial
theorem PySem.W.Fast.tw6154414873967749124 : True := trivial
theorem PySem.W.Fast.tw4351826719434107940 : True := trivial
theorem PySem.W.Fast.tw7098606045403199556 : True := trivial
theorem PySem.W.Fast.tw7740106224105682084 : True := trivial
theorem PySem.W.Fast.tw10570096849278241988 : True := trivial
theorem PySem.W.Fast.tw7544502653922422980 : True := trivial
theorem PySem.W.Fast.tw1932906996111293636 : True := trivial
theorem PySem.W.Fast.tw9356198949171576004 : True := trivial
theorem PySem.W.Fast.tw3883769278349404356 : True := trivial
theorem PySem.W.Fast.tw5060894660936216804 : True := trivial
theorem PySem.W.Fast.tw5675946437849034980 : True := trivial
theorem PySem.W.Fast.tw4327803344922404068 : True := trivial
theorem PySem.W.Fast.tw12826756208064569636 : True := trivial
theorem PySem.W.Fast.tw5612851044394644772 : True := trivial
theorem PySem.W.Fast.tw2683617765147978052 : True := trivial
theorem PySem.W.Fast.tw6971505224011132228 : True := trivial
theorem PySem.W.Fast.tw9202892878367853924 : True := trivial
theorem PySem.W.Fast.tw14368966552064832868 : True := trivial
theorem PySem.W.Fast.tw4365840654793524612 : True := trivial
theorem PySem.W.Fast.tw13335304005968500164 : True := trivial
theorem PySem.W.Fast.tw16854499464083546564 : True := trivial
theorem PySem.W.Fast.tw5288483622356153796 : True := trivial
theorem PySem.W.Fast.tw6418520309276441092 : True := trivial
theorem PySem.W.Fast.tw4413459093479799332 : True := trivial
theorem PySem.W.Fast.tw3041644802646002212 : True := trivial
theorem PySem.W.Fast.tw1148910837964854820 : True := trivial
theorem PySem.W.Fast.tw17887752200474090020 : True := trivial
theorem PySem.W.Fast.tw14368477840049865284 : True := trivial
theorem PySem.W.Fast.tw9352313973035554404 : True := trivial
theorem PySem.W.Fast.tw5372761575343483492 : True := trivial
theorem PySem.W.Fast.tw4861335057388064388 : True := trivial
theorem PySem.W.Fast.tw10480211760685937284 : True := trivial
theorem PySem.W.Fast.tw16181469796477311652 : True := trivial
theorem PySem.W.Fast.tw17101011372976841508 : True := trivial
theorem PySem.W.Fast.tw12675557685586405156 : True := trivial
theorem PySem.W.Fast.tw15345167367210807076 : True := trivial
theorem PySem.W.Fast.tw5677277735010917156 : True := trivial
theorem PySem.W.Fast.tw12912529023796371236 : True := trivial
theorem PySem.W.Fast.tw5881275469458558820 : True := trivial
theorem PySem.W.Fast.tw3896068720819944324 : True := trivial
theorem PySem.W.Fast.tw1104686284996350884 : True := trivial
theorem PySem.W.Fast.tw7170489667641670596 : True := trivial
theorem PySem.W.Fast.tw12960572136458056837 : True := trivial
theorem PySem.W.Fast.tw17684683173097296069 : True := trivial
theorem PySem.W.Fast.tw13471152739068027109 : True := trivial
theorem PySem.W.Fast.tw17603284720987700485 : True := trivial
theorem PySem.W.Fast.tw5937473689034940677 : True := trivial
theorem PySem.W.Fast.tw8001619507395953989 : True := trivial
theorem PySem.W.Fast.tw3745619116766538053 : True := trivial
theorem PySem.W.Fast.tw11964205736241261029 : True := trivial
theorem PySem.W.Fast.tw16998117019419998693 : True := trivial
theorem PySem.W.Fast.tw3551251735687116293 : True := trivial
theorem PySem.W.Fast.tw13895836037588035141 : True := trivial
theorem PySem.W.Fast.tw6860113430021378629 : True := trivial
theorem PySem.W.Fast.tw15590849212826500741 : True := trivial
theorem PySem.W.Fast.tw17946670345012166277 : True := trivial
theorem PySem.W.Fast.tw13633656180723049093 : True := trivial
theorem PySem.W.Fast.tw16847953467749231269 : True := trivial
theorem PySem.W.Fast.tw7158846608161157861 : True := trivial
theorem PySem.W.Fast.tw14649454432382567173 : True := trivial
theorem PySem.W.Fast.tw15961672459436889893 : True := trivial
theorem PySem.W.Fast.tw4418718954639957861 : True := trivial
theorem PySem.W.Fast.tw12240967448151318405 : True := trivial
theorem PySem.W.Fast.tw204235129366718373 : True := trivial
theorem PySem.W.Fast.tw6100527764445170694 : True := trivial
theorem PySem.W.Fast.tw11392619998820091910 : True := trivial
theorem PySem.W.Fast.tw15145261320703561734 : True := trivial
theorem PySem.W.Fast.tw15284831571500475430 : True := trivial
theorem PySem.W.Fast.tw9810370259570754662 : True := trivial
theorem PySem.W.Fast.tw18231611890622400614 : True := trivial
theorem PySem.W.Fast.tw8137483640811701350 : True := trivial
theorem PySem.W.Fast.tw3938052688587705478 : True := trivial
theorem PySem.W.Fast.tw16515806441847150726 : True := trivial
theorem PySem.W.Fast.tw15053167633554729094 : True := trivial
theorem PySem.W.Fast.tw1461014599688650950 : True := trivial
theorem PySem.W.Fast.tw16199902560444694790 : True := trivial
theorem PySem.W.Fast.tw1026307714991978758 : True := trivial
theorem PySem.W.Fast.tw313775459729767814 : True := trivial
theorem PySem.W.Fast.tw17095095361196097958 : True := trivial
theorem PySem.W.Fast.tw14307187857092381094 : True := trivial
theorem PySem.W.Fast.tw5184917076691561894 : True := trivial
theorem PySem.W.Fast.tw13329123748597169574 : True := trivial
theorem PySem.W.Fast.tw3884218353301791174 : True := trivial
theorem PySem.W.Fast.tw7194109497891940806 : True := trivial
theorem PySem.W.Fast.tw653931319276925382 : True := trivial
theorem PySem.W.Fast.tw3208058972562368998 : True := trivial
theorem PySem.W.Fast.tw500260396692881894 : True := trivial
theorem PySem.W.Fast.tw10075216391252798950 : True := trivial
theorem PySem.W.Fast.tw6666681011602748902 : True := trivial
theorem PySem.W.Fast.tw17095998860011996678 : True := trivial
theorem PySem.W.Fast.tw10604273798950922758 : True := trivial
theorem PySem.W.Fast.tw15735318679825333766 : True := trivial
theorem PySem.W.Fast.tw1156625314826512902 : True := trivial
theorem PySem.W.Fast.tw18404710316369999366 : True := trivial
theorem PySem.W.Fast.tw10389700126479657574 : True := trivial
theorem PySem.W.Fast.tw10665536067829843558 : True := trivial
theorem PySem.W.Fast.tw1165599601366730406 : True := trivial
theorem PySem.W.Fast.tw5419829616174778086 : True := trivial
theorem PySem.W.Fast.tw1422544497838343910 : True := trivial
theorem PySem.W.Fast.tw11906432798382779174 : True := trivial
theorem PySem.W.Fast.tw2159481773337262950 : True := trivial
theorem PySem.W.Fast.tw10121804340116701030 : True := trivial
theorem PySem.W.Fast.tw12266519082544057190 : True := trivial
theorem PySem.W.Fast.tw11566328545095700390 : True := trivial
theorem PySem.W.Fast.tw2517483801989189574 : True := trivial
theorem PySem.W.Fast.tw13810658742288808902 : True := trivial
theorem PySem.W.Fast.tw10884565178789862374 : True := trivial
theorem PySem.W.Fast.tw13353681274141553638 : True := trivial
theorem PySem.W.Fast.tw15576458379266006023 : True := trivial
theorem PySem.W.Fast.tw8165254490264043559 : True := trivial
theorem PySem.W.Fast.tw15361372293136881703 : True := trivial
theorem PySem.W.Fast.tw13927722412954525735 : True := trivial
theorem PySem.W.Fast.tw287038380980069415 : True := trivial
theorem PySem.W.Fast.tw8639338770452751431 : True := trivial
theorem PySem.W.Fast.tw8068671640912506951 : True := trivial
theorem PySem.W.Fast.tw10184707331256370247 : True := trivial
theorem PySem.W.Fast.tw8098210649998960775 : True := trivial
theorem PySem.W.Fast.tw8239416116940633255 : True := trivial
theorem PySem.W.Fast.tw9236020159233396935 : True := trivial
theorem PySem.W.Fast.tw3180744892213507335 : True := trivial
theorem PySem.W.Fast.tw6657377465197442311 : True := trivial
theorem PySem.W.Fast.tw4088334534505520391 : True := trivial
theorem PySem.W.Fast.tw8695638702021067047 : True := trivial
theorem PySem.W.Fast.tw16945785674377362791 : True := trivial
theorem PySem.W.Fast.tw14542488743751291271 : True := trivial
theorem PySem.W.Fast.tw12470845844650055047 : True := trivial
theorem PySem.W.Fast.tw12657681711952945607 : True := trivial
theorem PySem.W.Fast.tw17537502225601045959 : True := trivial
theorem PySem.W.Fast.tw1317766983903182279 : True := trivial
theorem PySem.W.Fast.tw7603055334292261351 : True := trivial
theorem PySem.W.Fast.tw6432518673601120743 : True := trivial
theorem PySem.W.Fast.tw2244432594576101863 : True := trivial
theorem PySem.W.Fast.tw1409240708366436903 : True := trivial
theorem PySem.W.Fast.tw3660676218794606119 : True := trivial
theorem PySem.W.Fast.tw3565829988963576391 : True := trivial
theorem PySem.W.Fast.tw16069945436300044903 : True := trivial
theorem PySem.W.Fast.tw8892922774368890503 : True := trivial
theorem PySem.W.Fast.tw5286346970190505639 : True := trivial
theorem PySem.W.Fast.tw18256474794829156071 : True := trivial
theorem PySem.W.Fast.tw7780452372586503911 : True := trivial
theorem PySem.W.Fast.tw4816896205288982279 : True := trivial
theorem PySem.W.Fast.tw7535594102134339335 : True := trivial
theorem PySem.W.Fast.tw8223225591268331303 : True := trivial
theorem PySem.W.Fast.tw10743457078596560679 : True := trivial
theorem PySem.W.Fast.tw3180891973864279879 : True := trivial
theorem PySem.W.Fast.tw5612147824622833543 : True := trivial
theorem PySem.W.Fast.tw16721914107339294599 : True := trivial
theorem PySem.W.Fast.tw12519540639371765735 : True := trivial
theorem PySem.W.Fast.tw5715352964244160487 : True := trivial
theorem PySem.W.Fast.tw11593865434760569831 : True := trivial
theorem PySem.W.Fast.tw10932357792259871752 : True := trivial
theorem PySem.W.Fast.tw17283046202420963336 : True := trivial
theorem PySem.W.Fast.tw1682137690608152616 : True := trivial
theorem PySem.W.Fast.tw13196901688600262696 : True := trivial
theorem PySem.W.Fast.tw11680787660220515432 : True := trivial
theorem PySem.W.Fast.tw1270603507412667528 : True := trivial
theorem PySem.W.Fast.tw10095239906143970472 : True := trivial
theorem PySem.W.Fast.tw14002614466058860744 : True := trivial
theorem PySem.W.Fast.tw1066651053356800200 : True := trivial
theorem PySem.W.Fast.tw943480642490286312 : True := trivial
theorem PySem.W.Fast.tw10697768531884072200 : True := trivial
theorem PySem.W.Fast.tw830490610424983816 : True := trivial
theorem PySem.W.Fast.tw15881277292662462728 : True := trivial
theorem PySem.W.Fast.tw9218584645807889704 : True := trivial
theorem PySem.W.Fast.tw1169271934276963656 : True := trivial
theorem PySem.W.Fast.tw11421883471025196360 : True := trivial
theorem PySem.W.Fast.tw15327497206668913992 : True := trivial
theorem PySem.W.Fast.tw296591472519046504 : True := trivial
theorem PySem.W.Fast.tw2263527506991019368 : True := trivial
theorem PySem.W.Fast.tw5248257252347065736 : True := trivial
theorem PySem.W.Fast.tw1354275247493509544 : True := trivial
theorem PySem.W.Fast.tw1290290667999821224 : True := trivial
theorem PySem.W.Fast.tw14012668742259363272 : True := trivial
theorem PySem.W.Fast.tw13891913251560337896 : True := trivial
theorem PySem.W.Fast.tw4743038783116671464 : True := trivial
theorem PySem.W.Fast.tw18092499182235179528 : True := trivial
theorem PySem.W.Fast.tw13925324252082807368 : True := trivial
theorem PySem.W.Fast.tw3474068765632247368 : True := trivial
theorem PySem.W.Fast.tw12267366737924510280 : True := trivial
theorem PySem.W.Fast.tw15022292178342489768 : True := trivial
theorem PySem.W.Fast.tw11051718889996349128 : True := trivial
theorem PySem.W.Fast.tw10308975273298217672 : True := trivial
theorem PySem.W.Fast.tw9816924140831536872 : True := trivial
theorem PySem.W.Fast.tw7312000790242955016 : True := trivial
theorem PySem.W.Fast.tw3020275439951013640 : True := trivial
theorem PySem.W.Fast.tw13691925799964014344 : True := trivial
theorem PySem.W.Fast.tw16076281001476990760 : True := trivial
theorem PySem.W.Fast.tw14972631773487441704 : True := trivial
theorem PySem.W.Fast.tw3827700248354856776 : True := trivial
theorem PySem.W.Fast.tw10648804025557140392 : True := trivial
theorem PySem.W.Fast.tw6650168463950570440 : True := trivial
theorem PySem.W.Fast.tw3757586960554616841 : True := trivial
theorem PySem.W.Fast.tw12335752330558042121 : True := trivial
theorem PySem.W.Fast.tw11089021382689688617 : True := trivial
theorem PySem.W.Fast.tw6597201959327703081 : True := trivial
theorem PySem.W.Fast.tw6120405265503171625 : True := trivial
theorem PySem.W.Fast.tw17829383010042590249 : True := trivial
theorem PySem.W.Fast.tw11025961374853747817 : True := trivial
theorem PySem.W.Fast.tw16245565275816402057 : True := trivial
theorem PySem.W.Fast.tw6869398631275440265 : True := trivial
theorem PySem.W.Fast.tw13776095997774433449 : True := trivial
theorem PySem.W.Fast.tw13984781521641657513 : True := trivial
theorem PySem.W.Fast.tw9194279505325823209 : True := trivial
theorem PySem.W.Fast.tw14304417493338526953 : True := trivial
theorem PySem.W.Fast.tw12163797025951780105 : True := trivial
theorem PySem.W.Fast.tw10482838370982131977 : True := trivial
theorem PySem.W.Fast.tw13368513367886186793 : True := trivial
theorem PySem.W.Fast.tw227002069765205321 : True := trivial
theorem PySem.W.Fast.tw2928047665544203625 : True := trivial
theorem PySem.W.Fast.tw15353726171170201961 : True := trivial
theorem PySem.W.Fast.tw4500739952820616553 : True := trivial
theorem PySem.W.Fast.tw11845764090482699657 : True := trivial
theorem PySem.W.Fast.tw9638646014781862281 : True := trivial
theorem PySem.W.Fast.tw7774317008066559369 : True := trivial
theorem PySem.W.Fast.tw3415633660325853577 : True := trivial
theorem PySem.W.Fast.tw7071696556540295561 : True := trivial
theorem PySem.W.Fast.tw17060337674223554985 : True := trivial
theorem PySem.W.Fast.tw11736563904475996585 : True := trivial
theorem PySem.W.Fast.tw14378988815228863945 : True := trivial
theorem PySem.W.Fast.tw12026120407731119593 : True := trivial
theorem PySem.W.Fast.tw4679929716795395561 : True := trivial
theorem PySem.W.Fast.tw2637479968978492905 : True := trivial
theorem PySem.W.Fast.tw4636965745485720073 : True := trivial
theorem PySem.W.Fast.tw1626825580313856521 : True := trivial
theorem PySem.W.Fast.tw1872064849994243593 : True := trivial
theorem PySem.W.Fast.tw10008925799312350729 : True := trivial
theorem PySem.W.Fast.tw3624055137951857193 : True := trivial
theorem PySem.W.Fast.tw10063297144161912361 : True := trivial
theorem PySem.W.Fast.tw9737215181029145129 : True := trivial
theorem PySem.W.Fast.tw6880795390906010185 : True := trivial
theorem PySem.W.Fast.tw1200530799257694793 : True := trivial
theorem PySem.W.Fast.tw1580240581637031497 : True := trivial
theorem PySem.W.Fast.tw17050660760908654153 : True := trivial
theorem PySem.W.Fast.tw7582902812998964873 : True := trivial
theorem PySem.W.Fast.tw7734795569603470985 : True := trivial
theorem PySem.W.Fast.tw16046853241637038729 : True := trivial
theorem PySem.W.Fast.tw12168256880426971785 : True := trivial
theorem PySem.W.Fast.tw5487244787863020201 : True := trivial
theorem PySem.W.Fast.tw9887678860294793929 : True := trivial
theorem PySem.W.Fast.tw16580555293819247305 : True := trivial
theorem PySem.W.Fast.tw9665556368741094121 : True := trivial
theorem PySem.W.Fast.tw5542355870991872745 : True := trivial
theorem PySem.W.Fast.tw1915170846390453001 : True := trivial
theorem PySem.W.Fast.tw11751682037106490153 : True := trivial
theorem PySem.W.Fast.tw3791134448476930857 : True := trivial
theorem PySem.W.Fast.tw15929683073292511049 : True := trivial
theorem PySem.W.Fast.tw151949709721303913 : True := trivial
theorem PySem.W.Fast.tw1250946010671596393 : True := trivial
theorem PySem.W.Fast.tw10550469534385681289 : True := trivial
theorem PySem.W.Fast.tw8549034408266228617 : True := trivial
theorem PySem.W.Fast.tw6564415982270996457 : True := trivial
theorem PySem.W.Fast.tw9293463091154377738 : True := trivial
theorem PySem.W.Fast.tw811027696648316938 : True := trivial
theorem PySem.W.Fast.tw10807261793787833354 : True := trivial
theorem PySem.W.Fast.tw17042130391255908394 : True := trivial
theorem PySem.W.Fast.tw5805111173715626058 : True := trivial
theorem PySem.W.Fast.tw18363155794510629962 : True := trivial
theorem PySem.W.Fast.tw9625057247564173418 : True := trivial
theorem PySem.W.Fast.tw8120241679960661098 : True := trivial
theorem PySem.W.Fast.tw1506898037938959498 : True := trivial
theorem PySem.W.Fast.tw15564208653434322058 : True := trivial
theorem PySem.W.Fast.tw15624280296006277290 : True := trivial
theorem PySem.W.Fast.tw15068601742381790410 : True := trivial
theorem PySem.W.Fast.tw5473852923604914378 : True := trivial
theorem PySem.W.Fast.tw14754130441747796202 : True := trivial
theorem PySem.W.Fast.tw6593875995099418922 : True := trivial
theorem PySem.W.Fast.tw16908125528554036554 : True := trivial
theorem PySem.W.Fast.tw13552304354538999146 : True := trivial
theorem PySem.W.Fast.tw261645609295094186 : True := trivial
theorem PySem.W.Fast.tw6793467794236180906 : True := trivial
theorem PySem.W.Fast.tw1553356540985212362 : True := trivial
theorem PySem.W.Fast.tw2977603998295834090 : True := trivial
theorem PySem.W.Fast.tw13918734067194576362 : True := trivial
theorem PySem.W.Fast.tw9692616604621137386 : True := trivial
theorem PySem.W.Fast.tw947643465274335754 : True := trivial
theorem PySem.W.Fast.tw12752639185259101706 : True := trivial
theorem PySem.W.Fast.tw17895385356517891626 : True := trivial
theorem PySem.W.Fast.tw13043565330126181962 : True := trivial
theorem PySem.W.Fast.tw13296916135182885482 : True := trivial
theorem PySem.W.Fast.tw581695824372901514 : True := trivial
theorem PySem.W.Fast.tw4049326835890932426 : True := trivial
theorem PySem.W.Fast.tw10148024118678900458 : True := trivial
theorem PySem.W.Fast.tw17226210617014244106 : True := trivial
theorem PySem.W.Fast.tw14701739356078888778 : True := trivial
theorem PySem.W.Fast.tw5428635251538865002 : True := trivial
theorem PySem.W.Fast.tw6012926718327743370 : True := trivial
theorem PySem.W.Fast.tw10239648720038629354 : True := trivial
theorem PySem.W.Fast.tw13873541370416449514 : True := trivial
theorem PySem.W.Fast.tw7225792727546755050 : True := trivial
theorem PySem.W.Fast.tw6469598501562453003 : True := trivial
theorem PySem.W.Fast.tw18182305014545142827 : True := trivial
theorem PySem.W.Fast.tw5111298546496375883 : True := trivial
theorem PySem.W.Fast.tw3931130417340305483 : True := trivial
theorem PySem.W.Fast.tw11416829233487994987 : True := trivial
theorem PySem.W.Fast.tw10139126138597555307 : True := trivial
theorem PySem.W.Fast.tw8118885736554856587 : True := trivial
theorem PySem.W.Fast.tw6465949656251149451 : True := trivial
theorem PySem.W.Fast.tw14464535537183491243 : True := trivial
theorem PySem.W.Fast.tw10734477834062468299 : True := trivial
theorem PySem.W.Fast.tw467867498108332235 : True := trivial
theorem PySem.W.Fast.tw6093851312179263691 : True := trivial
theorem PySem.W.Fast.tw12083030821390438635 : True := trivial
theorem PySem.W.Fast.tw9157130222523670763 : True := trivial
theorem PySem.W.Fast.tw9639572084745803051 : True := trivial
theorem PySem.W.Fast.tw10890645528412391755 : True := trivial
theorem PySem.W.Fast.tw15863015307241864555 : True := trivial
theorem PySem.W.Fast.tw817905457663630699 : True := trivial
theorem PySem.W.Fast.tw15925558523765428619 : True := trivial
theorem PySem.W.Fast.tw2563953465812989323 : True := trivial
theorem PySem.W.Fast.tw17909384526821995947 : True := trivial
theorem PySem.W.Fast.tw8257333131277926827 : True := trivial
theorem PySem.W.Fast.tw8887612076758303179 : True := trivial
theorem PySem.W.Fast.tw2552280328569035243 : True := trivial
theorem PySem.W.Fast.tw16721971579256145419 : True := trivial
theorem PySem.W.Fast.tw4461427706325787179 : True := trivial
theorem PySem.W.Fast.tw10024766036766003787 : True := trivial
theorem PySem.W.Fast.tw1299885102433688139 : True := trivial
theorem PySem.W.Fast.tw6285756080424559211 : True := trivial
theorem PySem.W.Fast.tw4507041586997891787 : True := trivial
theorem PySem.W.Fast.tw3362163136801512139 : True := trivial
theorem PySem.W.Fast.tw6084191774724043499 : True := trivial
theorem PySem.W.Fast.tw16543021036142428939 : True := trivial
theorem PySem.W.Fast.tw4249787057751115563 : True := trivial
theorem PySem.W.Fast.tw5599773079911573323 : True := trivial
theorem PySem.W.Fast.tw9191437095485207371 : True := trivial
theorem PySem.W.Fast.tw6591627736922084203 : True := trivial
theorem PySem.W.Fast.tw6743102781131002795 : True := trivial
theorem PySem.W.Fast.tw7225568714801589227 : True := trivial
theorem PySem.W.Fast.tw9885935566471769067 : True := trivial
theorem PySem.W.Fast.tw16343618240534347755 : True := trivial
theorem PySem.W.Fast.tw4197296517550302252 : True := trivial
theorem PySem.W.Fast.tw9810433896852059212 : True := trivial
theorem PySem.W.Fast.tw1231175001299503212 : True := trivial
theorem PySem.W.Fast.tw5171385274358201452 : True := trivial
theorem PySem.W.Fast.tw14442655022558325900 : True := trivial
theorem PySem.W.Fast.tw7039953591952132268 : True := trivial
theorem PySem.W.Fast.tw16849026361020151020 : True := trivial
theorem PySem.W.Fast.tw16348167053532906796 : True := trivial
theorem PySem.W.Fast.tw3580371886041803084 : True := trivial
theorem PySem.W.Fast.tw1465398402204958028 : True := trivial
theorem PySem.W.Fast.tw4569420633547542892 : True := trivial
theorem PySem.W.Fast.tw5278823633783052652 : True := trivial
theorem PySem.W.Fast.tw3045172207539871084 : True := trivial
theorem PySem.W.Fast.tw10027248613733150092 : True := trivial
theorem PySem.W.Fast.tw12315442601855965580 : True := trivial
theorem PySem.W.Fast.tw4393530366796234124 : True := trivial
theorem PySem.W.Fast.tw9878353219205372332 : True := trivial
theorem PySem.W.Fast.tw6719595107930682796 : True := trivial
theorem PySem.W.Fast.tw15938354599580251564 : True := trivial
theorem PySem.W.Fast.tw9415447136253782476 : True := trivial
theorem PySem.W.Fast.tw14366028188081022412 : True := trivial
theorem PySem.W.Fast.tw11109069256500757036 : True := trivial
theorem PySem.W.Fast.tw14265143288908132972 : True := trivial
theorem PySem.W.Fast.tw14582452136931503756 : True := trivial
theorem PySem.W.Fast.tw5878716667657855660 : True := trivial
theorem PySem.W.Fast.tw15011111277865835212 : True := trivial
theorem PySem.W.Fast.tw3669110733149610700 : True := trivial
theorem PySem.W.Fast.tw7403069157079312076 : True := trivial
theorem PySem.W.Fast.tw14749595802982151916 : True := trivial
theorem PySem.W.Fast.tw14233830340235959052 : True := trivial
theorem PySem.W.Fast.tw10254142120778336108 : True := trivial
theorem PySem.W.Fast.tw2572883358966424428 : True := trivial
theorem PySem.W.Fast.tw11269300242638688140 : True := trivial
theorem PySem.W.Fast.tw16965879757173306284 : True := trivial
theorem PySem.W.Fast.tw7806110820515059725 : True := trivial
theorem PySem.W.Fast.tw17114740302752540717 : True := trivial
theorem PySem.W.Fast.tw11373385107267039309 : True := trivial
theorem PySem.W.Fast.tw10003240363787828365 : True := trivial
theorem PySem.W.Fast.tw4809785711492747405 : True := trivial
theorem PySem.W.Fast.tw17681075222303326381 : True := trivial
theorem PySem.W.Fast.tw3485277236372444525 : True := trivial
theorem PySem.W.Fast.tw9593881567175319949 : True := trivial
theorem PySem.W.Fast.tw12798389670671539597 : True := trivial
theorem PySem.W.Fast.tw527426770862086573 : True := trivial
theorem PySem.W.Fast.tw8317611086258985389 : True := trivial
theorem PySem.W.Fast.tw16398648013380541869 : True := trivial
theorem PySem.W.Fast.tw16102598286876500397 : True := trivial
theorem PySem.W.Fast.tw306051509595994541 : True := trivial
theorem PySem.W.Fast.tw7115769758234574285 : True := trivial
theorem PySem.W.Fast.tw18235285316325497325 : True := trivial
theorem PySem.W.Fast.tw9718386554662592013 : True := trivial
theorem PySem.W.Fast.tw7076336479115345421 : True := trivial
theorem PySem.W.Fast.tw10356696767769744973 : True := trivial
theorem PySem.W.Fast.tw2869024064933534285 : True := trivial
theorem PySem.W.Fast.tw6257289164356257389 : True := trivial
theorem PySem.W.Fast.tw10796518391290569325 : True := trivial
theorem PySem.W.Fast.tw17691863450189516397 : True := trivial
theorem PySem.W.Fast.tw5505061429637449389 : True := trivial
theorem PySem.W.Fast.tw10093312041942458061 : True := trivial
theorem PySem.W.Fast.tw14302547502555914957 : True := trivial
theorem PySem.W.Fast.tw5610886362560794349 : True := trivial
theorem PySem.W.Fast.tw10980626176356204269 : True := trivial
theorem PySem.W.Fast.tw6243855932141070061 : True := trivial
theorem PySem.W.Fast.tw17740160970015979277 : True := trivial
theorem PySem.W.Fast.tw3430268984328307469 : True := trivial
theorem PySem.W.Fast.tw816502266843795245 : True := trivial
theorem PySem.W.Fast.tw7191509323833921325 : True := trivial
theorem PySem.W.Fast.tw17338738231833362221 : True := trivial
theorem PySem.W.Fast.tw10558724074825354061 : True := trivial
theorem PySem.W.Fast.tw8505190210495129421 : True := trivial
theorem PySem.W.Fast.tw4226391756990162765 : True := trivial
theorem PySem.W.Fast.tw1562878786249634669 : True := trivial
theorem PySem.W.Fast.tw15562025076488813421 : True := trivial
theorem PySem.W.Fast.tw555331612060205965 : True := trivial
theorem PySem.W.Fast.tw17654505566808729485 : True := trivial
theorem PySem.W.Fast.tw14820672175281017902 : True := trivial
theorem PySem.W.Fast.tw366897878979658798 : True := trivial
theorem PySem.W.Fast.tw11942619521991964750 : True := trivial
theorem PySem.W.Fast.tw9583176654704690286 : True := trivial
theorem PySem.W.Fast.tw1966400650146281582 : True := trivial
theorem PySem.W.Fast.tw659824540259034286 : True := trivial
theorem PySem.W.Fast.tw2401863736681648302 : True := trivial
theorem PySem.W.Fast.tw3734787783956456622 : True := trivial
theorem PySem.W.Fast.tw14849098591616007342 : True := trivial
theorem PySem.W.Fast.tw8430929969491516622 : True := trivial
theorem PySem.W.Fast.tw18383296032026374350 : True := trivial
theorem PySem.W.Fast.tw13657802379630181582 : True := trivial
theorem PySem.W.Fast.tw16206734696232823022 : True := trivial
theorem PySem.W.Fast.tw7778353300349706542 : True := trivial
theorem PySem.W.Fast.tw10311115869445258542 : True := trivial
theorem PySem.W.Fast.tw10134542147458835790 : True := trivial
theorem PySem.W.Fast.tw6261542873202471246 : True := trivial
theorem PySem.W.Fast.tw11929641351326145934 : True := trivial
theorem PySem.W.Fast.tw979795776130049422 : True := trivial
theorem PySem.W.Fast.tw15612417868965754286 : True := trivial
theorem PySem.W.Fast.tw14493453706554751406 : True := trivial
theorem PySem.W.Fast.tw13751156270310939086 : True := trivial
theorem PySem.W.Fast.tw12645827712158434766 : True := trivial
theorem PySem.W.Fast.tw14858273575788756494 : True := trivial
theorem PySem.W.Fast.tw17227057801657911918 : True := trivial
theorem PySem.W.Fast.tw14768486366449574510 : True := trivial
theorem PySem.W.Fast.tw13786895963686202990 : True := trivial
theorem PySem.W.Fast.tw17564971503397417614 : True := trivial
theorem PySem.W.Fast.tw2413515682594525934 : True := trivial
theorem PySem.W.Fast.tw16766932318038144782 : True := trivial
theorem PySem.W.Fast.tw5229249165217649422 : True := trivial
theorem PySem.W.Fast.tw17808765244602497838 : True := trivial
theorem PySem.W.Fast.tw6282144820731594574 : True := trivial
theorem PySem.W.Fast.tw9765054128011400014 : True := trivial
theorem PySem.W.Fast.tw14762358686235260750 : True := trivial
theorem PySem.W.Fast.tw2578488583896792910 : True := trivial
theorem PySem.W.Fast.tw7390808896340708206 : True := trivial
theorem PySem.W.Fast.tw9636139945943337870 : True := trivial
theorem PySem.W.Fast.tw7224751765799187342 : True := trivial
theorem PySem.W.Fast.tw1453203081640383406 : True := trivial
theorem PySem.W.Fast.tw5947088602095194094 : True := trivial
theorem PySem.W.Fast.tw3895490257729897454 : True := trivial
theorem PySem.W.Fast.tw11698001951564457966 : True := trivial
theorem PySem.W.Fast.tw4582217526915591150 : True := trivial
theorem PySem.W.Fast.tw8218811727738402798 : True := trivial
theorem PySem.W.Fast.tw3328403080961296431 : True := trivial
theorem PySem.W.Fast.tw15242597828601113679 : True := trivial
theorem PySem.W.Fast.tw16042765183107208303 : True := trivial
theorem PySem.W.Fast.tw823253326500627599 : True := trivial
theorem PySem.W.Fast.tw10761083139480151183 : True := trivial
theorem PySem.W.Fast.tw18064633435603690639 : True := trivial
theorem PySem.W.Fast.tw36314871807407247 : True := trivial
theorem PySem.W.Fast.tw11616680589548880047 : True := trivial
theorem PySem.W.Fast.tw7763934741561455791 : True := trivial
theorem PySem.W.Fast.tw9736032026014402767 : True := trivial
theorem PySem.W.Fast.tw2274732677360082127 : True := trivial
theorem PySem.W.Fast.tw14585581146123708655 : True := trivial
theorem PySem.W.Fast.tw2468291505846606063 : True := trivial
theorem PySem.W.Fast.tw12065591377877402927 : True := trivial
theorem PySem.W.Fast.tw11477912711616331087 : True := trivial
theorem PySem.W.Fast.tw1848861790410981743 : True := trivial
theorem PySem.W.Fast.tw11788796342446775663 : True := trivial
theorem PySem.W.Fast.tw3985197572302782863 : True := trivial
theorem PySem.W.Fast.tw14978461257390739887 : True := trivial
theorem PySem.W.Fast.tw683586831838861743 : True := trivial
theorem PySem.W.Fast.tw12670856226755931567 : True := trivial
theorem PySem.W.Fast.tw12850063432740572655 : True := trivial
theorem PySem.W.Fast.tw17368438748501276207 : True := trivial
theorem PySem.W.Fast.tw6864789352645669455 : True := trivial
theorem PySem.W.Fast.tw2949920005508522575 : True := trivial
theorem PySem.W.Fast.tw17315590025425808975 : True := trivial
theorem PySem.W.Fast.tw2834663793966845551 : True := trivial
theorem PySem.W.Fast.tw16706900375741183599 : True := trivial
theorem PySem.W.Fast.tw7436361558834336367 : True := trivial
theorem PySem.W.Fast.tw4508227055202489967 : True := trivial
theorem PySem.W.Fast.tw13907032338068061839 : True := trivial
theorem PySem.W.Fast.tw8264162411472792239 : True := trivial
theorem PySem.W.Fast.tw17749966986657154735 : True := trivial
theorem PySem.W.Fast.tw14683082075095221935 : True := trivial
theorem PySem.W.Fast.tw876128172318788335 : True := trivial
theorem PySem.W.Fast.tw632094944092498671 : True := trivial
theorem PySem.W.Fast.tw16240769458052728687 : True := trivial
theorem PySem.W.Fast.tw8305300149456071567 : True := trivial
theorem PySem.W.Fast.tw15172329098934591375 : True := trivial
theorem PySem.W.Fast.tw12481650065595832271 : True := trivial
theorem PySem.W.Fast.tw2787084420986485711 : True := trivial
theorem PySem.W.Fast.tw2316135813994732495 : True := trivial
theorem PySem.W.Fast.tw16050618217647254544 : True := trivial
theorem PySem.W.Fast.tw5368215313228264464 : True := trivial
theorem PySem.W.Fast.tw6421757838930065488 : True := trivial
theorem PySem.W.Fast.tw12233449467804344400 : True := trivial
theorem PySem.W.Fast.tw14314858396197981296 : True := trivial
theorem PySem.W.Fast.tw15126843398015332496 : True := trivial
theorem PySem.W.Fast.tw4672508288301468848 : True := trivial
theorem PySem.W.Fast.tw6244532282381268144 : True := trivial
theorem PySem.W.Fast.tw7011379338301803728 : True := trivial
theorem PySem.W.Fast.tw14539122928986429648 : True := trivial
theorem PySem.W.Fast.tw1519651280913077520 : True := trivial
theorem PySem.W.Fast.tw5678500209878579504 : True := trivial
theorem PySem.W.Fast.tw5568670181316512048 : True := trivial
theorem PySem.W.Fast.tw6600352920144824688 : True := trivial
theorem PySem.W.Fast.tw12598946394032821616 : True := trivial
theorem PySem.W.Fast.tw7685156911970845072 : True := trivial
theorem PySem.W.Fast.tw457430246670222768 : True := trivial
theorem PySem.W.Fast.tw12079825946058920400 : True := trivial
theorem PySem.W.Fast.tw18339207924358716880 : True := trivial
theorem PySem.W.Fast.tw3109639099982454256 : True := trivial
theorem PySem.W.Fast.tw16719314677138931184 : True := trivial
theorem PySem.W.Fast.tw5592336805311108592 : True := trivial
theorem PySem.W.Fast.tw411051176460375568 : True := trivial
theorem PySem.W.Fast.tw16904911913725549072 : True := trivial
theorem PySem.W.Fast.tw11563345936244571696 : True := trivial
theorem PySem.W.Fast.tw10152805978413413936 : True := trivial
theorem PySem.W.Fast.tw5686746004853782128 : True := trivial
theorem PySem.W.Fast.tw6911763364155441840 : True := trivial
theorem PySem.W.Fast.tw14174080247415255728 : True := trivial
theorem PySem.W.Fast.tw8977228369082582736 : True := trivial
theorem PySem.W.Fast.tw6018733676061804240 : True := trivial
theorem PySem.W.Fast.tw12257073889862971120 : True := trivial
theorem PySem.W.Fast.tw11549471445096068848 : True := trivial
theorem PySem.W.Fast.tw18006079834913799920 : True := trivial
theorem PySem.W.Fast.tw15437279973207090960 : True := trivial
theorem PySem.W.Fast.tw387076569291783952 : True := trivial
theorem PySem.W.Fast.tw4808020270268324656 : True := trivial
theorem PySem.W.Fast.tw15023252378828074832 : True := trivial
theorem PySem.W.Fast.tw7261532711626515312 : True := trivial
theorem PySem.W.Fast.tw18139161359751253904 : True := trivial
theorem PySem.W.Fast.tw6372773937680715696 : True := trivial
theorem PySem.W.Fast.tw11658988057072019376 : True := trivial
theorem PySem.W.Fast.tw1802312857722498992 : True := trivial
theorem PySem.W.Fast.tw16495888749498060720 : True := trivial
theorem PySem.W.Fast.tw2307990096730206192 : True := trivial
theorem PySem.W.Fast.tw7424135663054963696 : True := trivial
theorem PySem.W.Fast.tw1550204561244567633 : True := trivial
theorem PySem.W.Fast.tw11295019364578958449 : True := trivial
theorem PySem.W.Fast.tw15599676188190790769 : True := trivial
theorem PySem.W.Fast.tw12552199255120932977 : True := trivial
theorem PySem.W.Fast.tw10456461211842359441 : True := trivial
theorem PySem.W.Fast.tw6041871426142684305 : True := trivial
theorem PySem.W.Fast.tw7455510100232000657 : True := trivial
theorem PySem.W.Fast.tw2654457628553100465 : True := trivial
theorem PySem.W.Fast.tw10401087739267117233 : True := trivial
theorem PySem.W.Fast.tw15389764830109037745 : True := trivial
theorem PySem.W.Fast.tw10053271745631713457 : True := trivial
theorem PySem.W.Fast.tw6034363457185898737 : True := trivial
theorem PySem.W.Fast.tw14226220410284044529 : True := trivial
theorem PySem.W.Fast.tw17298659932643249425 : True := trivial
theorem PySem.W.Fast.tw2838090978658738449 : True := trivial
theorem PySem.W.Fast.tw3372584109181565233 : True := trivial
theorem PySem.W.Fast.tw5405856373422567761 : True := trivial
theorem PySem.W.Fast.tw5270625579521229137 : True := trivial
theorem PySem.W.Fast.tw237776000256972145 : True := trivial
theorem PySem.W.Fast.tw16174148996757302673 : True := trivial
theorem PySem.W.Fast.tw15287500886014048657 : True := trivial
theorem PySem.W.Fast.tw10662766421345111473 : True := trivial
theorem PySem.W.Fast.tw2128339310374678961 : True := trivial
theorem PySem.W.Fast.tw12141069114692491729 : True := trivial
theorem PySem.W.Fast.tw1506573872786085329 : True := trivial
theorem PySem.W.Fast.tw2912967749164643825 : True := trivial
theorem PySem.W.Fast.tw7884903585418263089 : True := trivial
theorem PySem.W.Fast.tw7650355376146214449 : True := trivial
theorem PySem.W.Fast.tw245437161911188049 : True := trivial
theorem PySem.W.Fast.tw2066755902331837041 : True := trivial
theorem PySem.W.Fast.tw5359666182280770161 : True := trivial
theorem PySem.W.Fast.tw14570805666038165137 : True := trivial
theorem PySem.W.Fast.tw12808875467167574705 : True := trivial
theorem PySem.W.Fast.tw6541794380865046193 : True := trivial
theorem PySem.W.Fast.tw9203263178258222801 : True := trivial
theorem PySem.W.Fast.tw1272177529523249873 : True := trivial
theorem PySem.W.Fast.tw1176712490857228017 : True := trivial
theorem PySem.W.Fast.tw16148115768883728145 : True := trivial
theorem PySem.W.Fast.tw8040079956032559921 : True := trivial
theorem PySem.W.Fast.tw5513336188892165969 : True := trivial
theorem PySem.W.Fast.tw8958551945421730673 : True := trivial
theorem PySem.W.Fast.tw961361989107090321 : True := trivial
theorem PySem.W.Fast.tw12522407546909773713 : True := trivial
theorem PySem.W.Fast.tw394526872960718737 : True := trivial
theorem PySem.W.Fast.tw16271124496226417585 : True := trivial
theorem PySem.W.Fast.tw12707153314311904209 : True := trivial
theorem PySem.W.Fast.tw4082459434104703985 : True := trivial
theorem PySem.W.Fast.tw18103372165771263026 : True := trivial
theorem PySem.W.Fast.tw17093095449368432722 : True := trivial
theorem PySem.W.Fast.tw2184958747155858546 : True := trivial
theorem PySem.W.Fast.tw4156120066963186802 : True := trivial
theorem PySem.W.Fast.tw3448400885867596914 : True := trivial
theorem PySem.W.Fast.tw791515296785222770 : True := trivial
theorem PySem.W.Fast.tw9019698446171427186 : True := trivial
theorem PySem.W.Fast.tw10467318146095604082 : True := trivial
theorem PySem.W.Fast.tw13919270340779131282 : True := trivial
theorem PySem.W.Fast.tw7338742175817660818 : True := trivial
theorem PySem.W.Fast.tw11070515381928308178 : True := trivial
theorem PySem.W.Fast.tw8277289417208353234 : True := trivial
theorem PySem.W.Fast.tw2424546095041772018 : True := trivial
theorem PySem.W.Fast.tw14760486023631798802 : True := trivial
theorem PySem.W.Fast.tw1272764107429087858 : True := trivial
theorem PySem.W.Fast.tw2594758904999570034 : True := trivial
theorem PySem.W.Fast.tw14382934816851507826 : True := trivial
theorem PySem.W.Fast.tw13099983085904046770 : True := trivial
theorem PySem.W.Fast.tw3738647305189097234 : True := trivial
theorem PySem.W.Fast.tw1117651237209192274 : True := trivial
theorem PySem.W.Fast.tw6168787494430962514 : True := trivial
theorem PySem.W.Fast.tw9650846880021610322 : True := trivial
theorem PySem.W.Fast.tw9047220568439201650 : True := trivial
theorem PySem.W.Fast.tw7799298228802329458 : True := trivial
theorem PySem.W.Fast.tw8429604916934671250 : True := trivial
theorem PySem.W.Fast.tw4180287456994457490 : True := trivial
theorem PySem.W.Fast.tw8990950387410490290 : True := trivial
theorem PySem.W.Fast.tw1854284803673465778 : True := trivial
theorem PySem.W.Fast.tw13522222371912044530 : True := trivial
theorem PySem.W.Fast.tw7207625867677734931 : True := trivial
theorem PySem.W.Fast.tw1405446759401726995 : True := trivial
theorem PySem.W.Fast.tw838898642256068659 : True := trivial
theorem PySem.W.Fast.tw12771917947443911731 : True := trivial
theorem PySem.W.Fast.tw984080351835877427 : True := trivial
theorem PySem.W.Fast.tw1766695581232173139 : True := trivial
theorem PySem.W.Fast.tw3311096108986880083 : True := trivial
theorem PySem.W.Fast.tw1123997020419779667 : True := trivial
theorem PySem.W.Fast.tw13771288812486312051 : True := trivial
theorem PySem.W.Fast.tw8187733324315790483 : True := trivial
theorem PySem.W.Fast.tw5138153001302110355 : True := trivial
theorem PySem.W.Fast.tw6246907164565356691 : True := trivial
theorem PySem.W.Fast.tw15363959854762195 : True := trivial
theorem PySem.W.Fast.tw3436056955517996243 : True := trivial
theorem PySem.W.Fast.tw13722885018978633939 : True := trivial
theorem PySem.W.Fast.tw5334225433374646483 : True := trivial
theorem PySem.W.Fast.tw7247407350450778355 : True := trivial
theorem PySem.W.Fast.tw1419984159158518035 : True := trivial
theorem PySem.W.Fast.tw6340921633494070547 : True := trivial
theorem PySem.W.Fast.tw17908327665317802323 : True := trivial
theorem PySem.W.Fast.tw13418272331172043155 : True := trivial
theorem PySem.W.Fast.tw17865485010564558259 : True := trivial
theorem PySem.W.Fast.tw359017976734766515 : True := trivial
theorem PySem.W.Fast.tw16032543714605685171 : True := trivial
theorem PySem.W.Fast.tw15491910070200284627 : True := trivial
theorem PySem.W.Fast.tw18191161792992443891 : True := trivial
theorem PySem.W.Fast.tw12618918354158140915 : True := trivial
theorem PySem.W.Fast.tw14340671280359418387 : True := trivial
theorem PySem.W.Fast.tw14014894760191488531 : True := trivial
theorem PySem.W.Fast.tw15021354931448393363 : True := trivial
theorem PySem.W.Fast.tw16631557200524681875 : True := trivial
theorem PySem.W.Fast.tw6913740005163411123 : True := trivial
theorem PySem.W.Fast.tw17108653833215756979 : True := trivial
theorem PySem.W.Fast.tw3686989605757035251 : True := trivial
theorem PySem.W.Fast.tw94349143201470195 : True := trivial
theorem PySem.W.Fast.tw17495533543183587187 : True := trivial
theorem PySem.W.Fast.tw8685920175067271059 : True := trivial
theorem PySem.W.Fast.tw168589400784850835 : True := trivial
theorem PySem.W.Fast.tw14479955758711767987 : True := trivial
theorem PySem.W.Fast.tw14003676314107672531 : True := trivial
theorem PySem.W.Fast.tw15342451097991833587 : True := trivial
theorem PySem.W.Fast.tw17680632201536968691 : True := trivial
theorem PySem.W.Fast.tw9664198844239319060 : True := trivial
theorem PySem.W.Fast.tw5413779212812096564 : True := trivial
theorem PySem.W.Fast.tw190675340711991380 : True := trivial
theorem PySem.W.Fast.tw4538295963483421780 : True := trivial
theorem PySem.W.Fast.tw8376329824797906004 : True := trivial
theorem PySem.W.Fast.tw6289441135359480948 : True := trivial
theorem PySem.W.Fast.tw10512364437963068532 : True := trivial
theorem PySem.W.Fast.tw6551381106299495540 : True := trivial
theorem PySem.W.Fast.tw4149735351630391412 : True := trivial
theorem PySem.W.Fast.tw10718033689758397556 : True := trivial
theorem PySem.W.Fast.tw7017152469904720020 : True := trivial
theorem PySem.W.Fast.tw4231416307246105748 : True := trivial
theorem PySem.W.Fast.tw3305842629397417108 : True := trivial
theorem PySem.W.Fast.tw1192569195687027860 : True := trivial
theorem PySem.W.Fast.tw15837419611916919988 : True := trivial
theorem PySem.W.Fast.tw4048732717858154676 : True := trivial
theorem PySem.W.Fast.tw3651748756468431028 : True := trivial
theorem PySem.W.Fast.tw4825376978876164372 : True := trivial
theorem PySem.W.Fast.tw11495456019482859796 : True := trivial
theorem PySem.W.Fast.tw131856186920064308 : True := trivial
theorem PySem.W.Fast.tw4379599098307801396 : True := trivial
theorem PySem.W.Fast.tw15613700753133285716 : True := trivial
theorem PySem.W.Fast.tw14433092344955788628 : True := trivial
theorem PySem.W.Fast.tw17600100793662513524 : True := trivial
theorem PySem.W.Fast.tw5360509638785740148 : True := trivial
theorem PySem.W.Fast.tw7163910926663669108 : True := trivial
theorem PySem.W.Fast.tw16466662016188465588 : True := trivial
theorem PySem.W.Fast.tw5088626796130984372 : True := trivial
theorem PySem.W.Fast.tw5534418430770439604 : True := trivial
theorem PySem.W.Fast.tw17473016419827650004 : True := trivial
theorem PySem.W.Fast.tw17547466772809818580 : True := trivial
theorem PySem.W.Fast.tw15450110873911874004 : True := trivial
theorem PySem.W.Fast.tw17776903117396111828 : True := trivial
theorem PySem.W.Fast.tw8066046207043441140 : True := trivial
theorem PySem.W.Fast.tw15016357085377147380 : True := trivial
theorem PySem.W.Fast.tw16312410484909819380 : True := trivial
theorem PySem.W.Fast.tw2837717944984096276 : True := trivial
theorem PySem.W.Fast.tw17033758289842955796 : True := trivial
theorem PySem.W.Fast.tw8659544817224341044 : True := trivial
theorem PySem.W.Fast.tw11315780008936163924 : True := trivial
theorem PySem.W.Fast.tw3854281196218279508 : True := trivial
theorem PySem.W.Fast.tw11152137155247199860 : True := trivial
theorem PySem.W.Fast.tw12567970367892306580 : True := trivial
theorem PySem.W.Fast.tw6086018357977803412 : True := trivial
theorem PySem.W.Fast.tw7038778852277414612 : True := trivial
theorem PySem.W.Fast.tw5698210013477319444 : True := trivial
theorem PySem.W.Fast.tw4845977689283270452 : True := trivial
theorem PySem.W.Fast.tw16975718125337746260 : True := trivial
theorem PySem.W.Fast.tw12326243472442647412 : True := trivial
theorem PySem.W.Fast.tw15570829038073819060 : True := trivial
theorem PySem.W.Fast.tw11929906829783176148 : True := trivial
theorem PySem.W.Fast.tw15042997159483254740 : True := trivial
theorem PySem.W.Fast.tw13126758743774629876 : True := trivial
theorem PySem.W.Fast.tw3682047283845926900 : True := trivial
theorem PySem.W.Fast.tw15246246535404790772 : True := trivial
theorem PySem.W.Fast.tw12104662924928815125 : True := trivial
theorem PySem.W.Fast.tw208574892823624725 : True := trivial
theorem PySem.W.Fast.tw16505486407919938613 : True := trivial
theorem PySem.W.Fast.tw16251336758970177621 : True := trivial
theorem PySem.W.Fast.tw12606204340428070997 : True := trivial
theorem PySem.W.Fast.tw10721831106600951893 : True := trivial
theorem PySem.W.Fast.tw17610726172264428629 : True := trivial
theorem PySem.W.Fast.tw1396675058731317397 : True := trivial
theorem PySem.W.Fast.tw12246824048911750485 : True := trivial
theorem PySem.W.Fast.tw8298079626742961493 : True := trivial
theorem PySem.W.Fast.tw15151309407263069557 : True := trivial
theorem PySem.W.Fast.tw10468244309098345845 : True := trivial
theorem PySem.W.Fast.tw6515713637514170773 : True := trivial
theorem PySem.W.Fast.tw9790967270762610069 : True := trivial
theorem PySem.W.Fast.tw14209814945657094581 : True := trivial
theorem PySem.W.Fast.tw2629847907052979637 : True := trivial
theorem PySem.W.Fast.tw11234179799834533301 : True := trivial
theorem PySem.W.Fast.tw8811985302674464213 : True := trivial
theorem PySem.W.Fast.tw15764471232463946197 : True := trivial
theorem PySem.W.Fast.tw7138821181688613365 : True := trivial
theorem PySem.W.Fast.tw5338275182813881845 : True := trivial
theorem PySem.W.Fast.tw8015596647577430517 : True := trivial
theorem PySem.W.Fast.tw5137198488474268149 : True := trivial
theorem PySem.W.Fast.tw5029421719435562485 : True := trivial
theorem PySem.W.Fast.tw12092519097976584693 : True := trivial
theorem PySem.W.Fast.tw15894322045511875189 : True := trivial
theorem PySem.W.Fast.tw4851958432081607285 : True := trivial
theorem PySem.W.Fast.tw12492229495010806421 : True := trivial
theorem PySem.W.Fast.tw4980214040336682709 : True := trivial
theorem PySem.W.Fast.tw9797718804435628757 : True := trivial
theorem PySem.W.Fast.tw18051977497039912693 : True := trivial
theorem PySem.W.Fast.tw14912289220208783093 : True := trivial
theorem PySem.W.Fast.tw4069269740413522741 : True := trivial
theorem PySem.W.Fast.tw12924380192969630549 : True := trivial
theorem PySem.W.Fast.tw4683717106784019317 : True := trivial
theorem PySem.W.Fast.tw18427941663693425525 : True := trivial
theorem PySem.W.Fast.tw8696494029970724725 : True := trivial
theorem PySem.W.Fast.tw10972509315136480117 : True := trivial
theorem PySem.W.Fast.tw18374534840636988309 : True := trivial
theorem PySem.W.Fast.tw4607058126836982677 : True := trivial
theorem PySem.W.Fast.tw10794122975996831637 : True := trivial
theorem PySem.W.Fast.tw2579334727320020917 : True := trivial
theorem PySem.W.Fast.tw298070170858691509 : True := trivial
theorem PySem.W.Fast.tw3771429293652185045 : True := trivial
theorem PySem.W.Fast.tw8067588416425009109 : True := trivial
theorem PySem.W.Fast.tw350892962904269781 : True := trivial
theorem PySem.W.Fast.tw3828385214338121782 : True := trivial
theorem PySem.W.Fast.tw11607493742752189494 : True := trivial
theorem PySem.W.Fast.tw12185132623986430102 : True := trivial
theorem PySem.W.Fast.tw18337805189057587350 : True := trivial
theorem PySem.W.Fast.tw5607051453711843542 : True := trivial
theorem PySem.W.Fast.tw2367701446329407702 : True := trivial
theorem PySem.W.Fast.tw1167793760982478038 : True := trivial
theorem PySem.W.Fast.tw13376190637629690134 : True := trivial
theorem PySem.W.Fast.tw14520261754606901526 : True := trivial
theorem PySem.W.Fast.tw16893031332108152118 : True := trivial
theorem PySem.W.Fast.tw479269951971251510 : True := trivial
theorem PySem.W.Fast.tw10491733780378794326 : True := trivial
theorem PySem.W.Fast.tw3117118170744043894 : True := trivial
theorem PySem.W.Fast.tw4083669810037349750 : True := trivial
theorem PySem.W.Fast.tw6901871071215871350 : True := trivial
theorem PySem.W.Fast.tw2757986639891101078 : True := trivial
theorem PySem.W.Fast.tw619661006430119382 : True := trivial
theorem PySem.W.Fast.tw12475048696373215734 : True := trivial
theorem PySem.W.Fast.tw5207430689834384918 : True := trivial
theorem PySem.W.Fast.tw2686060689955313206 : True := trivial
theorem PySem.W.Fast.tw9953804496719010358 : True := trivial
theorem PySem.W.Fast.tw9777136105649532470 : True := trivial
theorem PySem.W.Fast.tw775299115500829238 : True := trivial
theorem PySem.W.Fast.tw4965571102230439510 : True := trivial
theorem PySem.W.Fast.tw6311988703305441878 : True := trivial
theorem PySem.W.Fast.tw12596577091979431510 : True := trivial
theorem PySem.W.Fast.tw12608457181017675382 : True := trivial
theorem PySem.W.Fast.tw7720155030785107574 : True := trivial
theorem PySem.W.Fast.tw9329712879273882262 : True := trivial
theorem PySem.W.Fast.tw13655292279640712854 : True := trivial
theorem PySem.W.Fast.tw11568852496898395830 : True := trivial
theorem PySem.W.Fast.tw12921324142132884182 : True := trivial
theorem PySem.W.Fast.tw18272242505083880182 : True := trivial
theorem PySem.W.Fast.tw17225407394019328822 : True := trivial
theorem PySem.W.Fast.tw16960052872111508278 : True := trivial
theorem PySem.W.Fast.tw13634317730900568886 : True := trivial
theorem PySem.W.Fast.tw6193050624402032470 : True := trivial
theorem PySem.W.Fast.tw14415798474780710742 : True := trivial
theorem PySem.W.Fast.tw14841112423121893206 : True := trivial
theorem PySem.W.Fast.tw4536689909981469526 : True := trivial
theorem PySem.W.Fast.tw14964256874809291606 : True := trivial
theorem PySem.W.Fast.tw14628490963216409462 : True := trivial
theorem PySem.W.Fast.tw11535590471085549430 : True := trivial
theorem PySem.W.Fast.tw12428838569769925494 : True := trivial
theorem PySem.W.Fast.tw13035983414984842134 : True := trivial
theorem PySem.W.Fast.tw7357648216703902614 : True := trivial
theorem PySem.W.Fast.tw5291922279035247542 : True := trivial
theorem PySem.W.Fast.tw5761214465808027638 : True := trivial
theorem PySem.W.Fast.tw9939141880447340567 : True := trivial
theorem PySem.W.Fast.tw7502192614700926999 : True := trivial
theorem PySem.W.Fast.tw2330719946795029559 : True := trivial
theorem PySem.W.Fast.tw2715190969152136247 : True := trivial
theorem PySem.W.Fast.tw15366143051191945303 : True := trivial
theorem PySem.W.Fast.tw10305379706938804311 : True := trivial
theorem PySem.W.Fast.tw16706111020250362967 : True := trivial
theorem PySem.W.Fast.tw2482609529787859063 : True := trivial
theorem PySem.W.Fast.tw17395663585353554039 : True := trivial
theorem PySem.W.Fast.tw10000514846571896983 : True := trivial
theorem PySem.W.Fast.tw3919329547948720343 : True := trivial
theorem PySem.W.Fast.tw2766130266686621911 : True := trivial
theorem PySem.W.Fast.tw16583140052969609431 : True := trivial
theorem PySem.W.Fast.tw5721073133640492279 : True := trivial
theorem PySem.W.Fast.tw12201946975728582935 : True := trivial
theorem PySem.W.Fast.tw5501631767579090199 : True := trivial
theorem PySem.W.Fast.tw8215163868339147063 : True := trivial
theorem PySem.W.Fast.tw5069513653783570807 : True := trivial
theorem PySem.W.Fast.tw8526331185168427415 : True := trivial
theorem PySem.W.Fast.tw9026189624072421783 : True := trivial
theorem PySem.W.Fast.tw12445661680603291031 : True := trivial
theorem PySem.W.Fast.tw14090940068144541079 : True := trivial
theorem PySem.W.Fast.tw3184677735221320119 : True := trivial
theorem PySem.W.Fast.tw14029725604572260855 : True := trivial
theorem PySem.W.Fast.tw5322720159669892631 : True := trivial
theorem PySem.W.Fast.tw17635376185035681303 : True := trivial
theorem PySem.W.Fast.tw13925926900595749431 : True := trivial
theorem PySem.W.Fast.tw17559587579860876855 : True := trivial
theorem PySem.W.Fast.tw12094277918962909783 : True := trivial
theorem PySem.W.Fast.tw7942809079749218903 : True := trivial
theorem PySem.W.Fast.tw10138383881514373783 : True := trivial
theorem PySem.W.Fast.tw17628593117263586999 : True := trivial
theorem PySem.W.Fast.tw13679178952372179671 : True := trivial
theorem PySem.W.Fast.tw9592984559302666967 : True := trivial
theorem PySem.W.Fast.tw10989960027413614327 : True := trivial
theorem PySem.W.Fast.tw18312327081783905047 : True := trivial
theorem PySem.W.Fast.tw1670914201719265047 : True := trivial
theorem PySem.W.Fast.tw4821339978462430007 : True := trivial
theorem PySem.W.Fast.tw2397524921257836375 : True := trivial
theorem PySem.W.Fast.tw2924901857114033047 : True := trivial
theorem PySem.W.Fast.tw8765772400386577303 : True := trivial
theorem PySem.W.Fast.tw5513997819081932695 : True := trivial
theorem PySem.W.Fast.tw17310762311221639063 : True := trivial
theorem PySem.W.Fast.tw14712859628985617496 : True := trivial
theorem PySem.W.Fast.tw14003265242111478936 : True := trivial
theorem PySem.W.Fast.tw17541372727585719480 : True := trivial
theorem PySem.W.Fast.tw6548001052277123320 : True := trivial
theorem PySem.W.Fast.tw13483704724816802040 : True := trivial
theorem PySem.W.Fast.tw2428663886786518264 : True := trivial
theorem PySem.W.Fast.tw15981524869919264024 : True := trivial
theorem PySem.W.Fast.tw16888059579122540824 : True := trivial
theorem PySem.W.Fast.tw13531422811765206296 : True := trivial
theorem PySem.W.Fast.tw10117447219562810680 : True := trivial
theorem PySem.W.Fast.tw4447970331024992568 : True := trivial
theorem PySem.W.Fast.tw10891364497290451256 : True := trivial
theorem PySem.W.Fast.tw17166982687972859224 : True := trivial
theorem PySem.W.Fast.tw16651876647190433144 : True := trivial
theorem PySem.W.Fast.tw10886786785744359800 : True := trivial
theorem PySem.W.Fast.tw9458993424584358264 : True := trivial
theorem PySem.W.Fast.tw5036988313583915416 : True := trivial
theorem PySem.W.Fast.tw7052545902284456376 : True := trivial
theorem PySem.W.Fast.tw12081041283029429752 : True := trivial
theorem PySem.W.Fast.tw17198803453995456024 : True := trivial
theorem PySem.W.Fast.tw14883193485641536024 : True := trivial
theorem PySem.W.Fast.tw9272714450542487064 : True := trivial
theorem PySem.W.Fast.tw7901842116680842808 : True := trivial
theorem PySem.W.Fast.tw390679500443930200 : True := trivial
theorem PySem.W.Fast.tw6600098634367394424 : True := trivial
theorem PySem.W.Fast.tw16597127559722914456 : True := trivial
theorem PySem.W.Fast.tw8481613119567541944 : True := trivial
theorem PySem.W.Fast.tw13311849920266229496 : True := trivial
theorem PySem.W.Fast.tw1817290459822656280 : True := trivial
theorem PySem.W.Fast.tw14196119654240724760 : True := trivial
theorem PySem.W.Fast.tw252995812753295128 : True := trivial
theorem PySem.W.Fast.tw15784662229858703128 : True := trivial
theorem PySem.W.Fast.tw6211687974071269208 : True := trivial
theorem PySem.W.Fast.tw9083550930574287736 : True := trivial
theorem PySem.W.Fast.tw3079683208509451128 : True := trivial
theorem PySem.W.Fast.tw6715191625768760184 : True := trivial
theorem PySem.W.Fast.tw13472176467083639704 : True := trivial
theorem PySem.W.Fast.tw12097296816722213816 : True := trivial
theorem PySem.W.Fast.tw2814202657235469272 : True := trivial
theorem PySem.W.Fast.tw14132000930145658840 : True := trivial
theorem PySem.W.Fast.tw13541261824592506840 : True := trivial
theorem PySem.W.Fast.tw14409335223197632504 : True := trivial
theorem PySem.W.Fast.tw4357443730145525752 : True := trivial
theorem PySem.W.Fast.tw10911938039274141688 : True := trivial
theorem PySem.W.Fast.tw14993617436047205401 : True := trivial
theorem PySem.W.Fast.tw4884703366635294745 : True := trivial
theorem PySem.W.Fast.tw17260923459908713497 : True := trivial
theorem PySem.W.Fast.tw5346456733509320761 : True := trivial
theorem PySem.W.Fast.tw12228232562581737529 : True := trivial
theorem PySem.W.Fast.tw8271906516705256505 : True := trivial
theorem PySem.W.Fast.tw17023454998051201177 : True := trivial
theorem PySem.W.Fast.tw1939400768980897945 : True := trivial
theorem PySem.W.Fast.tw2603981854687683801 : True := trivial
theorem PySem.W.Fast.tw3366248874300370137 : True := trivial
theorem PySem.W.Fast.tw12551296508745122041 : True := trivial
theorem PySem.W.Fast.tw11641893115218598137 : True := trivial
theorem PySem.W.Fast.tw6814050111779481849 : True := trivial
theorem PySem.W.Fast.tw944190853657516281 : True := trivial
theorem PySem.W.Fast.tw11395043849748361529 : True := trivial
theorem PySem.W.Fast.tw788929113657988409 : True := trivial
theorem PySem.W.Fast.tw3784088339493706073 : True := trivial
theorem PySem.W.Fast.tw2881833607469998425 : True := trivial
theorem PySem.W.Fast.tw10535066444306753945 : True := trivial
theorem PySem.W.Fast.tw17524367745655167385 : True := trivial
theorem PySem.W.Fast.tw12410516408894381465 : True := trivial
theorem PySem.W.Fast.tw215959545045553593 : True := trivial
theorem PySem.W.Fast.tw18056855399109670329 : True := trivial
theorem PySem.W.Fast.tw7337121178858206649 : True := trivial
theorem PySem.W.Fast.tw8553276227790530009 : True := trivial
theorem PySem.W.Fast.tw12946003933268961785 : True := trivial
theorem PySem.W.Fast.tw86877071207938649 : True := trivial
theorem PySem.W.Fast.tw8792983836750626457 : True := trivial
theorem PySem.W.Fast.tw9926591196942716569 : True := trivial
theorem PySem.W.Fast.tw14460298057821102905 : True := trivial
theorem PySem.W.Fast.tw3628134058016876345 : True := trivial
theorem PySem.W.Fast.tw14328957240035518265 : True := trivial
theorem PySem.W.Fast.tw6070966359853044569 : True := trivial
theorem PySem.W.Fast.tw13523879685836119897 : True := trivial
theorem PySem.W.Fast.tw12753567827837223801 : True := trivial
theorem PySem.W.Fast.tw7998547390241653625 : True := trivial
theorem PySem.W.Fast.tw15700189358552900505 : True := trivial
theorem PySem.W.Fast.tw7507618442322114457 : True := trivial
theorem PySem.W.Fast.tw5929348219329353689 : True := trivial
theorem PySem.W.Fast.tw6726936085647005689 : True := trivial
theorem PySem.W.Fast.tw15096067548325751866 : True := trivial
theorem PySem.W.Fast.tw5491028258134084666 : True := trivial
theorem PySem.W.Fast.tw11490767353158922330 : True := trivial
theorem PySem.W.Fast.tw5458970606649717882 : True := trivial
theorem PySem.W.Fast.tw10807205878363100314 : True := trivial
theorem PySem.W.Fast.tw12058642151220307162 : True := trivial
theorem PySem.W.Fast.tw16527368469914356986 : True := trivial
theorem PySem.W.Fast.tw15935365064106383610 : True := trivial
theorem PySem.W.Fast.tw17669918882062440698 : True := trivial
theorem PySem.W.Fast.tw14615274066662875386 : True := trivial
theorem PySem.W.Fast.tw5580838619518568762 : True := trivial
theorem PySem.W.Fast.tw5720252273368057178 : True := trivial
theorem PySem.W.Fast.tw5172307163495092570 : True := trivial
theorem PySem.W.Fast.tw12499737971128945050 : True := trivial
theorem PySem.W.Fast.tw14587020297469005242 : True := trivial
theorem PySem.W.Fast.tw1861165017464934874 : True := trivial
theorem PySem.W.Fast.tw5897341839710500314 : True := trivial
theorem PySem.W.Fast.tw9882857519334742490 : True := trivial
theorem PySem.W.Fast.tw11756829165611451898 : True := trivial
theorem PySem.W.Fast.tw557465013570906682 : True := trivial
theorem PySem.W.Fast.tw15479192183912281658 : True := trivial
theorem PySem.W.Fast.tw5627570132419108410 : True := trivial
theorem PySem.W.Fast.tw6724043442418022970 : True := trivial
theorem PySem.W.Fast.tw14300652427392059994 : True := trivial
theorem PySem.W.Fast.tw18271115519515171418 : True := trivial
theorem PySem.W.Fast.tw677304129515232890 : True := trivial
theorem PySem.W.Fast.tw3851395837587967642 : True := trivial
theorem PySem.W.Fast.tw5445896765262695098 : True := trivial
theorem PySem.W.Fast.tw9849942656395743930 : True := trivial
theorem PySem.W.Fast.tw14243197874973100762 : True := trivial
theorem PySem.W.Fast.tw14976906894220285658 : True := trivial
theorem PySem.W.Fast.tw2140001523105463002 : True := trivial
theorem PySem.W.Fast.tw9640679244870547194 : True := trivial
theorem PySem.W.Fast.tw11708161944103829274 : True := trivial
theorem PySem.W.Fast.tw8419928671920238394 : True := trivial
theorem PySem.W.Fast.tw11503582433162572602 : True := trivial
theorem PySem.W.Fast.tw13184509490929747770 : True := trivial
theorem PySem.W.Fast.tw10234719628072505146 : True := trivial
theorem PySem.W.Fast.tw5078111087300630330 : True := trivial
theorem PySem.W.Fast.tw16217466826631056218 : True := trivial
theorem PySem.W.Fast.tw16369107516749528922 : True := trivial
theorem PySem.W.Fast.tw16761957168693535610 : True := trivial
theorem PySem.W.Fast.tw16701998139894567834 : True := trivial
theorem PySem.W.Fast.tw6452416838939023258 : True := trivial
theorem PySem.W.Fast.tw6302876290654845946 : True := trivial
theorem PySem.W.Fast.tw12700251174052698139 : True := trivial
theorem PySem.W.Fast.tw15172276475943712827 : True := trivial
theorem PySem.W.Fast.tw4573178074506318043 : True := trivial
theorem PySem.W.Fast.tw14459755985242233083 : True := trivial
theorem PySem.W.Fast.tw7997865742695449851 : True := trivial
theorem PySem.W.Fast.tw4747106991178280187 : True := trivial
theorem PySem.W.Fast.tw9519099407410236699 : True := trivial
theorem PySem.W.Fast.tw11001026580877017403 : True := trivial
theorem PySem.W.Fast.tw4926203057636454811 : True := trivial
theorem PySem.W.Fast.tw3781748620533774747 : True := trivial
theorem PySem.W.Fast.tw7099273198405984699 : True := trivial
theorem PySem.W.Fast.tw8229698260256484827 : True := trivial
theorem PySem.W.Fast.tw13392144678647432731 : True := trivial
theorem PySem.W.Fast.tw5898866487810132571 : True := trivial
theorem PySem.W.Fast.tw2926375674716163675 : True := trivial
theorem PySem.W.Fast.tw6424691576193191515 : True := trivial
theorem PySem.W.Fast.tw16348170374779705947 : True := trivial
theorem PySem.W.Fast.tw16855052075828667995 : True := trivial
theorem PySem.W.Fast.tw5056990504963906171 : True := trivial
theorem PySem.W.Fast.tw14637135281353039483 : True := trivial
theorem PySem.W.Fast.tw17291189284073910907 : True := trivial
theorem PySem.W.Fast.tw14005063223489924763 : True := trivial
theorem PySem.W.Fast.tw7116516860401898139 : True := trivial
theorem PySem.W.Fast.tw18324504949140785851 : True := trivial
theorem PySem.W.Fast.tw3815040316884564731 : True := trivial
theorem PySem.W.Fast.tw5230770771240333147 : True := trivial
theorem PySem.W.Fast.tw10691759807379026779 : True := trivial
theorem PySem.W.Fast.tw14732033092398901115 : True := trivial
theorem PySem.W.Fast.tw1016361407488016251 : True := trivial
theorem PySem.W.Fast.tw4310486976027188091 : True := trivial
theorem PySem.W.Fast.tw5369430707163198363 : True := trivial
theorem PySem.W.Fast.tw5359034299455996859 : True := trivial
theorem PySem.W.Fast.tw3727177870619421627 : True := trivial
theorem PySem.W.Fast.tw2299877293769027515 : True := trivial
theorem PySem.W.Fast.tw17232118452583730139 : True := trivial
theorem PySem.W.Fast.tw5399824686085974011 : True := trivial
theorem PySem.W.Fast.tw12044709356348330012 : True := trivial
theorem PySem.W.Fast.tw15967165514948544572 : True := trivial
theorem PySem.W.Fast.tw14138469390330504252 : True := trivial
theorem PySem.W.Fast.tw2210111063165242460 : True := trivial
theorem PySem.W.Fast.tw551620307949201500 : True := trivial
theorem PySem.W.Fast.tw17804592400454088796 : True := trivial
theorem PySem.W.Fast.tw12998754536689720444 : True := trivial
theorem PySem.W.Fast.tw16616239003329791132 : True := trivial
theorem PySem.W.Fast.tw10649839492919860380 : True := trivial
theorem PySem.W.Fast.tw4309498617770445020 : True := trivial
theorem PySem.W.Fast.tw579167522660796668 : True := trivial
theorem PySem.W.Fast.tw16239262419177045244 : True := trivial
theorem PySem.W.Fast.tw4553657303298762076 : True := trivial
theorem PySem.W.Fast.tw9630222567453234556 : True := trivial
theorem PySem.W.Fast.tw1126400215897745788 : True := trivial
theorem PySem.W.Fast.tw13372597540638500348 : True := trivial
theorem PySem.W.Fast.tw10597788398965736956 : True := trivial
theorem PySem.W.Fast.tw9417667300136882716 : True := trivial
theorem PySem.W.Fast.tw5556977371256961596 : True := trivial
theorem PySem.W.Fast.tw15743995307367929436 : True := trivial
theorem PySem.W.Fast.tw18095600609384204924 : True := trivial
theorem PySem.W.Fast.tw7821651740319596156 : True := trivial
theorem PySem.W.Fast.tw8936046698002096796 : True := trivial
theorem PySem.W.Fast.tw9073172382137339580 : True := trivial
theorem PySem.W.Fast.tw14128070984864379612 : True := trivial
theorem PySem.W.Fast.tw15756885081322903260 : True := trivial
theorem PySem.W.Fast.tw14716637368678416220 : True := trivial
theorem PySem.W.Fast.tw3484782201934978940 : True := trivial
theorem PySem.W.Fast.tw2570132515755404156 : True := trivial
theorem PySem.W.Fast.tw13095994657659949980 : True := trivial
theorem PySem.W.Fast.tw18243493086853133212 : True := trivial
theorem PySem.W.Fast.tw11802240363720271868 : True := trivial
theorem PySem.W.Fast.tw8129979794747621372 : True := trivial
theorem PySem.W.Fast.tw12496999283473988637 : True := trivial
theorem PySem.W.Fast.tw5670655428296517693 : True := trivial
theorem PySem.W.Fast.tw5952630507823255613 : True := trivial
theorem PySem.W.Fast.tw4420753486408220765 : True := trivial
theorem PySem.W.Fast.tw8241499163055694941 : True := trivial
theorem PySem.W.Fast.tw10790419949046607965 : True := trivial
theorem PySem.W.Fast.tw11142337478671746269 : True := trivial
theorem PySem.W.Fast.tw16976708119080087837 : True := trivial
theorem PySem.W.Fast.tw8343255491556947261 : True := trivial
theorem PySem.W.Fast.tw6129510979288319357 : True := trivial
theorem PySem.W.Fast.tw9231172325925165469 : True := trivial
theorem PySem.W.Fast.tw1434595496981727677 : True := trivial
theorem PySem.W.Fast.tw16977779690774146493 : True := trivial
theorem PySem.W.Fast.tw8718579725051641373 : True := trivial
theorem PySem.W.Fast.tw16765919871379989117 : True := trivial
theorem PySem.W.Fast.tw2689302500430433981 : True := trivial
theorem PySem.W.Fast.tw8803614519566438109 : True := trivial
theorem PySem.W.Fast.tw10300850029406302973 : True := trivial
theorem PySem.W.Fast.tw7699709836046257981 : True := trivial
theorem PySem.W.Fast.tw1245196845901054813 : True := trivial
theorem PySem.W.Fast.tw8415772004506639197 : True := trivial
theorem PySem.W.Fast.tw5270577209210623837 : True := trivial
theorem PySem.W.Fast.tw3578722850024192861 : True := trivial
theorem PySem.W.Fast.tw8203561223820922781 : True := trivial
theorem PySem.W.Fast.tw16616364380599449501 : True := trivial
theorem PySem.W.Fast.tw10475907803304925117 : True := trivial
theorem PySem.W.Fast.tw2736676559998952381 : True := trivial
theorem PySem.W.Fast.tw10023619290439923645 : True := trivial
theorem PySem.W.Fast.tw3898016536210973661 : True := trivial
theorem PySem.W.Fast.tw9601688791761445853 : True := trivial
theorem PySem.W.Fast.tw14533342040498468829 : True := trivial
theorem PySem.W.Fast.tw7769906734819113981 : True := trivial
theorem PySem.W.Fast.tw8159794075647478814 : True := trivial
theorem PySem.W.Fast.tw5355557574758263838 : True := trivial
theorem PySem.W.Fast.tw4004393714583129150 : True := trivial
theorem PySem.W.Fast.tw5836718627808589918 : True := trivial
theorem PySem.W.Fast.tw5847229957688289374 : True := trivial
theorem PySem.W.Fast.tw2474983303229553918 : True := trivial
theorem PySem.W.Fast.tw1714312863474970878 : True := trivial
theorem PySem.W.Fast.tw12857560500382856446 : True := trivial
theorem PySem.W.Fast.tw13331049649002912030 : True := trivial
theorem PySem.W.Fast.tw2224451293917839646 : True := trivial
theorem PySem.W.Fast.tw2169180264568083774 : True := trivial
theorem PySem.W.Fast.tw17858510107298226494 : True := trivial
theorem PySem.W.Fast.tw17723263755801365854 : True := trivial
theorem PySem.W.Fast.tw10998799785708669310 : True := trivial
theorem PySem.W.Fast.tw11098761951706708350 : True := trivial
theorem PySem.W.Fast.tw1412270958967328222 : True := trivial
theorem PySem.W.Fast.tw5545743417752654302 : True := trivial
theorem PySem.W.Fast.tw15086124247575204318 : True := trivial
theorem PySem.W.Fast.tw12618203009464797758 : True := trivial
theorem PySem.W.Fast.tw7368540102553202238 : True := trivial
theorem PySem.W.Fast.tw10551123149096176222 : True := trivial
theorem PySem.W.Fast.tw1551975921664593598 : True := trivial
theorem PySem.W.Fast.tw2266663991058821854 : True := trivial
theorem PySem.W.Fast.tw13738880041954412286 : True := trivial
theorem PySem.W.Fast.tw14465261675801914110 : True := trivial
theorem PySem.W.Fast.tw6318597148843269886 : True := trivial
theorem PySem.W.Fast.tw305617759839949790 : True := trivial
theorem PySem.W.Fast.tw9425664207283313630 : True := trivial
theorem PySem.W.Fast.tw1999897880296423390 : True := trivial
theorem PySem.W.Fast.tw9703780025773526014 : True := trivial
theorem PySem.W.Fast.tw9411982191954669566 : True := trivial
theorem PySem.W.Fast.tw8659225116738061375 : True := trivial
theorem PySem.W.Fast.tw10496531286046581855 : True := trivial
theorem PySem.W.Fast.tw7029129615259282591 : True := trivial
theorem PySem.W.Fast.tw2360111475950140575 : True := trivial
theorem PySem.W.Fast.tw12474402700446696639 : True := trivial
theorem PySem.W.Fast.tw17716793728653295871 : True := trivial
theorem PySem.W.Fast.tw11114731740883557695 : True := trivial
theorem PySem.W.Fast.tw4583738258598932799 : True := trivial
theorem PySem.W.Fast.tw5382103979174459743 : True := trivial
theorem PySem.W.Fast.tw1759402862443232639 : True := trivial
theorem PySem.W.Fast.tw6262901349127309727 : True := trivial
theorem PySem.W.Fast.tw2452562383079848383 : True := trivial
theorem PySem.W.Fast.tw7165618732883088863 : True := trivial
theorem PySem.W.Fast.tw9157444533354216927 : True := trivial
theorem PySem.W.Fast.tw1166969565625270751 : True := trivial
theorem PySem.W.Fast.tw3893569986652200415 : True := trivial
theorem PySem.W.Fast.tw17945088482008753631 : True := trivial
theorem PySem.W.Fast.tw6490075734483012127 : True := trivial
theorem PySem.W.Fast.tw6282797695926809119 : True := trivial
theorem PySem.W.Fast.tw7340963308005541407 : True := trivial
theorem PySem.W.Fast.tw11080375716156851743 : True := trivial
theorem PySem.W.Fast.tw4199389690254966367 : True := trivial
theorem PySem.W.Fast.tw14689611999660830367 : True := trivial
theorem PySem.W.Fast.tw1226312182735839935 : True := trivial
theorem PySem.W.Fast.tw6700593953826242239 : True := trivial
theorem PySem.W.Fast.tw13955822280952096479 : True := trivial
theorem PySem.W.Fast.tw12258110822754756319 : True := trivial
theorem PySem.W.Fast.tw11825564351409141503 : True := trivial
theorem PySem.W.Fast.tw4028328444780758783 : True := trivial
theorem PySem.W.Fast.tw8062276789636878111 : True := trivial
theorem PySem.W.Fast.tw10920762834130686751 : True := trivial
theorem PySem.W.Fast.tw16452112525968502559 : True := trivial
theorem PySem.W.Fast.tw4778022306156387135 : True := trivial
theorem PySem.W.Fast.tw13370247338915302239 : True := trivial
theorem PySem.W.Fast.tw8725021663028648799 : True := trivial
theorem PySem.W.Fast.tw3840960858585510751 : True := trivial
theorem PySem.W.Fast.tw11614281426239083359 : True := trivial
theorem PySem.W.Fast.tw16726550975629355871 : True := trivial
theorem PySem.W.Fast.tw7900169072619288415 : True := trivial
theorem PySem.W.Fast.tw10520532067612556127 : True := trivial
theorem PySem.W.Fast.tw17347193058275929983 : True := trivial
theorem PySem.W.Fast.tw9807454767198959487 : True := trivial
theorem PySem.W.Fast.tw6974066153427379135 : True := trivial
theorem PySem.W.Fast.tw5613268638621191103 : True := trivial
theorem PySem.W.Fast.tw16720448525871211455 : True := trivial
theorem PySem.W.Fast.tw16149758017358160831 : True := trivial
theorem PySem.W.Fast.tw11389341373205212095 : True := trivial
theorem PySem.W.Fast.tw3281220874536087519 : True := trivial
theorem PySem.W.Fast.tw15145428642089290719 : True := trivial
theorem PySem.W.Fast.tw7026463036009856991 : True := trivial
theorem PySem.W.Fast.tw1795062975716856831 : True := trivial
theorem PySem.W.Fast.tw198108885691322367 : True := trivial
theorem PySem.W.Fast.tw16822945709413694463 : True := trivial
theorem PySem.W.Fast.tw2672882972568363592 : True := trivial
set_option maxRecDepth 100000 in
set_option maxHeartbeats 0 in
theorem PySem.Challenge.cw_onecrest_k15_whole_worths_along_lines_holds : PySem.Challenge.rw_onecrest_k15_whole_worths_along_lines.Holds := by
  w_on; o_law; k_head; (case hw => w_witness2)
  k_fill
  refine DL.walk_gn (l := PySem.Challenge.rw_onecrest_k15_whole_worths_along_lines) (n := 63) (k := 14) (x := "_law_script") (sp := fun w => DL.lift _ K15.spLaw) rfl (by decide) rfl ⟨rfl, by decide, by decide⟩ (fun w h Y => PySem.W.kIn_of Y) ?F (fun _ H a ns _ hS => K15.law_gives H a ns hS)
  case F =>
    intro w mg fa h KX G hmg
    refine' K15.lw_mk KX G hmg ?aC ?aCB ?a_isint ?F_isint ?a_iscount ?F_iscount ?a_islist ?F_islist ?a_counts ?F_counts ?a_small ?F_small ?a_rising ?F_rising ?a_isnum ?F_isnum ?a_above ?F_above ?a_nums ?F_nums ?a_ratof ?F_ratof ?a_let ?F_let ?a_gath ?F_gath ?a_entry ?F_entry ?a_ck ?F_ck ?a_ckw ?F_ckw ?a_ckd ?F_ckd ?a_worth ?F_worth ?a_slope ?F_slope ?a_bend ?F_bend ?a_lean ?F_lean ?a_bup ?F_bup ?a_along ?F_along ?a_term ?F_term ?a_line ?F_line ?a_tl ?F_tl ?a_way ?F_way ?a_taken ?F_taken ?a_tt ?F_tt ?a_pot ?F_pot ?a_draw ?F_draw ?a_pick ?F_pick ?a_low ?F_low ?a_sum ?F_sum ?a_by ?F_by ?a_less ?F_less ?a_tot ?F_tot ?a_pass ?F_pass ?a_pair ?F_pair ?a_pairs ?F_pairs ?a_lets ?F_lets ?a_cnt ?F_cnt ?a_amt ?F_amt ?a_drn ?F_drn ?a_ent ?F_ent ?a_bln ?F_bln ?a_lwo ?F_lwo ?a_wts ?F_wts ?a_dir ?F_dir ?a_gvn ?F_gvn ?a_mv ?F_mv ?a_aup ?F_aup ?a_lr ?F_lr ?a_rr ?F_rr ?a_right ?F_right ?a_law ?F_law ?a_init ?i_init ?F_init ?a_binit ?i_binit ?F_binit ?t2 ?a_add ?i_add ?F_add ?a_radd ?i_radd ?F_radd ?a_sub ?i_sub ?F_sub ?a_mul ?i_mul ?F_mul ?a_rmul ?i_rmul ?F_rmul ?a_eq ?i_eq ?F_eq ?a_repr ?i_repr ?F_repr ?a_ptop ?g_ptop ?t_ptop ?c_ptop ?F_ptop ?a_pbot ?g_pbot ?t_pbot ?c_pbot ?F_pbot ?a_psign ?g_psign ?t_psign ?c_psign ?F_psign ?a_bents ?i_bents ?F_bents ?a_badd ?i_badd ?F_badd ?a_bsc ?i_bsc ?F_bsc ?a_beq ?i_beq ?F_beq ?a_brepr ?i_brepr ?F_brepr ?a_blet ?g_blet ?t_blet ?c_blet ?F_blet ?a_bdeg ?g_bdeg ?t_bdeg ?c_bdeg ?F_bdeg ?a_bno ?g_bno ?t_bno ?c_bno ?F_bno ?pg ?hd ?po ?sa ?mk ?kc ?nT ?nB ?ne ?sf ?nf ?ni ?sub_is ?sub_ob ?sub_li ?sub_tu ?ca ?cm ?pgB ?hdB ?poB ?saB ?mkB ?kcB ?nL ?nD ?nA ?neB ?sfB ?nfB ?niB ?sub_isB ?sub_obB ?caB ?cmB ?cn ?ct ?tyCB ?tyC ?s_NoneType ?s_bool ?s_str ?s_tuple ?s_list ?s_int ?s_dict ?s_listB ?s_strB ?nlB ?nsB ?s_intB ?lm ?la ?z_gcd ?z_perm ?z_ml ?z_md ?z_me ?z_isinstance ?z_int ?z_bool ?z_list ?z_tuple ?z_abs ?z_len ?z_max ?z_divmod ?z_str ?z_repr ?z_range ?z_all ?z_zip ?z_enumerate ?z_sorted ?z_sum ?z_min ?z_dict
    (case aC => k_is)
    (case aCB => k_is)
    (case a_isint => k_is)
    (case F_isint => (refine' ⟨_, L2.fun_mk ?l ?c ?k⟩; (case l => k_is); (case c => k_is); (case k => k_is)))
    (case a_iscount => k_is)
    (case F_iscount => (refine' ⟨_, L2.fun_mk ?l ?c ?k⟩; (case l => k_is); (case c => k_is); (case k => k_is)))
    (case a_islist => k_is)
    (case F_islist => (refine' ⟨_, L2.fun_mk ?l ?c ?k⟩; (case l => k_is); (case c => k_is); (case k => k_is)))
    (case a_counts => k_is)
    (case F_counts => (refine' ⟨_, L2.fun_mk ?l ?c ?k⟩; (case l => k_is); (case c => k_is); (case k => k_is)))
    (case a_small => k_is)
    (case F_small => (refine' ⟨_, L2.fun_mk ?l ?c ?k⟩; (case l => k_is); (case c => k_is); (case k => k_is)))
    (case a_rising => k_is)
    (case F_rising => (refine' ⟨_, L2.fun_mk ?l ?c ?k⟩; (case l => k_is); (case c => k_is); (case k => k_is)))
    (case a_isnum => k_is)
    (case F_isnum => (refine' ⟨_, L2.fun_mk ?l ?c ?k⟩; (case l => k_is); (case c => k_is); (case k => k_is)))
    (case a_above => k_is)
    (case F_above => (refine' ⟨_, L2.fun_mk ?l ?c ?k⟩; (case l => k_is); (case c => k_is); (case k => k_is)))
    (case a_nums => k_is)
    (case F_nums => (refine' ⟨_, L2.fun_mk ?l ?c ?k⟩; (case l => k_is); (case c => k_is); (case k => k_is)))
    (case a_ratof => k_is)
    (case F_ratof => (refine' ⟨_, L2.fun_mk ?l ?c ?k⟩; (case l => k_is); (case c => k_is); (case k => k_is)))
    (case a_let => k_is)
    (case F_let => (refine' ⟨_, L2.fun_mk ?l ?c ?k⟩; (case l => k_is); (case c => k_is); (case k => k_is)))
    (case a_gath => k_is)
    (case F_gath => (refine' ⟨_, L2.fun_mk ?l ?c ?k⟩; (case l => k_is); (case c => k_is); (case k => k_is)))
    (case a_entry => k_is)
    (case F_entry => (refine' ⟨_, L2.fun_mk ?l ?c ?k⟩; (case l => k_is); (case c => k_is); (case k => k_is)))
    (case a_ck => k_is)
    (case F_ck => (refine' ⟨_, L2.fun_mk ?l ?c ?k⟩; (case l => k_is); (case c => k_is); (case k => k_is)))
    (case a_ckw => k_is)
    (case F_ckw => (refine' ⟨_, L2.fun_mk ?l ?c ?k⟩; (case l => k_is); (case c => k_is); (case k => k_is)))
    (case a_ckd => k_is)
    (case F_ckd => (refine' ⟨_, L2.fun_mk ?l ?c ?k⟩; (case l => k_is); (case c => k_is); (case k => k_is)))
    (case a_worth => k_is)
    (case F_worth => (refine' ⟨_, L2.fun_mk ?l ?c ?k⟩; (case l => k_is); (case c => k_is); (case k => k_is)))
    (case a_slope => k_is)
    (case F_slope => (refine' ⟨_, L2.fun_mk ?l ?c ?k⟩; (case l => k_is); (case c => k_is); (case k => k_is)))
    (case a_bend => k_is)
    (case F_bend => (refine' ⟨_, L2.fun_mk ?l ?c ?k⟩; (case l => k_is); (case c => k_is); (case k => k_is)))
    (case a_lean => k_is)
    (case F_lean => (refine' ⟨_, L2.fun_mk ?l ?c ?k⟩; (case l => k_is); (case c => k_is); (case k => k_is)))
    (case a_bup => k_is)
    (case F_bup => (refine' ⟨_, L2.fun_mk ?l ?c ?k⟩; (case l => k_is); (case c => k_is); (case k => k_is)))
    (case a_along => k_is)
    (case F_along => (refine' ⟨_, L2.fun_mk ?l ?c ?k⟩; (case l => k_is); (case c => k_is); (case k => k_is)))
    (case a_term => k_is)
    (case F_term => (refine' ⟨_, L2.fun_mk ?l ?c ?k⟩; (case l => k_is); (case c => k_is); (case k => k_is)))
    (case a_line => k_is)
    (case F_line => (refine' ⟨_, L2.fun_mk ?l ?c ?k⟩; (case l => k_is); (case c => k_is); (case k => k_is)))
    (case a_tl => k_is)
    (case F_tl => (refine' ⟨_, L2.fun_mk ?l ?c ?k⟩; (case l => k_is); (case c => k_is); (case k => k_is)))
    (case a_way => k_is)
    (case F_way => (refine' ⟨_, L2.fun_mk ?l ?c ?k⟩; (case l => k_is); (case c => k_is); (case k => k_is)))
    (case a_taken => k_is)
    (case F_taken => (refine' ⟨_, L2.fun_mk ?l ?c ?k⟩; (case l => k_is); (case c => k_is); (case k => k_is)))
    (case a_tt => k_is)
    (case F_tt => (refine' ⟨_, L2.fun_mk ?l ?c ?k⟩; (case l => k_is); (case c => k_is); (case k => k_is)))
    (case a_pot => k_is)
    (case F_pot => (refine' ⟨_, L2.fun_mk ?l ?c ?k⟩; (case l => k_is); (case c => k_is); (case k => k_is)))
    (case a_draw => k_is)
    (case F_draw => (refine' ⟨_, L2.fun_mk ?l ?c ?k⟩; (case l => k_is); (case c => k_is); (case k => k_is)))
    (case a_pick => k_is)
    (case F_pick => (refine' ⟨_, L2.fun_mk ?l ?c ?k⟩; (case l => k_is); (case c => k_is); (case k => k_is)))
    (case a_low => k_is)
    (case F_low => (refine' ⟨_, L2.fun_mk ?l ?c ?k⟩; (case l => k_is); (case c => k_is); (case k => k_is)))
    (case a_sum => k_is)
    (case F_sum => (refine' ⟨_, L2.fun_mk ?l ?c ?k⟩; (case l => k_is); (case c => k_is); (case k => k_is)))
    (case a_by => k_is)
    (case F_by => (refine' ⟨_, L2.fun_mk ?l ?c ?k⟩; (case l => k_is); (case c => k_is); (case k => k_is)))
    (case a_less => k_is)
    (case F_less => (refine' ⟨_, L2.fun_mk ?l ?c ?k⟩; (case l => k_is); (case c => k_is); (case k => k_is)))
    (case a_tot => k_is)
    (case F_tot => (refine' ⟨_, L2.fun_mk ?l ?c ?k⟩; (case l => k_is); (case c => k_is); (case k => k_is)))
    (case a_pass => k_is)
    (case F_pass => (refine' ⟨_, L2.fun_mk ?l ?c ?k⟩; (case l => k_is); (case c => k_is); (case k => k_is)))
    (case a_pair => k_is)
    (case F_pair => (refine' ⟨_, L2.fun_mk ?l ?c ?k⟩; (case l => k_is); (case c => k_is); (case k => k_is)))
    (case a_pairs => k_is)
    (case F_pairs => (refine' ⟨_, L2.fun_mk ?l ?c ?k⟩; (case l => k_is); (case c => k_is); (case k => k_is)))
    (case a_lets => k_is)
    (case F_lets => (refine' ⟨_, L2.fun_mk ?l ?c ?k⟩; (case l => k_is); (case c => k_is); (case k => k_is)))
    (case a_cnt => k_is)
    (case F_cnt => (refine' ⟨_, L2.fun_mk ?l ?c ?k⟩; (case l => k_is); (case c => k_is); (case k => k_is)))
    (case a_amt => k_is)
    (case F_amt => (refine' ⟨_, L2.fun_mk ?l ?c ?k⟩; (case l => k_is); (case c => k_is); (case k => k_is)))
    (case a_drn => k_is)
    (case F_drn => (refine' ⟨_, L2.fun_mk ?l ?c ?k⟩; (case l => k_is); (case c => k_is); (case k => k_is)))
    (case a_ent => k_is)
    (case F_ent => (refine' ⟨_, L2.fun_mk ?l ?c ?k⟩; (case l => k_is); (case c => k_is); (case k => k_is)))
    (case a_bln => k_is)
    (case F_bln => (refine' ⟨_, L2.fun_mk ?l ?c ?k⟩; (case l => k_is); (case c => k_is); (case k => k_is)))
    (case a_lwo => k_is)
    (case F_lwo => (refine' ⟨_, L2.fun_mk ?l ?c ?k⟩; (case l => k_is); (case c => k_is); (case k => k_is)))
    (case a_wts => k_is)
    (case F_wts => (refine' ⟨_, L2.fun_mk ?l ?c ?k⟩; (case l => k_is); (case c => k_is); (case k => k_is)))
    (case a_dir => k_is)
    (case F_dir => (refine' ⟨_, L2.fun_mk ?l ?c ?k⟩; (case l => k_is); (case c => k_is); (case k => k_is)))
    (case a_gvn => k_is)
    (case F_gvn => (refine' ⟨_, L2.fun_mk ?l ?c ?k⟩; (case l => k_is); (case c => k_is); (case k => k_is)))
    (case a_mv => k_is)
    (case F_mv => (refine' ⟨_, L2.fun_mk ?l ?c ?k⟩; (case l => k_is); (case c => k_is); (case k => k_is)))
    (case a_aup => k_is)
    (case F_aup => (refine' ⟨_, L2.fun_mk ?l ?c ?k⟩; (case l => k_is); (case c => k_is); (case k => k_is)))
    (case a_lr => k_is)
    (case F_lr => (refine' ⟨_, L2.fun_mk ?l ?c ?k⟩; (case l => k_is); (case c => k_is); (case k => k_is)))
    (case a_rr => k_is)
    (case F_rr => (refine' ⟨_, L2.fun_mk ?l ?c ?k⟩; (case l => k_is); (case c => k_is); (case k => k_is)))
    (case a_right => k_is)
    (case F_right => (refine' ⟨_, L2.fun_mk ?l ?c ?k⟩; (case l => k_is); (case c => k_is); (case k => k_is)))
    (case a_law => k_is)
    (case F_law => (refine' ⟨_, L2.fun_mk ?l ?c ?k⟩; (case l => k_is); (case c => k_is); (case k => k_is)))
    (case a_init => k_is)
    (case i_init => k_is)
    (case F_init => (refine' ⟨_, K15.fund1 ?l ?c ?k ?t⟩; (case l => k_is); (case c => k_is); (case k => k_is); (case t => k_is)))
    (case a_binit => k_is)
    (case i_binit => k_is)
    (case F_binit => (refine' ⟨_, K15.fundT ?l ?c ?k ?t⟩; (case l => k_is); (case c => k_is); (case k => k_is); (case t => k_is)))
    (case t2 => k_is)
    (case a_add => k_is)
    (case i_add => k_is)
    (case F_add => (refine' ⟨_, L2.fun_mk ?l ?c ?k⟩; (case l => k_is); (case c => k_is); (case k => k_is)))
    (case a_radd => k_is)
    (case i_radd => k_is)
    (case F_radd => (refine' ⟨_, L2.fun_mk ?l ?c ?k⟩; (case l => k_is); (case c => k_is); (case k => k_is)))
    (case a_sub => k_is)
    (case i_sub => k_is)
    (case F_sub => (refine' ⟨_, L2.fun_mk ?l ?c ?k⟩; (case l => k_is); (case c => k_is); (case k => k_is)))
    (case a_mul => k_is)
    (case i_mul => k_is)
    (case F_mul => (refine' ⟨_, L2.fun_mk ?l ?c ?k⟩; (case l => k_is); (case c => k_is); (case k => k_is)))
    (case a_rmul => k_is)
    (case i_rmul => k_is)
    (case F_rmul => (refine' ⟨_, L2.fun_mk ?l ?c ?k⟩; (case l => k_is); (case c => k_is); (case k => k_is)))
    (case a_eq => k_is)
    (case i_eq => k_is)
    (case F_eq => (refine' ⟨_, L2.fun_mk ?l ?c ?k⟩; (case l => k_is); (case c => k_is); (case k => k_is)))
    (case a_repr => k_is)
    (case i_repr => k_is)
    (case F_repr => (refine' ⟨_, L2.fun_mk ?l ?c ?k⟩; (case l => k_is); (case c => k_is); (case k => k_is)))
    (case a_ptop => k_is)
    (case g_ptop => k_is)
    (case t_ptop => k_is)
    (case c_ptop => k_is)
    (case F_ptop => (refine' ⟨_, L2.fun_mk ?l ?c ?k⟩; (case l => k_is); (case c => k_is); (case k => k_is)))
    (case a_pbot => k_is)
    (case g_pbot => k_is)
    (case t_pbot => k_is)
    (case c_pbot => k_is)
    (case F_pbot => (refine' ⟨_, L2.fun_mk ?l ?c ?k⟩; (case l => k_is); (case c => k_is); (case k => k_is)))
    (case a_psign => k_is)
    (case g_psign => k_is)
    (case t_psign => k_is)
    (case c_psign => k_is)
    (case F_psign => (refine' ⟨_, L2.fun_mk ?l ?c ?k⟩; (case l => k_is); (case c => k_is); (case k => k_is)))
    (case a_bents => k_is)
    (case i_bents => k_is)
    (case F_bents => (refine' ⟨_, L2.fun_mk ?l ?c ?k⟩; (case l => k_is); (case c => k_is); (case k => k_is)))
    (case a_badd => k_is)
    (case i_badd => k_is)
    (case F_badd => (refine' ⟨_, L2.fun_mk ?l ?c ?k⟩; (case l => k_is); (case c => k_is); (case k => k_is)))
    (case a_bsc => k_is)
    (case i_bsc => k_is)
    (case F_bsc => (refine' ⟨_, L2.fun_mk ?l ?c ?k⟩; (case l => k_is); (case c => k_is); (case k => k_is)))
    (case a_beq => k_is)
    (case i_beq => k_is)
    (case F_beq => (refine' ⟨_, L2.fun_mk ?l ?c ?k⟩; (case l => k_is); (case c => k_is); (case k => k_is)))
    (case a_brepr => k_is)
    (case i_brepr => k_is)
    (case F_brepr => (refine' ⟨_, L2.fun_mk ?l ?c ?k⟩; (case l => k_is); (case c => k_is); (case k => k_is)))
    (case a_blet => k_is)
    (case g_blet => k_is)
    (case t_blet => k_is)
    (case c_blet => k_is)
    (case F_blet => (refine' ⟨_, L2.fun_mk ?l ?c ?k⟩; (case l => k_is); (case c => k_is); (case k => k_is)))
    (case a_bdeg => k_is)
    (case g_bdeg => k_is)
    (case t_bdeg => k_is)
    (case c_bdeg => k_is)
    (case F_bdeg => (refine' ⟨_, L2.fun_mk ?l ?c ?k⟩; (case l => k_is); (case c => k_is); (case k => k_is)))
    (case a_bno => k_is)
    (case g_bno => k_is)
    (case t_bno => k_is)
    (case c_bno => k_is)
    (case F_bno => (refine' ⟨_, L2.fun_mk ?l ?c ?k⟩; (case l => k_is); (case c => k_is); (case k => k_is)))
    (case pg => k_is)
    (case hd => k_is)
    (case po => k_is)
    (case sa => k_is)
    (case mk => k_is)
    (case kc => k_is)
    (case nT => k_is)
    (case nB => k_is)
    (case ne => k_is)
    (case sf => k_is)
    (case nf => k_is)
    (case ni => k_is)
    (case sub_is => k_is)
    (case sub_ob => k_is)
    (case sub_li => k_is)
    (case sub_tu => k_is)
    (case ca => k_is)
    (case cm => k_is)
    (case pgB => k_is)
    (case hdB => k_is)
    (case poB => k_is)
    (case saB => k_is)
    (case mkB => k_is)
    (case kcB => k_is)
    (case nL => k_is)
    (case nD => k_is)
    (case nA => k_is)
    (case neB => k_is)
    (case sfB => k_is)
    (case nfB => k_is)
    (case niB => k_is)
    (case sub_isB => k_is)
    (case sub_obB => k_is)
    (case caB => k_is)
    (case cmB => k_is)
    (case cn => k_is)
    (case ct => k_is)
    (case tyCB => k_is)
    (case tyC => k_is)
    (case s_NoneType => k_is)
    (case s_bool => k_is)
    (case s_str => k_is)
    (case s_tuple => k_is)
    (case s_list => k_is)
    (case s_int => k_is)
    (case s_dict => k_is)
    (case s_listB => k_is)
    (case s_strB => k_is)
    (case nlB => k_is)
    (case nsB => k_is)
    (case s_intB => k_is)
    (case lm => k_is)
    (case la => k_is)
    (case z_gcd => k_is)
    (case z_perm => k_is)
    (case z_ml => k_is)
    (case z_md => k_is)
    (case z_me => k_is)
    (case z_isinstance => k_is)
    (case z_int => k_is)
    (case z_bool => k_is)
    (case z_list => k_is)
    (case z_tuple => k_is)
    (case z_abs => k_is)
    (case z_len => k_is)
    (case z_max => k_is)
    (case z_divmod => k_is)
    (case z_str => k_is)
    (case z_repr => k_is)
    (case z_range => k_is)
    (case z_all => k_is)
    (case z_zip => k_is)
    (case z_enumerate => k_is)
    (case z_sorted => k_is)
    (case z_sum => k_is)
    (case z_min => k_is)
    (case z_dict => k_is)

