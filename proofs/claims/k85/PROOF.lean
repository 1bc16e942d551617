import PyProof.Rows.All
import Wide.All
import OpenK.AllK
import Wide.FinOn
import HandS.ForMost
import HandS.Property
import HandS.Defaults
import HandS.IsInst
import HandS.Wide
import HandS.WideBits
import HandS.ClsMeth
import HandS.MakeKw
import HandS.MakeKwOnly
import HandS.FStr
import HandS.RaiseMore
import HandS.Gcd
import KE.KFmtOwn
import PyProof.ReprNest
import PyProof.ReprRoads
import HandS.Zip
import HandS.List
import PyProof.StrOps2
import HandS.Dict
import HandS.Walk
import HandS.Conv
import HandS.TupLen
import HandS.TupSets
import HandS.DictComp
import KE.KDictPairs
import HandS.DictTup
import HandS.OwnEq
import HandS.DictEq
import KE.GoesZip
import HandS.Text
import HandS.Codes
import HandS.StrMore
import KE.KMathGC
import KE.GoesEnum
import PyProof.CollectStr
import PyProof.ListStr
import HandS.More
import HandS.TupAny
import HandS.Ends
import KE.IntBitsLaws
import PySem.Challenge.RW_onecrest_k85_whole_twins
import PyProof.Rows.RegStrFacts
import KE.SortKeyHeap
import HandS.SortKw
import PyProof.TupleOfSeq
import HandS.Deep
import KE.KDictDisplayH
import KE.GoesMore
import KE.KDictCopyH
import KE.KDictOf
set_option Elab.async false
set_option linter.all false
set_option maxRecDepth 100000
set_option maxHeartbeats 2000000
/-! DL: a layer of data over the heap: what an expression, a statement, a def does, told of data alone (immutable data, lists owned by one name, pots) -/
namespace DL
open PySem L2

/-! ### data -/
inductive D where
  | non | bl (b : Bool) | int (i : Int) | str (s : Str) | ty (n : String) | cls (a : Addr)
  | tup (l : List D) | lst (l : List D) | frl (l : List Int)
  | obj (C : Addr) (fs : List (Str × D))
  | dct
  | dcT (kvs : List (List Key × D)) | dcK (kvs : List (Key × D))

mutual
/-- v is the datum d, in the heap I of what never changes -/
inductive Dn (K : PySem.W.Frag) (I : Hp) : D → V → Prop
  | non : Dn K I .non .non
  | bl (b) : Dn K I (.bl b) (.bl b)
  | int (i) : Dn K I (.int i) (.int i)
  | str (s) : Dn K I (.str s) (.str s)
  | ty (n) : Dn K I (.ty n) (.ty n)
  | cls (a) : Dn K I (.cls a) (.ref a)
  | tup {l a xs} : I a = some (.tup xs) → Dns K I l xs → Dn K I (.tup l) (.ref a)
  | lst {l a xs} : I a = some (.lst xs) → Dns K I l xs → Dn K I (.lst l) (.ref a)
  | frl {l : List Int} {a} : SqL K I a (l.map V.int) → Dn K I (.frl l) (.ref a)
  | obj {C fs a dx vs} : I a = some (.ins C dx vs) → Dnf K I fs vs → Dn K I (.obj C fs) (.ref a)
  | dct {a kvs} : I a = some (.dK kvs) → Dn K I .dct (.ref a)
  | dcT {kvs a o ws} : I a = some (.frz o (.dT ws)) → Dnt K I kvs ws → Dn K I (.dcT kvs) (.ref a)
  | dcK {kvs a ws} : I a = some (.dK ws) → Dnk K I kvs ws → Dn K I (.dcK kvs) (.ref a)
inductive Dns (K : PySem.W.Frag) (I : Hp) : List D → List V → Prop
  | nil : Dns K I [] []
  | cons {d v l xs} : Dn K I d v → Dns K I l xs → Dns K I (d :: l) (v :: xs)
inductive Dnf (K : PySem.W.Frag) (I : Hp) : List (Str × D) → List (Str × V) → Prop
  | nil : Dnf K I [] []
  | cons {f d v l xs} : Dn K I d v → Dnf K I l xs → Dnf K I ((f, d) :: l) ((f, v) :: xs)
inductive Dnt (K : PySem.W.Frag) (I : Hp) : List (List Key × D) → List (List Key × V) → Prop
  | nil : Dnt K I [] []
  | cons {f d v l xs} : Dn K I d v → Dnt K I l xs → Dnt K I ((f, d) :: l) ((f, v) :: xs)
inductive Dnk (K : PySem.W.Frag) (I : Hp) : List (Key × D) → List (Key × V) → Prop
  | nil : Dnk K I [] []
  | cons {f d v l xs} : Dn K I d v → Dnk K I l xs → Dnk K I ((f, d) :: l) ((f, v) :: xs)
end
def Ex (H H' : Hp) : Prop := ∀ a o, H a = some o → H' a = some o
theorem Ex.refl (H : Hp) : Ex H H := fun _ _ h => h
theorem Ex.trans {H H1 H2 : Hp} (a : Ex H H1) (b : Ex H1 H2) : Ex H H2 := fun x o h => b x o (a x o h)
theorem Ex.new {H : Hp} {p : Addr} {o : HO} (h : H p = none) : Ex H (upd H p o) := fun a u e => by
  rw [upd_ne (ne_of_none e h)]
  exact e
theorem Ex.free {H H' : Hp} (e : Ex H H') {p : Addr} (h : H' p = none) : H p = none := by
  cases h1 : H p with
  | none => rfl
  | some o =>
    rw [e p o h1] at h
    cases h
theorem Ex.l {K : PySem.W.Frag} {H H' : Hp} {a : Addr} {xs : List V} (e : Ex H H') (h : SqL K H a xs) : SqL K H' a xs := by
  rcases h with (h | ⟨o, h⟩) | h
  · exact .inl (.inl (e _ _ h))
  · exact .inl (.inr ⟨o, e _ _ h⟩)
  · exact .inr h
section
variable {K : PySem.W.Frag} {I I' : Hp}
mutual
theorem Dn.mono (e : Ex I I') : ∀ {d : D} {v : V}, Dn K I d v → Dn K I' d v
  | _, _, .non => .non
  | _, _, .bl b => .bl b
  | _, _, .int i => .int i
  | _, _, .str s => .str s
  | _, _, .ty n => .ty n
  | _, _, .cls a => .cls a
  | _, _, .tup h r => .tup (e _ _ h) (Dns.mono e r)
  | _, _, .lst h r => .lst (e _ _ h) (Dns.mono e r)
  | _, _, .frl h => .frl (e.l h)
  | _, _, .obj h r => .obj (e _ _ h) (Dnf.mono e r)
  | _, _, .dct h => .dct (e _ _ h)
  | _, _, .dcT h r => .dcT (e _ _ h) (Dnt.mono e r)
  | _, _, .dcK h r => .dcK (e _ _ h) (Dnk.mono e r)
theorem Dns.mono (e : Ex I I') : ∀ {l : List D} {xs : List V}, Dns K I l xs → Dns K I' l xs
  | _, _, .nil => .nil
  | _, _, .cons h r => .cons (Dn.mono e h) (Dns.mono e r)
theorem Dnf.mono (e : Ex I I') : ∀ {l : List (Str × D)} {xs : List (Str × V)}, Dnf K I l xs → Dnf K I' l xs
  | _, _, .nil => .nil
  | _, _, .cons h r => .cons (Dn.mono e h) (Dnf.mono e r)
theorem Dnt.mono (e : Ex I I') : ∀ {l : List (List Key × D)} {xs : List (List Key × V)}, Dnt K I l xs → Dnt K I' l xs
  | _, _, .nil => .nil
  | _, _, .cons h r => .cons (Dn.mono e h) (Dnt.mono e r)
theorem Dnk.mono (e : Ex I I') : ∀ {l : List (Key × D)} {xs : List (Key × V)}, Dnk K I l xs → Dnk K I' l xs
  | _, _, .nil => .nil
  | _, _, .cons h r => .cons (Dn.mono e h) (Dnk.mono e r)
end
theorem Dns.length : ∀ {l : List D} {xs : List V}, Dns K I l xs → l.length = xs.length
  | _, _, .nil => rfl
  | _, _, .cons _ r => congrArg (· + 1) (Dns.length r)
theorem Dns.append : ∀ {l m : List D} {xs ys : List V}, Dns K I l xs → Dns K I m ys → Dns K I (l ++ m) (xs ++ ys)
  | _, _, _, _, .nil, s => s
  | _, _, _, _, .cons h r, s => .cons h (Dns.append r s)
theorem Dns.get : ∀ {l : List D} {xs : List V} {i : Nat} {v : V}, Dns K I l xs → xs[i]? = some v → ∃ d, l[i]? = some d ∧ Dn K I d v
  | _, _, _, _, .nil, e => by simp at e
  | _, _, 0, _, .cons h _, e => by
    simp at e
    subst e
    exact ⟨_, rfl, h⟩
  | _, _, i + 1, _, .cons _ r, e => by
    obtain ⟨d, h1, h2⟩ := Dns.get (i := i) r (by simpa using e)
    exact ⟨d, by simpa using h1, h2⟩
theorem Dns.get' : ∀ {l : List D} {xs : List V} {i : Nat} {d : D}, Dns K I l xs → l[i]? = some d → ∃ v, xs[i]? = some v ∧ Dn K I d v
  | _, _, _, _, .nil, e => by simp at e
  | _, _, 0, _, .cons h _, e => by
    simp at e
    subst e
    exact ⟨_, rfl, h⟩
  | _, _, i + 1, _, .cons _ r, e => by
    obtain ⟨d, h1, h2⟩ := Dns.get' (i := i) r (by simpa using e)
    exact ⟨d, by simpa using h1, h2⟩
theorem Dns.set {d : D} {v : V} (h : Dn K I d v) : ∀ {l : List D} {xs : List V} (i : Nat), Dns K I l xs → Dns K I (l.set i d) (xs.set i v)
  | _, _, _, .nil => .nil
  | _, _, 0, .cons _ r => .cons h r
  | _, _, i + 1, .cons q r => .cons q (Dns.set h i r)
theorem Dnf.look : ∀ {fs : List (Str × D)} {vs : List (Str × V)} {f : Str} {d : D}, Dnf K I fs vs → fs.lookup f = some d → ∃ v, vs.lookup f = some v ∧ Dn K I d v
  | _, _, _, _, .nil, e => by simp at e
  | _, _, f, d, .cons (f := g) h r, e => by
    by_cases q : f = g
    · subst q
      simp only [List.lookup_cons, beq_self_eq_true] at e ⊢
      cases e
      exact ⟨_, rfl, h⟩
    · have z : (f == g) = false := beq_eq_false_iff_ne.mpr q
      simp only [List.lookup_cons, z] at e ⊢
      exact Dnf.look r e
end

/-! ### worlds -/
/-- what never changes; which addresses are pots -/
structure Wd where
  I : Hp
  P : Addr → Prop
def PotAt (H : Hp) (a : Addr) : Prop := ∃ x y : Int, H a = some (.lst [.int x, .int y]) ∧ 0 ≤ y ∧ y < 2 ^ 31
def InG (g : List Code) (b : Addr) : Prop := ∃ id rest kw, Code.builtin id ⟨.ref b :: rest, kw⟩ ∈ g
/-- the guards that stand around: what is being written as a text -/
def gOf (X : Cx) : List Code := X.A.guards.getD []
structure Ok (g : List Code) (W : Wd) (H : Hp) : Prop where
  gd : ∀ b, InG g b → W.I b = none ∧ H b ≠ none ∧ ∀ ks : List Key, H b ≠ some (.tup (ks.map kV))
  ex : Ex W.I H
  pot : ∀ a, W.P a → W.I a = none ∧ PotAt H a
structure Stp (W : Wd) (H : Hp) (W' : Wd) (H' : Hp) : Prop where
  I : Ex W.I W'.I
  P : ∀ a, W.P a → W'.P a
  keep : ∀ b o, H b = some o → ¬ W.P b → H' b = some o
  old : ∀ b o, H b = some o → (∀ xs, o ≠ .tup xs) → W.I b = none → W'.I b = none
  oldP : ∀ b o, H b = some o → W'.P b → W.P b
section
variable {g : List Code} {W W1 W2 : Wd} {H H1 H2 : Hp}
theorem Stp.refl : Stp W H W H := ⟨Ex.refl _, fun _ h => h, fun _ _ h _ => h, fun _ _ _ _ h => h, fun _ _ _ h => h⟩
theorem Stp.some (a : Stp W H W1 H1) (ok : Ok g W1 H1) {b : Addr} {o : HO} (h : H b = .some o) : ∃ o', H1 b = .some o' := by
  by_cases q : W.P b
  · obtain ⟨x, y, e, _⟩ := (ok.pot b (a.P b q)).2
    exact ⟨_, e⟩
  · exact ⟨o, a.keep b o h q⟩
theorem Stp.trans (a : Stp W H W1 H1) (ok : Ok g W1 H1) (b : Stp W1 H1 W2 H2) : Stp W H W2 H2 where
  I := a.I.trans b.I
  P := fun x h => b.P x (a.P x h)
  keep := fun x o h n => b.keep x o (a.keep x o h n) fun z => n (a.oldP x o h z)
  old := fun x o h t n => by
    by_cases q : W.P x
    · obtain ⟨y1, y2, e, _⟩ := (ok.pot x (a.P x q)).2
      exact b.old x _ e (fun _ z => by cases z) (a.old x o h t n)
    · exact b.old x o (a.keep x o h q) t (a.old x o h t n)
  oldP := fun x o h p => by
    obtain ⟨o', h'⟩ := a.some ok h
    exact a.oldP x o h (b.oldP x o' h' p)
theorem Stp.free (a : Stp W H W1 H1) (ok : Ok g W1 H1) {p : Addr} (h : H1 p = none) : H p = none := by
  cases e : H p with
  | none => rfl
  | some o =>
    obtain ⟨o', e'⟩ := a.some ok e
    rw [h] at e'
    cases e'
theorem Ok.free (ok : Ok g W H) {p : Addr} (h : H p = none) : W.I p = none := ok.ex.free h
theorem Ok.notP (ok : Ok g W H) {p : Addr} (h : H p = none) : ¬ W.P p := fun z => by
  obtain ⟨x, y, e, _⟩ := (ok.pot p z).2
  rw [h] at e
  cases e
/-- something new that never changes -/
abbrev Wd.new (W : Wd) (p : Addr) (o : HO) : Wd := ⟨upd W.I p o, W.P⟩
theorem Ok.new {p : Addr} {o : HO} (ok : Ok g W H) (h : H p = none) : Ok g (W.new p o) (upd H p o) where
  gd := fun b hb => by
    obtain ⟨n, m, m2⟩ := ok.gd b hb
    have ne : b ≠ p := fun z => m (z ▸ h)
    refine ⟨?_, by rw [upd_ne ne]; exact m, by rw [upd_ne ne]; exact m2⟩
    show upd W.I p o b = none
    rw [upd_ne ne]
    exact n
  ex := fun a u e => by
    have e' : upd W.I p o a = some u := e
    by_cases q : a = p
    · subst q
      rw [upd_same] at e' ⊢
      exact e'
    · rw [upd_ne q] at e' ⊢
      exact ok.ex a u e'
  pot := fun a pa => by
    have q : a ≠ p := fun z => ok.notP h (z ▸ pa)
    obtain ⟨n, x, y, e⟩ := ok.pot a pa
    refine ⟨?_, x, y, ?_⟩
    · show upd W.I p o a = none
      rw [upd_ne q]
      exact n
    · rw [upd_ne q]
      exact e
theorem Stp.new {p : Addr} {o : HO} (ok : Ok g W H) (h : H p = none) : Stp W H (W.new p o) (upd H p o) where
  I := Ex.new (ok.free h)
  P := fun _ z => z
  keep := fun b u e _ => Ex.new h b u e
  old := fun b u e _ n => by
    show upd W.I p o b = none
    rw [upd_ne (ne_of_none e h)]
    exact n
  oldP := fun _ _ _ z => z
/-- a new object that is not (yet) part of what never changes -/
theorem Ok.own {p : Addr} {o : HO} (ok : Ok g W H) (h : H p = none) : Ok g W (upd H p o) where
  gd := fun b hb => by
    obtain ⟨n, m, m2⟩ := ok.gd b hb
    have ne : b ≠ p := fun z => m (z ▸ h)
    exact ⟨n, by rw [upd_ne ne]; exact m, by rw [upd_ne ne]; exact m2⟩
  ex := ok.ex.trans (Ex.new h)
  pot := fun a pa => by
    obtain ⟨n, x, y, e⟩ := ok.pot a pa
    exact ⟨n, x, y, Ex.new h _ _ e.1, e.2⟩
theorem Stp.own {p : Addr} {o : HO} (h : H p = none) : Stp W H W (upd H p o) :=
  ⟨Ex.refl _, fun _ z => z, fun b u e _ => Ex.new h b u e, fun _ _ _ _ n => n, fun _ _ _ z => z⟩
end

/-! ### slots -/
inductive Sl where
  | val (d : D) | own (l : List D) | pot | inst (C p dx : Addr) (fs : List (Str × D))
  | ownT (kvs : List (List Key × D))
abbrev En := List (Option Sl)
/-- dicts owned by unlike names are unlike -/
def DistT (S : En) (σ : L2.St) : Prop := ∀ (i j : Nat) (l m : List (List Key × D)) (p : Addr), i ≠ j → S[i]? = some (some (Sl.ownT l)) → S[j]? = some (some (Sl.ownT m)) → σ[i]? = some (some (.ref p)) → σ[j]? ≠ some (some (.ref p))
theorem DistT.set {S : En} {σ : L2.St} (h : DistT S σ) (i : Nat) {x : Option Sl} {y : Option V} (hx : ∀ l, x ≠ some (Sl.ownT l)) : DistT (S.set i x) (σ.set i y) := fun a b l m p ne e1 e2 e3 => by
  have key : ∀ c l, (S.set i x)[c]? = some (some (Sl.ownT l)) → i ≠ c := fun c l e z => by
    subst z
    by_cases q : i < S.length
    · rw [List.getElem?_set_self q] at e
      exact hx l (Option.some.inj e)
    · rw [List.getElem?_eq_none (by simpa using q)] at e
      cases e
  have qa := key a l e1
  have qb := key b m e2
  rw [List.getElem?_set_ne qa] at e1 e3
  rw [List.getElem?_set_ne qb] at e2 ⊢
  exact h a b l m p ne e1 e2 e3
theorem DistT.setS {S : En} {σ : L2.St} (h : DistT S σ) (i : Nat) {x : Option Sl} (hx : ∀ l, x = some (Sl.ownT l) → ∃ m, S[i]? = some (some (Sl.ownT m))) : DistT (S.set i x) σ := fun a b l m p ne e1 e2 e3 => by
  have key : ∀ c l, (S.set i x)[c]? = some (some (Sl.ownT l)) → ∃ m, S[c]? = some (some (Sl.ownT m)) := fun c l e => by
    by_cases z : i = c
    · subst z
      by_cases q : i < S.length
      · rw [List.getElem?_set_self q] at e
        exact hx l (Option.some.inj e)
      · rw [List.getElem?_eq_none (by simpa using q)] at e
        cases e
    · rw [List.getElem?_set_ne z] at e
      exact ⟨l, e⟩
  obtain ⟨l', f1⟩ := key a l e1
  obtain ⟨m', f2⟩ := key b m e2
  exact h a b l' m' p ne f1 f2 e3
section
variable (K : PySem.W.Frag)
def SlOk (B : Hp) (W : Wd) (H : Hp) : Sl → V → Prop
  | .val d, v => Dn K W.I d v
  | .own l, v => ∃ p xs, v = .ref p ∧ B p = none ∧ ¬ W.P p ∧ W.I p = none ∧ H p = some (.lst xs) ∧ Dns K W.I l xs
  | .pot, v => ∃ p, v = .ref p ∧ W.P p
  | .ownT kvs, v => ∃ p ws, v = .ref p ∧ B p = none ∧ ¬ W.P p ∧ W.I p = none ∧ H p = some (.dT ws) ∧ Dnt K W.I kvs ws
  | .inst C p dx fs, v => ∃ vs, v = .ref p ∧ B p = none ∧ B dx = none ∧ dx ≠ p ∧ ¬ W.P p ∧ ¬ W.P dx ∧ W.I p = none ∧ W.I dx = none ∧ H p = some (.ins C dx vs) ∧ H dx = some (.own p) ∧ Dnf K W.I fs vs
structure Rep (g : List Code) (B : Hp) (S : En) (σ : L2.St) (W : Wd) (H : Hp) : Prop where
  ok : Ok g W H
  gb : ∀ b, InG g b → B b ≠ none
  len : S.length = σ.length
  sl : ∀ (i : Nat) (s : Sl), S[i]? = some (some s) → ∃ v, σ[i]? = some (some v) ∧ SlOk K B W H s v
  dist : ∀ (i j : Nat) (l m : List D) (p : Addr), i ≠ j → S[i]? = some (some (.own l)) → S[j]? = some (some (.own m)) → σ[i]? = some (some (.ref p)) → σ[j]? ≠ some (some (.ref p))
  distT : DistT S σ
end
section
variable {K : PySem.W.Frag} {g : List Code} {B : Hp} {S : En} {σ : L2.St} {W W1 : Wd} {H H1 : Hp}
theorem SlOk.step {s : Sl} {v : V} (h : SlOk K B W H s v) (a : Stp W H W1 H1) : SlOk K B W1 H1 s v := by
  cases s with
  | val d => exact Dn.mono a.I h
  | own l =>
    obtain ⟨p, xs, e, b, n, i, hp, r⟩ := h
    exact ⟨p, xs, e, b, fun z => n (a.oldP p _ hp z), a.old p _ hp (fun _ z => by cases z) i, a.keep p _ hp n, r.mono a.I⟩
  | ownT l =>
    obtain ⟨p, xs, e, b, n, i, hp, r⟩ := h
    exact ⟨p, xs, e, b, fun z => n (a.oldP p _ hp z), a.old p _ hp (fun _ z => by cases z) i, a.keep p _ hp n, r.mono a.I⟩
  | pot =>
    obtain ⟨p, e, z⟩ := h
    exact ⟨p, e, a.P p z⟩
  | inst C p dx fs =>
    obtain ⟨vs, e, b, b2, ne, n, n2, i, i2, hp, hd, r⟩ := h
    exact ⟨vs, e, b, b2, ne, fun z => n (a.oldP p _ hp z), fun z => n2 (a.oldP dx _ hd z), a.old p _ hp (fun _ z => by cases z) i, a.old dx _ hd (fun _ z => by cases z) i2, a.keep p _ hp n, a.keep dx _ hd n2, r.mono a.I⟩
theorem Rep.step (r : Rep K g B S σ W H) (a : Stp W H W1 H1) (ok : Ok g W1 H1) : Rep K g B S σ W1 H1 :=
  ⟨ok, r.gb, r.len, fun i s e => let ⟨v, h1, h2⟩ := r.sl i s e; ⟨v, h1, h2.step a⟩, r.dist, r.distT⟩
theorem Rep.set {i : Nat} {d : D} {v : V} (r : Rep K g B S σ W H) (h : Dn K W.I d v) : Rep K g B (S.set i (some (.val d))) (σ.set i (some v)) W H where
  ok := r.ok
  gb := r.gb
  len := by simpa using r.len
  sl := fun j s e => by
    by_cases q : i = j
    · subst q
      by_cases z : i < S.length
      · rw [List.getElem?_set_self z] at e
        cases e
        exact ⟨v, List.getElem?_set_self (r.len ▸ z), h⟩
      · rw [List.getElem?_eq_none (by simpa using z)] at e
        cases e
    · rw [List.getElem?_set_ne q] at e ⊢
      exact r.sl j s e
  dist := fun a b l m p n e1 e2 e3 => by
    have qa : i ≠ a := fun z => by
      subst z
      by_cases y : i < S.length
      · rw [List.getElem?_set_self y] at e1; cases e1
      · rw [List.getElem?_eq_none (by simpa using y)] at e1; cases e1
    have qb : i ≠ b := fun z => by
      subst z
      by_cases y : i < S.length
      · rw [List.getElem?_set_self y] at e2; cases e2
      · rw [List.getElem?_eq_none (by simpa using y)] at e2; cases e2
    rw [List.getElem?_set_ne qa] at e1 e3
    rw [List.getElem?_set_ne qb] at e2 ⊢
    exact r.dist a b l m p n e1 e2 e3
  distT := r.distT.set i fun l z => by cases z
end

/-! ### the weakest readings -/
section
variable (X : Cx)
def WE (e : Expr) : TE := fun σ H Q => ∀ pins s, Inv X pins σ H s → wpAny (model X.prog X.w) X.A (eval e X.env) (EP X pins σ Q) X.xe s
def WT (e : Expr) : TT := fun σ H Q => ∀ pins s, Inv X pins σ H s → wpAny (model X.prog X.w) X.A (isTrue e X.env (eval e X.env)) (TP X pins σ Q) X.xe s
def WW (e : Expr) : TT := fun σ H Q => ∀ whole pins s, Inv X pins σ H s → wpAny (model X.prog X.w) X.A (isTrue e X.env whole) (TP X pins σ Q) X.xe s
def WA (es : List Expr) : TA := fun σ H Q => ∀ pos pins s, Inv X pins σ H s → wpAny (model X.prog X.w) X.A (spliced (backTo pos (starEach es X.env))) (AP X pins σ Q) X.xe s
def WS (st : Stmt) : TS := fun Dd σ H => ∀ pins s, Inv X pins σ H s → wpAny (model X.prog X.w) X.A (exec st X.env) (SP X pins Dd) X.xe s
def WSs (sts : List Stmt) : TS := fun Dd σ H => ∀ pins s, Inv X pins σ H s → wpAny (model X.prog X.w) X.A (execs sts X.env) (SP X pins Dd) X.xe s
def WO (f : Value → Value → Sem Value) : R2 := fun x y H Q => ∀ pins s σ v u, Inv X pins σ H s → RelV x v → RelV y u → wpAny (model X.prog X.w) X.A (f v u) (EP X pins σ Q) X.xe s
end
section
variable {X : Cx} {e : Expr} {es : List Expr} {st : Stmt} {sts : List Stmt}
theorem we_pe : PE X e (WE X e) := ⟨fun pins s _ _ _ I h => h pins s I⟩
theorem wt_pt : PT X e (WT X e) := ⟨fun pins s _ _ _ I h => h pins s I⟩
theorem ww_pw : PW X e (WW X e) := ⟨fun wh pins s _ _ _ I h => h wh pins s I⟩
theorem wa_pa : PA X es (WA X es) := ⟨fun pos pins s _ _ _ I h => h pos pins s I⟩
theorem ws_ps : PS X st (WS X st) := ⟨fun pins s _ _ _ I h => h pins s I⟩
theorem wss_pss : PSs X sts (WSs X sts) := ⟨fun pins s _ _ _ I h => h pins s I⟩
theorem wo_op {f : Value → Value → Sem Value} : OpR X f (WO X f) := fun pins s σ _ _ _ v u _ I r1 r2 h => h pins s σ v u I r1 r2
theorem PE.w {t : TE} (h : PE X e t) {σ : L2.St} {H : Hp} {Q : VK} (q : t σ H Q) : WE X e σ H Q := fun pins s I => h.run pins s σ H Q I q
theorem PT.w {t : TT} (h : PT X e t) {σ : L2.St} {H : Hp} {Q : Bool → Hp → Prop} (q : t σ H Q) : WT X e σ H Q := fun pins s I => h.run pins s σ H Q I q
theorem PW.w {t : TT} (h : PW X e t) {σ : L2.St} {H : Hp} {Q : Bool → Hp → Prop} (q : t σ H Q) : WW X e σ H Q := fun wh pins s I => h.run wh pins s σ H Q I q
theorem PA.w {t : TA} (h : PA X es t) {σ : L2.St} {H : Hp} {Q : List V → Hp → Prop} (q : t σ H Q) : WA X es σ H Q := fun pos pins s I => h.run pos pins s σ H Q I q
theorem PS.w {t : TS} (h : PS X st t) {σ : L2.St} {H : Hp} {Dd : Ends} (q : t Dd σ H) : WS X st Dd σ H := fun pins s I => h.run pins s σ H Dd I q
theorem PSs.w {t : TS} (h : PSs X sts t) {σ : L2.St} {H : Hp} {Dd : Ends} (q : t Dd σ H) : WSs X sts Dd σ H := fun pins s I => h.run pins s σ H Dd I q
theorem OpR.w {f : Value → Value → Sem Value} {r : R2} (h : OpR X f r) {x y : V} {H : Hp} {Q : VK} (q : r x y H Q) : WO X f x y H Q := fun pins s σ v u I r1 r2 => h pins s σ H x y v u Q I r1 r2 q
end

/-! ### judgements on data -/
/-- what follows: from any later world, a value that is a datum wanted -/
def Cont (K : PySem.W.Frag) (g : List Code) (W : Wd) (H : Hp) (Q : D → Prop) (R : VK) : Prop := ∀ d v W' H', Stp W H W' H' → Ok g W' H' → Dn K W'.I d v → Q d → R v H'
def ContB (g : List Code) (W : Wd) (H : Hp) (Q : Bool → Prop) (R : Bool → Hp → Prop) : Prop := ∀ b W' H', Stp W H W' H' → Ok g W' H' → Q b → R b H'
/-- arguments: data, or pots -/
def Arg (K : PySem.W.Frag) (W : Wd) : Sl → V → Prop
  | .val d, v => Dn K W.I d v
  | .pot, v => ∃ p, v = .ref p ∧ W.P p
  | .own _, _ => False
  | .ownT _, _ => False
  | .inst _ _ _ _, _ => False
abbrev Args (K : PySem.W.Frag) (W : Wd) (as : List Sl) (vs : List V) : Prop := Paired (Arg K W) as vs
def ContA (K : PySem.W.Frag) (g : List Code) (W : Wd) (H : Hp) (Q : List Sl → Prop) (R : List V → Hp → Prop) : Prop := ∀ as vs W' H', Stp W H W' H' → Ok g W' H' → Args K W' as vs → Q as → R vs H'
section
variable (X : Cx) (B : Hp) (S : En)
def ED (e : Expr) (Q : D → Prop) : Prop := ∀ σ W H, Rep X.K (gOf X) B S σ W H → ∀ R, Cont X.K (gOf X) W H Q R → WE X e σ H R
def TD (e : Expr) (Q : Bool → Prop) : Prop := ∀ σ W H, Rep X.K (gOf X) B S σ W H → ∀ R, ContB (gOf X) W H Q R → WT X e σ H R
def TW (e : Expr) (Q : Bool → Prop) : Prop := ∀ σ W H, Rep X.K (gOf X) B S σ W H → ∀ R, ContB (gOf X) W H Q R → WW X e σ H R
def AD (es : List Expr) (Q : List Sl → Prop) : Prop := ∀ σ W H, Rep X.K (gOf X) B S σ W H → ∀ R, ContA X.K (gOf X) W H Q R → WA X es σ H R
def OD (f : Value → Value → Sem Value) (x y : D) (Q : D → Prop) : Prop := ∀ v u W H, Ok (gOf X) W H → Dn X.K W.I x v → Dn X.K W.I y u → ∀ R, Cont X.K (gOf X) W H Q R → WO X f v u H R
end
section
variable {K : PySem.W.Frag} {g : List Code} {W W1 : Wd} {H H1 : Hp}
theorem Cont.step {Q : D → Prop} {R : VK} (c : Cont K g W H Q R) (a : Stp W H W1 H1) (ok : Ok g W1 H1) : Cont K g W1 H1 Q R := fun d v W' H' b ok' h q => c d v W' H' (a.trans ok b) ok' h q
theorem Cont.now {Q : D → Prop} {R : VK} (c : Cont K g W H Q R) (ok : Ok g W H) {d : D} {v : V} (h : Dn K W.I d v) (q : Q d) : R v H := c d v W H Stp.refl ok h q
theorem ContB.step {Q : Bool → Prop} {R : Bool → Hp → Prop} (c : ContB g W H Q R) (a : Stp W H W1 H1) (ok : Ok g W1 H1) : ContB g W1 H1 Q R := fun b W' H' s ok' q => c b W' H' (a.trans ok s) ok' q
theorem ContB.now {Q : Bool → Prop} {R : Bool → Hp → Prop} (c : ContB g W H Q R) (ok : Ok g W H) {b : Bool} (q : Q b) : R b H := c b W H Stp.refl ok q
theorem Args.step {as : List Sl} {vs : List V} (h : Args K W as vs) (a : Stp W H W1 H1) : Args K W1 as vs := by
  refine Paired.mapP h fun x v h1 => ?_
  · cases x with
    | val d => exact Dn.mono a.I h1
    | own l => exact h1
    | pot => obtain ⟨p, e, q⟩ := h1; exact ⟨p, e, a.P p q⟩
    | inst _ _ _ _ => exact h1
    | ownT _ => exact h1
end

/-! ### expressions -/
section
variable {X : Cx} {B : Hp} {S : En} {pos : Pos} {Q : D → Prop} {a b : Expr}
theorem ed_name {x : Str} {d : D} (i : Nat) (hN : X.N[i]? = some x) (h : S[i]? = some (some (.val d))) (q : Q d) (hv : Vis X.env.scope x := by first | exact Or.inl rfl | exact Or.inr (Or.inl rfl) | exact Or.inr (Or.inr rfl))
    (hd : (x == ("__debug__" : Str)) = false := by decide) (hcd : (x == ("__classdict__" : Str)) = false := by decide) : ED X B S (.Name x pos) Q := fun σ W H r R c => by
  obtain ⟨v, e, z⟩ := r.sl i _ h
  exact PE.w (pe_var hN hv hd hcd) ⟨v, e, c.now r.ok z q⟩
theorem ed_int {i j} (q : Q (.int i)) : ED X B S (.Constant (.int i) j pos) Q := fun σ W H r R c => PE.w pe_int (c.now r.ok (.int i) q)
theorem ed_str {x j} (q : Q (.str x)) : ED X B S (.Constant (.str x) j pos) Q := fun σ W H r R c => PE.w pe_str (c.now r.ok (.str x) q)
theorem ed_two {f : Value → Value → Sem Value} (h : ED X B S a fun x => ED X B S b fun y => OD X f x y Q) {σ : L2.St} {W : Wd} {H : Hp} (r : Rep X.K (gOf X) B S σ W H) {R : VK} (c : Cont X.K (gOf X) W H Q R) :
    WE X a σ H fun x H1 => WE X b σ H1 fun y H2 => WO X f x y H2 R := by
  refine h σ W H r _ fun d v W1 H1 s1 ok1 n1 q1 => ?_
  refine q1 σ W1 H1 (r.step s1 ok1) _ fun d2 u W2 H2 s2 ok2 n2 q2 => ?_
  exact q2 v u W2 H2 ok2 (n1.mono s2.I) n2 R ((c.step s1 ok1).step s2 ok2)
theorem ed_bin {op : Operator} (h : ED X B S a fun x => ED X B S b fun y => OD X (binaryOp op) x y Q) : ED X B S (.BinOp a op b pos) Q := fun σ W H r R c =>
  PE.w (pe_op wo_op we_pe we_pe) (ed_two h r c)
theorem ed_cmp {op : CmpOp} (h : ED X B S a fun x => ED X B S b fun y => OD X (compareOp op) x y Q) (hm : behindInMarks op b = false := by first | exact nomark _ | rfl) : ED X B S (.Compare a [op] [b] pos) Q := fun σ W H r R c =>
  PE.w (pe_cmpR wo_op we_pe we_pe hm) (ed_two h r c)
theorem od_of {f : Value → Value → Sem Value} {r : R2} (ho : OpR X f r) {x y : D} (h : ∀ v u W H, Ok (gOf X) W H → Dn X.K W.I x v → Dn X.K W.I y u → ∀ R, Cont X.K (gOf X) W H Q R → r v u H R) : OD X f x y Q :=
  fun v u W H ok h1 h2 R c => OpR.w ho (h v u W H ok h1 h2 R c)
/-- operators on ints -/
theorem od_I0 {f : Value → Value → Sem Value} {g : Int → Int → V} {i j : Int} {d : D} (ho : OpR X f (rI0 g)) (hg : ∀ K I, Dn K I d (g i j)) (q : Q d) : OD X f (.int i) (.int j) Q := by
  refine od_of ho fun v u W H ok h1 h2 R c => ?_
  cases h1; cases h2
  exact ⟨i, j, rfl, rfl, c.now ok (hg _ _) q⟩
theorem od_I {f : Value → Value → Sem Value} {C : Int → Int → Prop} {g : Int → Int → V} {i j : Int} {d : D} (ho : OpR X f (rI C g)) (hc : C i j) (hg : ∀ K I, Dn K I d (g i j)) (q : Q d) : OD X f (.int i) (.int j) Q := by
  refine od_of ho fun v u W H ok h1 h2 R c => ?_
  cases h1; cases h2
  exact ⟨i, j, rfl, rfl, hc, c.now ok (hg _ _) q⟩
theorem od_add {i j : Int} (q : Q (.int (i + j))) : OD X (binaryOp .Add) (.int i) (.int j) Q := od_I0 op_add (fun _ _ => .int _) q
theorem od_sub {i j : Int} (q : Q (.int (i - j))) : OD X (binaryOp .Sub) (.int i) (.int j) Q := od_I0 op_sub (fun _ _ => .int _) q
theorem od_lt {i j : Int} (q : Q (.bl (decide (i < j)))) : OD X (compareOp .Lt) (.int i) (.int j) Q := od_I0 op_lt (fun _ _ => .bl _) q
theorem od_le {i j : Int} (q : Q (.bl (decide (i ≤ j)))) : OD X (compareOp .LtE) (.int i) (.int j) Q := od_I0 op_le (fun _ _ => .bl _) q
theorem od_gt {i j : Int} (q : Q (.bl (decide (j < i)))) : OD X (compareOp .Gt) (.int i) (.int j) Q := od_I0 op_gt (fun _ _ => .bl _) q
theorem od_ge {i j : Int} (q : Q (.bl (decide (j ≤ i)))) : OD X (compareOp .GtE) (.int i) (.int j) Q := od_I0 op_ge (fun _ _ => .bl _) q
end
end DL

set_option Elab.async false
set_option linter.all false
set_option maxRecDepth 100000
set_option maxHeartbeats 2000000
/-! what a def promises where it is known what is being written as a text around it (the guards) -/
namespace DL
open PySem PySem.Spec PyProof.Rows L2
abbrev SpG := List Code → List V → Hp → VK → Prop
structure GnOk (P : Program) (w : World) (K : PySem.W.Frag) (mg : Str → Option Value) (base : Heap) (k : Nat) (f : Addr) (fd : FuncData) (ps : List Str) (sp : SpG) : Prop where
  len : ∀ g vs H Q, sp g vs H Q → vs.length = ps.length
  run : ∀ (A : Around) (g : List Code) (outer : List Env) (s : Shared) (H : Hp) (args : PySem.Args) (us : List Value) (vs : List V) (Q : VK), Room k A → A.guards = some g → Env0 P w K mg base A outer s H → BindsTo s fd args (ps.zip us) → Vals vs us → sp g vs H Q →
    codeAny (model P w) A (.call (.ref f) args) (CR CX0 outer P w H s Q E0) s
/-- a def of the text, its defaults whatever they are -/
structure FunS (K : PySem.W.Frag) (x qual : Str) (st : Stmt) (f : Addr) (fd : FuncData) : Prop where
  ex : ∃ (oc : Value) (od : Option Addr) (dV kV doc pm : Value) (an : Option Addr) (cdv ct : Value) (osl : Array (Option Value)),
    fd = PySem.W.fnOf x qual (defArgs st) (defBody st) (defScope st) dV kV doc pm an cdv ct ∧ K.lookup f = some ⟨oc, od, .func fd, osl⟩ ∧ PySem.W.codeIn K cdv qual = true
  kp : PySem.W.keepIn K (.ref f) = true
theorem fun_s {K : PySem.W.Frag} {x qual : Str} {st : Stmt} {f : Addr} {fd : FuncData} (F : Fun K x qual st f fd) : FunS K x qual st f fd :=
  ⟨let ⟨oc, od, kV, doc, pm, an, cdv, ct, osl, a, b, c⟩ := F.ex; ⟨oc, od, .none, kV, doc, pm, an, cdv, ct, osl, a, b, c⟩, F.kp⟩
theorem fund_s {K : PySem.W.Frag} {x qual : Str} {st : Stmt} {dvs : List V} {kws : List (Str × V)} {f : Addr} {fd : FuncData} (F : FunD K x qual (defArgs st) (defBody st) (defScope st) dvs kws f fd) : FunS K x qual st f fd :=
  ⟨let ⟨oc, od, dV, kV, doc, pm, an, cdv, ct, osl, a, b, c, _⟩ := F.ex; ⟨oc, od, dV, kV, doc, pm, an, cdv, ct, osl, a, b, c⟩, F.kp⟩
section
variable {P : Program} {w : World} {K : PySem.W.Frag} {mg : Str → Option Value} {base : Heap} {j k : Nat} {f : Addr} {fd : FuncData} {ps : List Str} {sp sp' : SpG}
abbrev Bx (P : Program) (w : World) (K : PySem.W.Frag) (mg : Str → Option Value) (base : Heap) (N : List Str) (qual : Str) (st : Stmt) (f : Addr) (cdv : Value) (A : Around) (outer : List Env) (s : Shared) (H : Hp) : Cx := (cxOf CX0 P w K mg base N qual (defScope st) f cdv A outer s H E0).nox
/-- a def by its body, the guards known -/
theorem gn_of {x qual : Str} {st : Stmt} {N : List Str} (F : FunS K x qual st f fd) (S : FnScope N ps (defScope st)) (len : ∀ g vs H Q, sp g vs H Q → vs.length = ps.length)
    (body : ∀ cdv A outer s H g vs Q, Room k (A.deeper (PyProof.Rows.envOfC qual (defScope st) s.heap.objs.size f cdv)) → A.guards = some g → sp g vs H Q →
      ∃ t, PSs (Bx P w K mg base N qual st f cdv A outer s H) (defBody st) t ∧ t { nx := fun _ H' => Q .non H', rt := Q } (L2.start N vs) H) : GnOk P w K mg base (k + 1) f fd ps sp := by
  obtain ⟨oc, od, dV, kV, doc, pm, an, cdv, ct, osl, rfl, lk, hcd⟩ := F.ex
  refine ⟨len, fun A g outer s H args us vs Q hr hg e0 hb r hsp => ?_⟩
  have old := fun b o (e : base.get? b = some o) => (e0.bs b o e).1
  have KX : K.In s.heap := e0.mod.kin.keeps old
  have par : ∀ y ∈ ps.zip us, (defScope st).names.lookup y.1 = some .local ∨ ((defScope st).names.lookup y.1 = some .cell ∧ ((cellsFrom (s.heap.objs.size + 1) (defScope st).names []).lookup y.1).isSome = true) := fun y hy =>
    (S.par y.1 (List.of_mem_zip (show (y.1, y.2) ∈ _ from hy)).1).imp id fun q => ⟨q, PySem.W.cellsFrom_some _ _ _ (.inl q)⟩
  refine codeAny_call_function hr.depth (KX _ _ lk) rfl S.co S.gen rfl (PySem.W.codeRec_of KX hcd) (hb _ _ _ _ ?_)
  refine wpAny_newFunctionEnv_cells S.kind par fun env he s1 x => ?_
  subst he
  refine ⟨(e0.mod.nolimit.keeps old).keeps x.toInCall.keep, codeAny_func ?_⟩
  obtain ⟨t, ht, hq⟩ := body cdv A outer s H g vs Q (hr.deeper _) hg hsp
  have I := inv_start (CX := CX0) (E := E0) S hr.hd e0 (len _ _ _ _ hsp) r x
  refine wpAny_mono (ht.nox.run [] s1 (L2.start N vs) H _ I hq) (fun fl s' hs => ?_) fun e s' hs => hs
  match fl, hs with
  | .ret u, ⟨v, σ', H', J, rv, q⟩ => exact ⟨v, H', J.os, J.bare, J.base, J.hok, rv, q⟩
  | .next, ⟨σ', H', J, q⟩ => exact ⟨V.non, H', J.os, J.bare, J.base, J.hok, rfl, q⟩
  | .brk, ⟨_, _, _, q⟩ => exact q.elim
  | .cont, ⟨_, _, _, q⟩ => exact q.elim
theorem deeper_guards {A : Around} {qual : Str} {sc : Scope} {n : Nat} {f : Addr} {cdv : Value} {g : List Code} (h : A.guards = some g) : (A.deeper (PyProof.Rows.envOfC qual sc n f cdv)).guards = some g := by
  first | exact h | (simpa [Around.deeper] using h)
end
section
variable {X : Cx} {k : Nat} {f C g0 : Addr} {fd : FuncData} {ps : List Str} {sp : SpG} {dvs : List V} {ds : List Value} {x m : Str} {p pos apos : Pos} {e o : Expr} {es : List Expr} {g : List Code}
theorem run_cr {pins : List (Addr × Obj)} {σ : L2.St} {H : Hp} {s : Shared} {Q : VK} {c : Code} {A : Around} (I : Inv X pins σ H s) (h : codeAny (model X.prog X.w) A c (CR CX0 X.stack X.prog X.w H s Q E0) s) :
    codeAny (model X.prog X.w) A c (fun r s' => match r with | .ok (.ret v) => EP X pins σ Q v s' | .ok _ => False | .error e => False) s := by
  refine codeAny_mono h fun r s' hq => ?_
  match r, hq with
  | .error e, hq => exact hq
  | .ok (.ret u), hq => exact I.after hq
/-- the callee runs -/
theorem run_gn {A : Around} {pins : List (Addr × Obj)} {σ : L2.St} {H : Hp} {s : Shared} {Q : VK} {us : List Value} {vs : List V} {R : PySem.Result → Shared → Prop} (F : GnOk X.prog X.w X.K X.mg X.base k f fd ps sp) (hr : Room k A) (hG : A.guards = some g) (e0 : Env0 X.prog X.w X.K X.mg X.base A X.stack s H)
    (hb : Binds X.K fd ps ds) (hd : Vals dvs ds) (I : Inv X pins σ H s) (r : Vals vs us) (h : sp g (vs ++ dvs) H Q) (k : ∀ v s', EP X pins σ Q v s' → R (.ok (.ret v)) s') : codeAny (model X.prog X.w) A (.call (.ref f) ⟨us, []⟩) R s := by
  have r2 : Vals (vs ++ dvs) (us ++ ds) := r.append hd
  have hl : (us ++ ds).length = ps.length := r2.length.symm.trans (F.len _ _ _ _ h)
  refine codeAny_mono (run_cr I (F.run A g X.stack s H ⟨us, []⟩ (us ++ ds) (vs ++ dvs) Q hr hG e0 (hb s us I.kIn hl) r2 h)) fun r s' hq => ?_
  match r, hq with
  | .error e, hq => exact hq.elim
  | .ok (.ret u), hq => exact k u s' hq
/-- .. its arguments bound in any way -/
theorem run_gb {A : Around} {pins : List (Addr × Obj)} {σ : L2.St} {H : Hp} {s : Shared} {Q : VK} {args : PySem.Args} {us : List Value} {vs : List V} {R : PySem.Result → Shared → Prop} (F : GnOk X.prog X.w X.K X.mg X.base k f fd ps sp) (hr : Room k A) (hG : A.guards = some g) (e0 : Env0 X.prog X.w X.K X.mg X.base A X.stack s H)
    (hb : BindsTo s fd args (ps.zip us)) (I : Inv X pins σ H s) (r : Vals vs us) (h : sp g vs H Q) (k : ∀ v s', EP X pins σ Q v s' → R (.ok (.ret v)) s') : codeAny (model X.prog X.w) A (.call (.ref f) args) R s := by
  refine codeAny_mono (run_cr I (F.run A g X.stack s H args us vs Q hr hG e0 hb r h)) fun r s' hq => ?_
  match r, hq with
  | .error e, hq => exact hq.elim
  | .ok (.ret u), hq => exact k u s' hq
theorem call_gn {pins : List (Addr × Obj)} {σ : L2.St} {H : Hp} {s : Shared} {Q : VK} {us : List Value} {vs : List V} {E : Value → Shared → Prop} (F : GnOk X.prog X.w X.K X.mg X.base k f fd ps sp) (hr : Room k X.A) (hG : X.A.guards = some g)
    (hb : Binds X.K fd ps ds) (hd : Vals dvs ds) (I : Inv X pins σ H s) (r : Vals vs us) (h : sp g (vs ++ dvs) H Q) : wpAny (model X.prog X.w) X.A (call (.ref f) us) (EP X pins σ Q) E s :=
  wpAny_call (run_gn F hr hG I.env0 hb hd I r h fun _ _ q => q)
/-- f(e, ..) -/
theorem we_call {σ : L2.St} {H : Hp} {Q : VK} (F : GnOk X.prog X.w X.K X.mg X.base k f fd ps sp) (hr : Room k X.A) (hG : X.A.guards = some g) (hg : Gl X x) (hm : X.mg x = some (.ref f)) (hk : PySem.W.keepIn X.K (.ref f) = true) (hb : Binds X.K fd ps ds) (hd : Vals dvs ds)
    (h : WA X (e :: es) σ H fun vs H1 => sp g (vs ++ dvs) H1 Q) (hdb : (x == ("__debug__" : Str)) = false) (he : starEach (e :: es) X.env = (false, eval e X.env) :: starEach es X.env) (hpl : (backTo pos (starEach es X.env)).any (·.1) = false) : WE X (.Call (.Name x p) (e :: es) [] pos) σ H Q := fun pins s I =>
  wpAny_Call_Name_kw (ld_glob I hg hm (PySem.W.callWith_K (h₀ := X.base) I.ok.mod.kin hk (thn (h pos pins s I) fun us s1 ⟨vs, H1, I1, r, q⟩ => ⟨I1.kIn, call_gn F hr hG hb hd I1 r q⟩) he hpl) hdb)
/-- e.f, a property -/
theorem we_prop {σ : L2.St} {H : Hp} {Q : VK} {f : Str} {pp : Addr} (c : Cls X.K C) (hp : PropOf X.K C f pp g0) (F : GnOk X.prog X.w X.K X.mg X.base k g0 fd ps sp) (hr : Room (k + 1) X.A) (hG : X.A.guards = some g) (hb : Binds X.K fd ps ds) (hd : Vals dvs ds)
    (h : WE X o σ H fun x H1 => ∃ a dx fs, x = .ref a ∧ H1 a = some (.ins C dx fs) ∧ sp g (x :: dvs) H1 Q) (hab : attributeBase o f X.env (eval o X.env) = eval o X.env) : WE X (.Attribute o f pos) σ H Q := fun pins s I => by
  refine attr_of hab (thn (h pins s I) fun u s1 ⟨x, H1, I1, rx, a, dx, fs, ex, ea, q⟩ => ?_)
  subst ex
  cases (show u = Value.ref a from rx)
  obtain ⟨mA, O, _⟩ := ins_get I1.hok ea
  obtain ⟨od, J, _⟩ := O.look
  obtain ⟨rest, hrec⟩ := hp.rec_
  have I2 := I1.tok (s1.toks + 1)
  have hc : (PySem.W.clsIn X.K C).isSome = true := by
    obtain ⟨cd, hc, _⟩ := PySem.W.any_some c.hd
    rw [hc]
    rfl
  refine PySem.W.get_bind I1.kIn J (PySem.W.plainGet_of (c.get f)).1 (PySem.W.findObj_data hc hp.at_ hp.get hp.tak) (PySem.W.plainGet_of (c.get f)).2 (wpAny_call (PySem.W.prop_get (s := { s1 with toks := s1.toks + 1 }) I1.kIn hrec ?_))
  refine codeAny_mono (run_gn (A := X.A.in1) (us := [.ref a]) (vs := [.ref a]) (R := fun r s' => match r with | .ok (.ret v) => EP X pins σ Q v s' | _ => False) F hr.in1 hG I2.env0.in1 hb hd I2 (.cons rfl .nil) q fun _ _ q => q) fun r s' hq => ?_
  match r, hq with
  | .ok (.ret u), hq =>
    obtain ⟨v, H', I3, rv, q3⟩ := id hq
    exact wpAny_of_eq (PySem.W.handedOut_of (handed_of rv)) hq
/-- C(e, ..) -/
theorem make_guards {A : Around} {us : List Value} (h : A.guards = some g) : (A.under (.builtin "type.__call__" ⟨.ref C :: us, []⟩)).guards = some g := by
  have e : (Code.builtin "type.__call__" ⟨.ref C :: us, []⟩).guards = [] := by
    unfold Code.guards Code.isGuard
    have h0 : guardIds.contains "type.__call__" = false := by decide +kernel
    rw [if_neg (by show ¬ (guardIds.contains "type.__call__" = true); rw [h0]; exact Bool.false_ne_true)]
  show pushGuards (Code.builtin "type.__call__" ⟨.ref C :: us, []⟩).guards A.guards = some g
  rw [e]
  exact h
theorem run_gmake {pins : List (Addr × Obj)} {σ : L2.St} {H : Hp} {s : Shared} {Q : VK} {us : List Value} {vs : List V} {E : Value → Shared → Prop} (M : Mk X.K C f) (F : GnOk X.prog X.w X.K X.mg X.base k f fd ps sp) (hr : Room (k + 1) X.A) (hG : X.A.guards = some g) (hb : Binds X.K fd ps ds) (hd : Vals dvs ds)
    (I : Inv X pins σ H s) (r : Vals vs us) (h : ∀ x dx, H x = none → H dx = none → dx ≠ x → sp g (.ref x :: (vs ++ dvs)) (upd (upd H dx (.own x)) x (.ins C dx [])) (fun v H2 => v = .non ∧ Q (.ref x) H2)) : wpAny (model X.prog X.w) X.A (call (.ref C) us) (EP X pins σ Q) E s := by
  have hq := h (s.heap.objs.size + 1) s.heap.objs.size (I.hok.fresh (Nat.le_succ _)) (I.hok.fresh (Nat.le_refl _)) (Nat.ne_of_lt (Nat.lt_succ_self _))
  have I2 := Inv.made (C := C) I
  refine wpAny_call (make_map (f := f) I.kIn M.makes M.init (beq_iff_eq.mp M.fn) ?_)
  refine run_gn (us := Value.ref (s.heap.objs.size + 1) :: us) (vs := V.ref (s.heap.objs.size + 1) :: vs) F (hr.make C us []) (make_guards hG) (I2.env0.make C us []) hb hd I2 (.cons rfl r) hq fun v s' hv => ?_
  obtain ⟨z, H', I3, rv, ez, q3⟩ := hv
  subst ez
  exact ⟨rv, ⟨V.ref (s.heap.objs.size + 1), H', I3, rfl, q3⟩⟩
theorem we_make {σ : L2.St} {H : Hp} {Q : VK} (M : Mk X.K C f) (F : GnOk X.prog X.w X.K X.mg X.base k f fd ps sp) (hr : Room (k + 1) X.A) (hG : X.A.guards = some g) (hg : Gl X x) (hm : X.mg x = some (.ref C)) (hb : Binds X.K fd ps ds) (hd : Vals dvs ds)
    (h : WA X (e :: es) σ H fun vs H1 => ∀ y dy, H1 y = none → H1 dy = none → dy ≠ y → sp g (.ref y :: (vs ++ dvs)) (upd (upd H1 dy (.own y)) y (.ins C dy [])) (fun v H2 => v = .non ∧ Q (.ref y) H2))
    (hdb : (x == ("__debug__" : Str)) = false) (he : starEach (e :: es) X.env = (false, eval e X.env) :: starEach es X.env) (hpl : (backTo pos (starEach es X.env)).any (·.1) = false) : WE X (.Call (.Name x p) (e :: es) [] pos) σ H Q := fun pins s I =>
  wpAny_Call_Name_kw (ld_glob I hg hm (PySem.W.callWith_K (h₀ := X.base) I.ok.mod.kin M.kp (thn (h pos pins s I) fun us s1 ⟨vs, H1, I1, r, q⟩ => ⟨I1.kIn, run_gmake M F hr hG hb hd I1 r q⟩) he hpl) hdb)
end
end DL

set_option Elab.async false
set_option linter.all false
set_option maxRecDepth 100000
set_option maxHeartbeats 2000000
namespace DL
open PySem L2

/-! ### more expressions -/
section
variable {X : Cx} {B : Hp} {S : En} {pos : Pos} {Q : D → Prop} {QB : Bool → Prop} {a b c e : Expr} {es : List Expr}

theorem ed_one {op} (h : ED X B S a Q) : ED X B S (.BoolOp op [a] pos) Q := fun σ W H r R k => PE.w (pe_one we_pe) (h σ W H r R k)
theorem ed_and {rest : List Expr} (h : ED X B S a fun x => ∃ k, x = .bl k ∧ if k = true then ED X B S (.BoolOp .And (b :: rest) pos) Q else Q (.bl false)) : ED X B S (.BoolOp .And (a :: b :: rest) pos) Q := fun σ W H r R k => by
  refine PE.w (pe_and we_pe we_pe) ?_
  refine h σ W H r _ fun d v W1 H1 s1 ok1 n1 q1 => ?_
  obtain ⟨t, e, q1⟩ := q1
  subst e
  cases n1
  refine ⟨t, rfl, ?_⟩
  cases t with
  | false => exact iteF ((k.step s1 ok1).now ok1 (.bl false) (by simpa using q1))
  | true => exact iteT ((show ED X B S (.BoolOp .And (b :: rest) pos) Q by simpa using q1) σ W1 H1 (r.step s1 ok1) R (k.step s1 ok1))
theorem ed_or {rest : List Expr} (h : ED X B S a fun x => ∃ k, x = .bl k ∧ if k = true then Q (.bl true) else ED X B S (.BoolOp .Or (b :: rest) pos) Q) : ED X B S (.BoolOp .Or (a :: b :: rest) pos) Q := fun σ W H r R k => by
  refine PE.w (pe_or we_pe we_pe) ?_
  refine h σ W H r _ fun d v W1 H1 s1 ok1 n1 q1 => ?_
  obtain ⟨t, e, q1⟩ := q1
  subst e
  cases n1
  refine ⟨t, rfl, ?_⟩
  cases t with
  | true => exact iteT ((k.step s1 ok1).now ok1 (.bl true) (by simpa using q1))
  | false => exact iteF ((show ED X B S (.BoolOp .Or (b :: rest) pos) Q by simpa using q1) σ W1 H1 (r.step s1 ok1) R (k.step s1 ok1))
theorem ed_not (h : ED X B S a fun x => ∃ k, x = .bl k ∧ Q (.bl (!k))) : ED X B S (.UnaryOp .Not a pos) Q := fun σ W H r R k => by
  refine PE.w (pe_not we_pe) ?_
  refine h σ W H r _ fun d v W1 H1 s1 ok1 n1 q1 => ?_
  obtain ⟨t, e, q1⟩ := q1
  subst e
  cases n1
  exact ⟨t, rfl, (k.step s1 ok1).now ok1 (.bl _) q1⟩
theorem ed_ifx (h : TD X B S c fun k => if k = true then ED X B S a Q else ED X B S b Q) : ED X B S (.IfExp c a b pos) Q := fun σ W H r R k => by
  refine PE.w (pe_ifExp wt_pt we_pe we_pe) ?_
  refine h σ W H r _ fun t W1 H1 s1 ok1 q1 => ?_
  cases t with
  | true => exact iteT ((show ED X B S a Q by simpa using q1) σ W1 H1 (r.step s1 ok1) R (k.step s1 ok1))
  | false => exact iteF ((show ED X B S b Q by simpa using q1) σ W1 H1 (r.step s1 ok1) R (k.step s1 ok1))
theorem ed_neg (h : ED X B S a fun x => ∃ i, x = .int i ∧ Q (.int (-i))) : ED X B S (.UnaryOp .USub a pos) Q := fun σ W H r R k => by
  refine PE.w (pe_un un_neg we_pe) ?_
  refine h σ W H r _ fun d v W1 H1 s1 ok1 n1 q1 => ?_
  obtain ⟨i, e, q1⟩ := q1
  subst e
  cases n1
  exact ⟨i, rfl, (k.step s1 ok1).now ok1 (.int _) q1⟩

/-! ### tests -/
theorem td_val (h : ED X B S e fun x => ∃ k, x = .bl k ∧ QB k) (he : ∀ whole, isTrue e X.env whole = (do let v ← whole; standAt e.pos; holding [v] (truthy v)) := by intro _; rfl) : TD X B S e QB := fun σ W H r R k => by
  refine PT.w (pt_val we_pe he) ?_
  refine h σ W H r _ fun d v W1 H1 s1 ok1 n1 q1 => ?_
  obtain ⟨t, e, q1⟩ := q1
  subst e
  cases n1
  exact ⟨t, rfl, (k.step s1 ok1).now ok1 q1⟩
theorem td_cmp {op : CmpOp} (h : ED X B S a fun x => ED X B S b fun y => OD X (compareOp op) x y fun z => ∃ k, z = .bl k ∧ QB k) (hm : behindInMarks op b = false := by first | exact nomark _ | rfl) : TD X B S (.Compare a [op] [b] pos) QB := fun σ W H r R k => by
  refine PT.w (pt_cmpR wo_op we_pe we_pe hm) ?_
  refine h σ W H r _ fun d v W1 H1 s1 ok1 n1 q1 => ?_
  refine q1 σ W1 H1 (r.step s1 ok1) _ fun d2 u W2 H2 s2 ok2 n2 q2 => ?_
  refine q2 v u W2 H2 ok2 (n1.mono s2.I) n2 _ fun d3 z W3 H3 s3 ok3 n3 q3 => ?_
  obtain ⟨t, e, q3⟩ := q3
  subst e
  cases n3
  exact ⟨t, rfl, (((k.step s1 ok1).step s2 ok2).step s3 ok3).now ok3 q3⟩
theorem td_of (h : TW X B S e QB) : TD X B S e QB := fun σ W H r R k => PT.w (PW.pt ww_pw) (h σ W H r R k)
theorem tw_and1 (h : TD X B S a QB) : TW X B S (.BoolOp .And [a] pos) QB := fun σ W H r R k => PW.w (pw_and1 wt_pt) (h σ W H r R k)
theorem tw_or1 (h : TD X B S a QB) : TW X B S (.BoolOp .Or [a] pos) QB := fun σ W H r R k => PW.w (pw_or1 wt_pt) (h σ W H r R k)
theorem tw_and {rest : List Expr} (h : TD X B S a fun k => if k = true then TW X B S (.BoolOp .And (b :: rest) pos) QB else QB false) : TW X B S (.BoolOp .And (a :: b :: rest) pos) QB := fun σ W H r R k => by
  refine PW.w (pw_and wt_pt ww_pw) ?_
  refine h σ W H r _ fun t W1 H1 s1 ok1 q1 => ?_
  cases t with
  | false => exact iteF ((k.step s1 ok1).now ok1 (by simpa using q1))
  | true => exact iteT ((show TW X B S (.BoolOp .And (b :: rest) pos) QB by simpa using q1) σ W1 H1 (r.step s1 ok1) R (k.step s1 ok1))
theorem tw_or {rest : List Expr} (h : TD X B S a fun k => if k = true then QB true else TW X B S (.BoolOp .Or (b :: rest) pos) QB) : TW X B S (.BoolOp .Or (a :: b :: rest) pos) QB := fun σ W H r R k => by
  refine PW.w (pw_or wt_pt ww_pw) ?_
  refine h σ W H r _ fun t W1 H1 s1 ok1 q1 => ?_
  cases t with
  | true => exact iteT ((k.step s1 ok1).now ok1 (by simpa using q1))
  | false => exact iteF ((show TW X B S (.BoolOp .Or (b :: rest) pos) QB by simpa using q1) σ W1 H1 (r.step s1 ok1) R (k.step s1 ok1))
theorem td_not (h : TD X B S a fun k => QB (!k)) : TD X B S (.UnaryOp .Not a pos) QB := fun σ W H r R k => by
  refine PT.w (pt_not wt_pt) ?_
  exact h σ W H r _ fun t W1 H1 s1 ok1 q1 => (k.step s1 ok1).now ok1 q1
/-- the truth of a datum -/
def Tru : D → Bool → Prop
  | .non, k => k = false
  | .bl b, k => k = b
  | .int i, k => k = (i != 0)
  | .str y, k => y.length ≤ sizeLine ∧ k = ((y.length : Int) != 0)
  | .lst l, k => k = !l.isEmpty
  | .tup l, k => k = !l.isEmpty
  | _, _ => False
/-! ### arguments -/
theorem ad_nil {Q : List Sl → Prop} (q : Q []) : AD X B S [] Q := fun σ W H r R k => PA.w pa_nil (k [] [] W H Stp.refl r.ok .nil q)
theorem ad_cons {Q : List Sl → Prop} (h : ED X B S e fun d => AD X B S es fun as => Q (.val d :: as)) (hs : starEach (e :: es) X.env = (false, eval e X.env) :: starEach es X.env := by rfl) : AD X B S (e :: es) Q := fun σ W H r R k => by
  refine PA.w (pa_cons we_pe wa_pa hs) ?_
  refine h σ W H r _ fun d v W1 H1 s1 ok1 n1 q1 => ?_
  refine q1 σ W1 H1 (r.step s1 ok1) _ fun as vs W2 H2 s2 ok2 n2 q2 => ?_
  exact k _ _ W2 H2 (s1.trans ok1 s2) ok2 (.cons (show Arg X.K W2 (.val d) v from n1.mono s2.I) n2) q2
theorem ad_pot {Q : List Sl → Prop} {x : Str} (i : Nat) (hN : X.N[i]? = some x) (h : S[i]? = some (some .pot)) (q : AD X B S es fun as => Q (.pot :: as)) (hv : Vis X.env.scope x := by first | exact Or.inl rfl | exact Or.inr (Or.inl rfl) | exact Or.inr (Or.inr rfl))
    (hd : (x == ("__debug__" : Str)) = false := by decide) (hcd : (x == ("__classdict__" : Str)) = false := by decide) (hs : starEach (.Name x pos :: es) X.env = (false, eval (.Name x pos) X.env) :: starEach es X.env := by rfl) : AD X B S (.Name x pos :: es) Q := fun σ W H r R k => by
  refine PA.w (pa_cons (pe_var hN hv hd hcd) wa_pa hs) ?_
  obtain ⟨v, e, p, ev, hp⟩ := r.sl i _ h
  refine ⟨v, e, ?_⟩
  refine q σ W H r _ fun as vs W2 H2 s2 ok2 n2 q2 => ?_
  exact k _ _ W2 H2 s2 ok2 (.cons (show Arg X.K W2 .pot v from ⟨p, ev, s2.P p hp⟩) n2) q2

/-! ### displays, items -/
theorem Args.vals {K : PySem.W.Frag} {W : Wd} : ∀ {ds : List D} {vs : List V}, Args K W (ds.map Sl.val) vs → Dns K W.I ds vs
  | [], _, .nil => .nil
  | _ :: _, _, .cons h r => .cons h (Args.vals r)
theorem ed_tup {k0} (h : AD X B S es fun as => ∃ ds, as = ds.map Sl.val ∧ ds.length ≤ 100000 ∧ Q (.tup ds)) : ED X B S (.Tuple es k0 pos) Q := fun σ W H r R k => by
  refine PE.w (pe_tup wa_pa) ?_
  refine h σ W H r _ fun as vs W1 H1 s1 ok1 n1 q1 => ?_
  obtain ⟨ds, rfl, hl, q1⟩ := q1
  have n := n1.vals
  refine ⟨Nat.le_trans (n.length ▸ hl) (by decide), fun p hp => ?_⟩
  have st := Stp.new (o := .tup vs) ok1 hp
  exact k (.tup ds) (.ref p) _ _ (s1.trans ok1 st) (ok1.new hp) (.tup (show upd W1.I p _ p = _ from upd_same) (n.mono st.I)) q1
theorem ed_lst (h : AD X B S es fun as => ∃ ds, as = ds.map Sl.val ∧ ds.length ≤ 100000 ∧ Q (.lst ds)) : ED X B S (.List es pos) Q := fun σ W H r R k => by
  refine PE.w (pe_lst wa_pa) ?_
  refine h σ W H r _ fun as vs W1 H1 s1 ok1 n1 q1 => ?_
  obtain ⟨ds, rfl, hl, q1⟩ := q1
  have n := n1.vals
  refine ⟨Nat.le_trans (n.length ▸ hl) (by decide), fun p hp => ?_⟩
  have st := Stp.new (o := .lst vs) ok1 hp
  exact k (.lst ds) (.ref p) _ _ (s1.trans ok1 st) (ok1.new hp) (.lst (show upd W1.I p _ p = _ from upd_same) (n.mono st.I)) q1
theorem Dns.at {K : PySem.W.Frag} {I : Hp} {l : List D} {xs : List V} {i : Int} {d : D} (h : Dns K I l xs) (e : atI l i = some d) : ∃ v, atI xs i = some v ∧ Dn K I d v := by
  unfold atI at e ⊢
  rw [← h.length]
  cases q : ixN l.length i with
  | none => rw [q] at e; cases e
  | some j =>
    rw [q, Option.bind_some] at e
    obtain ⟨v, h1, h2⟩ := h.get' e
    exact ⟨v, h1, h2⟩
theorem od_ixL {l : List D} {i : Int} {d : D} {σ : L2.St} {W : Wd} {H : Hp} {R : VK} {v u : V} (ok : Ok (gOf X) W H) (h1 : Dn X.K W.I (.lst l) v) (h2 : Dn X.K W.I (.int i) u) (e : atI l i = some d) (q : Q d) (k : Cont X.K (gOf X) W H Q R) : rIxL X.K v u H R := by
  cases h1 with
  | lst h z =>
    cases h2
    obtain ⟨v, e1, n⟩ := z.at e
    exact ⟨_, _, i, v, rfl, rfl, SqL.of (ok.ex _ _ h), e1, k.now ok n q⟩
/-- x[i] of a list, of a tuple -/
theorem ed_ix (h : ED X B S a fun x => ED X B S b fun y => ∃ l i d, (x = .lst l ∨ x = .tup l) ∧ y = .int i ∧ atI l i = some d ∧ Q d) (hs : PlainIx b := by exact fun _ _ => rfl) : ED X B S (.Subscript a b pos) Q := fun σ W H r R k => by
  refine PE.w (pe_ix ix_seq we_pe we_pe hs) ?_
  refine h σ W H r _ fun d v W1 H1 s1 ok1 n1 q1 => ?_
  refine q1 σ W1 H1 (r.step s1 ok1) _ fun d2 u W2 H2 s2 ok2 n2 q2 => ?_
  obtain ⟨l, i, d3, hx, rfl, e, q⟩ := q2
  have k2 := (k.step s1 ok1).step s2 ok2
  have n1' := n1.mono s2.I
  rcases hx with rfl | rfl
  · exact .inl (od_ixL (σ := σ) ok2 n1' n2 e q k2)
  · cases n1' with
    | tup h z =>
      cases n2
      obtain ⟨v, e1, n⟩ := z.at e
      exact .inr (.inl ⟨_, _, i, v, rfl, rfl, SqT.of (ok2.ex _ _ h), e1, k2.now ok2 n q⟩)
/-- p[0], p[1] of a pot: some int -/
theorem ed_potix {x : Str} {px : Pos} {j : Nat} {j2 pos2} (i : Nat) (hN : X.N[i]? = some x) (h : S[i]? = some (some .pot)) (hj : j < 2) (q : ∀ z : Int, (j = 1 → 0 ≤ z ∧ z < 2 ^ 31) → Q (.int z)) (hv : Vis X.env.scope x := by first | exact Or.inl rfl | exact Or.inr (Or.inl rfl) | exact Or.inr (Or.inr rfl))
    (hd : (x == ("__debug__" : Str)) = false := by decide) (hcd : (x == ("__classdict__" : Str)) = false := by decide) : ED X B S (.Subscript (.Name x px) (.Constant (.int (j : Int)) j2 pos2) pos) Q := fun σ W H r R k => by
  refine PE.w (pe_ix ix_list (pe_var hN hv hd hcd) pe_int (fun _ _ => rfl)) ?_
  obtain ⟨v, e, p, ev, hp⟩ := r.sl i _ h
  subst ev
  obtain ⟨n, y, z, hH, hb⟩ := r.ok.pot p hp
  refine ⟨_, e, p, _, (j : Int), if j = 0 then .int y else .int z, rfl, rfl, SqL.of hH, ?_, ?_⟩
  · match j, hj with
    | 0, _ => exact atI_nat (j := 0) rfl
    | 1, _ => exact atI_nat (j := 1) rfl
  · match j, hj with
    | 0, _ => exact k.now r.ok (.int y) (q y fun z => absurd z (by decide))
    | 1, _ => exact k.now r.ok (.int z) (q z fun _ => hb)
end

/-! ### what a def promises, on data -/
abbrev SpD := List Sl → (D → Prop) → Prop
def lift (K : PySem.W.Frag) (sp : SpD) : SpG := fun g vs H R => ∃ as W Q, Ok g W H ∧ Args K W as vs ∧ sp as Q ∧ Cont K g W H Q R
/-- the def that the module calls x: its level, its parameters, its promise -/
structure Df (P : Program) (w : World) (K : PySem.W.Frag) (mg : Str → Option Value) (base : Heap) (x : Str) (k : Nat) (n : Nat) (sp : SpD) : Prop where
  ex : ∃ f fd ps, GnOk P w K mg base k f fd ps (lift K sp) ∧ mg x = some (.ref f) ∧ PySem.W.keepIn K (.ref f) = true ∧ Binds K fd ps [] ∧ ps.length = n
section
variable {X : Cx} {B : Hp} {S : En} {pos p : Pos} {Q : D → Prop} {e : Expr} {es : List Expr} {x : Str} {k n : Nat} {sp : SpD}
theorem ed_call (F : Df X.prog X.w X.K X.mg X.base x k n sp) (hr : Room k X.A) (hG : X.A.guards = some (gOf X)) (h : AD X B S (e :: es) fun as => sp as Q) (hg : Gl X x := by rfl) (hdb : (x == ("__debug__" : Str)) = false := by decide)
    (he : starEach (e :: es) X.env = (false, eval e X.env) :: starEach es X.env := by rfl) (hpl : (backTo pos (starEach es X.env)).any (·.1) = false := by rfl) : ED X B S (.Call (.Name x p) (e :: es) [] pos) Q := fun σ W H r R c => by
  obtain ⟨f, fd, ps, F, hm, hk, hb, _⟩ := F.ex
  refine we_call F hr hG hg hm hk hb .nil ?_ hdb he hpl
  refine h σ W H r _ fun as vs W1 H1 s1 ok1 n1 q1 => ?_
  rw [List.append_nil]
  exact ⟨as, W1, Q, ok1, n1, q1, c.step s1 ok1⟩
/-- a call of a value on data -/
def CD (X : Cx) (f : Value) (as : List Sl) (Q : D → Prop) : Prop := ∀ vs W H, Ok (gOf X) W H → Args X.K W as vs → ∀ R, Cont X.K (gOf X) W H Q R → ∀ pins s σ us, Inv X pins σ H s → Vals vs us → wpAny (model X.prog X.w) X.A (call f us) (EP X pins σ R) X.xe s
def WC (X : Cx) (f : Value) : List V → Hp → VK → Prop := fun vs H R => ∀ pins s σ us, Inv X pins σ H s → Vals vs us → wpAny (model X.prog X.w) X.A (call f us) (EP X pins σ R) X.xe s
theorem wc_call {f : Value} : CallR X f (WC X f) := fun pins s σ _ _ us _ I r h => h pins s σ us I r
theorem cd_of {f : Value} {r : List V → Hp → VK → Prop} {as : List Sl} (hc : CallR X f r) (h : ∀ vs W H, Ok (gOf X) W H → Args X.K W as vs → ∀ R, Cont X.K (gOf X) W H Q R → r vs H R) : CD X f as Q := fun vs W H ok ha R c pins s σ us I rv =>
  hc pins s σ H vs us R I rv (h vs W H ok ha R c)
theorem ed_callB {id : String} (hm : X.mg x = none) (h : AD X B S (e :: es) fun as => CD X (.builtin id) as Q) (hv : bootBuiltins x = some (.builtin id) := by first | rfl | decide +kernel) (hg : Gl X x := by rfl) (hn : x ≠ "__name__" := by decide) (hdb : (x == ("__debug__" : Str)) = false := by decide)
    (he : starEach (e :: es) X.env = (false, eval e X.env) :: starEach es X.env := by rfl) (hpl : (backTo pos (starEach es X.env)).any (·.1) = false := by rfl) : ED X B S (.Call (.Name x p) (e :: es) [] pos) Q := fun σ W H r R c => by
  refine PE.w (pe_callB wc_call hg hm hv wa_pa hn hdb he hpl) ?_
  refine h σ W H r _ fun as vs W1 H1 s1 ok1 n1 q1 => ?_
  exact q1 vs W1 H1 ok1 n1 R (c.step s1 ok1)
theorem ed_callTy {T : String} (hm : X.mg x = none) (h : AD X B S (e :: es) fun as => CD X (.type T) as Q) (hv : bootBuiltins x = some (.type T) := by first | rfl | decide +kernel) (hg : Gl X x := by rfl) (hn : x ≠ "__name__" := by decide) (hdb : (x == ("__debug__" : Str)) = false := by decide)
    (he : starEach (e :: es) X.env = (false, eval e X.env) :: starEach es X.env := by rfl) (hpl : (backTo pos (starEach es X.env)).any (·.1) = false := by rfl) : ED X B S (.Call (.Name x p) (e :: es) [] pos) Q := fun σ W H r R c => by
  refine PE.w (pe_callTy wc_call hg hm hv wa_pa hn hdb he hpl) ?_
  refine h σ W H r _ fun as vs W1 H1 s1 ok1 n1 q1 => ?_
  exact q1 vs W1 H1 ok1 n1 R (c.step s1 ok1)
/-- a built-in function that the module imported -/
theorem one_arg {K : PySem.W.Frag} {W : Wd} {d : D} {vs : List V} (h : Args K W [.val d] vs) : ∃ v, vs = [v] ∧ Dn K W.I d v := by
  cases h with
  | cons h r => cases r; exact ⟨_, rfl, h⟩
theorem two_args {K : PySem.W.Frag} {W : Wd} {d d' : D} {vs : List V} (h : Args K W [.val d, .val d'] vs) : ∃ v u, vs = [v, u] ∧ Dn K W.I d v ∧ Dn K W.I d' u := by
  cases h with
  | cons h r => cases r with
    | cons h' r' => cases r'; exact ⟨_, _, rfl, h, h'⟩
theorem cd_abs {i : Int} (q : Q (.int (if i < 0 then -i else i))) : CD X (.builtin "abs") [.val (.int i)] Q := cd_of call_abs fun vs W H ok ha R c => by
  obtain ⟨v, rfl, h⟩ := one_arg ha
  cases h
  exact ⟨i, rfl, c.now ok (.int _) q⟩
theorem cd_int {i : Int} (q : Q (.int i)) : CD X (.type "int") [.val (.int i)] Q := cd_of call_int1 fun vs W H ok ha R c => by
  obtain ⟨v, rfl, h⟩ := one_arg ha
  cases h
  exact .inl ⟨i, rfl, c.now ok (.int _) q⟩
theorem cd_max {i j : Int} (hc : X.calm = true) (q : Q (.int (if j > i then j else i))) : CD X (.builtin "max") [.val (.int i), .val (.int j)] Q := cd_of (call_max2 hc) fun vs W H ok ha R c => by
  obtain ⟨v, u, rfl, h, h'⟩ := two_args ha
  cases h; cases h'
  exact ⟨i, j, rfl, c.now ok (.int _) q⟩
theorem cd_divmod {i j : Int} (hj : CDiv i j) (q : Q (.tup [.int (i / j), .int (i % j)])) : CD X (.builtin "divmod") [.val (.int i), .val (.int j)] Q := cd_of call_divmod fun vs W H ok ha R c => by
  obtain ⟨v, u, rfl, h, h'⟩ := two_args ha
  cases h; cases h'
  refine ⟨i, j, rfl, hj, fun p hp => ?_⟩
  have st := Stp.new (o := .tup [.int (i / j), .int (i % j)]) ok hp
  exact c _ _ _ _ st (ok.new hp) (.tup (show upd W.I p _ p = _ from upd_same) (.cons (.int _) (.cons (.int _) .nil))) q
theorem cd_len {x : D} {l : List D} (hx : x = .lst l ∨ x = .tup l) (q : Q (.int (l.length : Int))) : CD X (.builtin "len") [.val x] Q := cd_of call_len_seq fun vs W H ok ha R c => by
  obtain ⟨v, rfl, h⟩ := one_arg ha
  rcases hx with rfl | rfl
  · cases h with
    | lst h z => exact ⟨_, _, rfl, .inl (SqL.of (ok.ex _ _ h)), by rw [← z.length]; exact c.now ok (.int _) q⟩
  · cases h with
    | tup h z => exact ⟨_, _, rfl, .inr (SqT.of (ok.ex _ _ h)), by rw [← z.length]; exact c.now ok (.int _) q⟩
theorem cd_lenF {l : List Int} (q : Q (.int (l.length : Int))) : CD X (.builtin "len") [.val (.frl l)] Q := cd_of call_len_seq fun vs W H ok ha R c => by
  obtain ⟨v, rfl, h⟩ := one_arg ha
  cases h with
  | frl h => exact ⟨_, _, rfl, .inl (ok.ex.l h), by rw [List.length_map]; exact c.now ok (.int _) q⟩
end
end DL

set_option Elab.async false
set_option linter.all false
set_option maxRecDepth 100000
set_option maxHeartbeats 2000000
namespace DL
open PySem L2

/-! ### statements -/
structure Ends' where
  nx : En → Prop
  rt : D → Prop
  bk : En → Prop := fun _ => False
  ct : En → Prop := fun _ => False
structure Sub (K : PySem.W.Frag) (g : List Code) (B : Hp) (W0 : Wd) (I : Hp) (E : Ends') (D' : Ends) : Prop where
  nx : ∀ S σ W H, Rep K g B S σ W H → Stp W0 B W H → Ex I W.I → E.nx S → D'.nx σ H
  rt : ∀ d v W H, Ok g W H → Stp W0 B W H → Ex I W.I → Dn K W.I d v → E.rt d → D'.rt v H
  bk : ∀ S σ W H, Rep K g B S σ W H → Stp W0 B W H → Ex I W.I → E.bk S → D'.bk σ H
  ct : ∀ S σ W H, Rep K g B S σ W H → Stp W0 B W H → Ex I W.I → E.ct S → D'.ct σ H
theorem Sub.mono {K : PySem.W.Frag} {g : List Code} {B : Hp} {W0 : Wd} {I I' : Hp} {E : Ends'} {D' : Ends} (k : Sub K g B W0 I E D') (e : Ex I I') : Sub K g B W0 I' E D' :=
  ⟨fun S σ W H r z x => k.nx S σ W H r z (e.trans x), fun d v W H r z x => k.rt d v W H r z (e.trans x), fun S σ W H r z x => k.bk S σ W H r z (e.trans x), fun S σ W H r z x => k.ct S σ W H r z (e.trans x)⟩
def WG (X : Cx) (tg : Expr) : TG := fun v σ H Q => ∀ pins s u, Inv X pins σ H s → RelV v u → wpAny (model X.prog X.w) X.A (assign tg X.env u) (fun _ s' => ∃ σ' H', Inv X pins σ' H' s' ∧ Q σ' H') X.xe s
def WGs (X : Cx) (ts : List Expr) : TGs := fun vs σ H Q => ∀ pins s us, Inv X pins σ H s → Vals vs us → wpAny (model X.prog X.w) X.A (assignInOrder ((assignEach ts X.env).map (·.2)) us) (fun _ s' => ∃ σ' H', Inv X pins σ' H' s' ∧ Q σ' H') X.xe s
theorem wg_pg {X : Cx} {tg : Expr} : PG X tg (WG X tg) := ⟨fun pins s _ _ _ u _ I r h => h pins s u I r⟩
theorem wgs_pgs {X : Cx} {ts : List Expr} : PGs X ts (WGs X ts) := ⟨fun pins s _ _ _ us _ I r h => h pins s us I r⟩
theorem PG.w {X : Cx} {tg : Expr} {t : TG} (h : PG X tg t) {v : V} {σ : L2.St} {H : Hp} {Q : L2.St → Hp → Prop} (q : t v σ H Q) : WG X tg v σ H Q := fun pins s u I r => h.run pins s σ H v u Q I r q
theorem PGs.w {X : Cx} {ts : List Expr} {t : TGs} (h : PGs X ts t) {vs : List V} {σ : L2.St} {H : Hp} {Q : L2.St → Hp → Prop} (q : t vs σ H Q) : WGs X ts vs σ H Q := fun pins s us I r => h.run pins s σ H vs us Q I r q
section
variable (X : Cx) (B : Hp) (W0 : Wd) (S : En)
def SD (st : Stmt) (E : Ends') : Prop := ∀ σ W H, Rep X.K (gOf X) B S σ W H → Stp W0 B W H → ∀ D', Sub X.K (gOf X) B W0 W.I E D' → WS X st D' σ H
def SDs (sts : List Stmt) (E : Ends') : Prop := ∀ σ W H, Rep X.K (gOf X) B S σ W H → Stp W0 B W H → ∀ D', Sub X.K (gOf X) B W0 W.I E D' → WSs X sts D' σ H
def ContG (K : PySem.W.Frag) (g : List Code) (I : Hp) (Q : En → Prop) (R : L2.St → Hp → Prop) : Prop := ∀ S σ W H, Rep K g B S σ W H → Stp W0 B W H → Ex I W.I → Q S → R σ H
def GD (tg : Expr) (d : D) (Q : En → Prop) : Prop := ∀ σ W H v, Rep X.K (gOf X) B S σ W H → Stp W0 B W H → Dn X.K W.I d v → ∀ R, ContG B W0 X.K (gOf X) W.I Q R → WG X tg v σ H R
def GDs (ts : List Expr) (ds : List D) (Q : En → Prop) : Prop := ∀ σ W H vs, Rep X.K (gOf X) B S σ W H → Stp W0 B W H → Dns X.K W.I ds vs → ∀ R, ContG B W0 X.K (gOf X) W.I Q R → WGs X ts vs σ H R
end
section
variable {X : Cx} {B : Hp} {W0 : Wd} {S : En} {st : Stmt} {sts : List Stmt} {E : Ends'} {pos : Pos} {e a b : Expr} {Q : En → Prop}

/-! targets -/
theorem gd_name {x : Str} {d : D} (i : Nat) (hN : X.N.Nodup) (hi : X.N[i]? = some x) (q : Q (S.set i (some (.val d)))) (hx : Loc X.env.scope x := by first | exact Or.inl rfl | exact Or.inr rfl)
    (hf : X.fn x = true ∨ X.env.scope.names.lookup x = some .local := by first | exact .inl rfl | exact .inr rfl) : GD X B W0 S (.Name x pos) d Q := fun σ W H v r z n R k =>
  PG.w (pg_name hN hi hx hf) (k _ _ W H (r.set n) z (Ex.refl _) q)
theorem gds_nil (q : Q S) : GDs X B W0 S [] [] Q := fun σ W H vs r z n R k => by
  cases n
  exact PGs.w pgs_nil ⟨rfl, k _ _ W H r z (Ex.refl _) q⟩
theorem gds_cons {tg : Expr} {ts : List Expr} {d : D} {ds : List D} (h : GD X B W0 S tg d fun S' => GDs X B W0 S' ts ds Q) (hs : (assignEach (tg :: ts) X.env).map (·.2) = assign tg X.env :: (assignEach ts X.env).map (·.2) := by rfl) : GDs X B W0 S (tg :: ts) (d :: ds) Q := fun σ W H vs r z n R k => by
  cases n with
  | @cons _ v _ xs n1 n2 =>
    refine PGs.w (pgs_cons wg_pg wgs_pgs hs) ⟨_, _, rfl, ?_⟩
    exact h σ W H v r z n1 _ fun S' σ' W' H' r' z' e' q' => q' σ' W' H' xs r' z' (n2.mono e') R fun S2 σ2 W2 H2 r2 z2 e2 q2 => k S2 σ2 W2 H2 r2 z2 (e'.trans e2) q2
theorem gd_tup {es : List Expr} {k0 : Nat} {ds : List D} {n : Nat} (hc : X.calm = true) (h : GDs X B W0 S es ds Q) (hl : ds.length = n) (hn : (assignEach es X.env).length = n := by rfl) (hst : (assignEach es X.env).findIdx? (·.1) = none := by rfl) : GD X B W0 S (.Tuple es k0 pos) (.tup ds) Q := fun σ W H v r z m R k => by
  cases m with
  | tup hp m => exact PG.w (pg_tup hc wgs_pgs hn hst) ⟨_, _, rfl, SqT.of (r.ok.ex _ _ hp), by rw [← m.length]; exact hl, h σ W H _ r z m R k⟩
/-- p[j] = an int, p a pot -/
theorem gd_pot {x : Str} {px : Pos} {j : Nat} {j2 pos2} {m : Int} (i : Nat) (hN : X.N[i]? = some x) (h : S[i]? = some (some .pot)) (hj : j < 2) (hm : j = 1 → 0 ≤ m ∧ m < 2 ^ 31) (q : Q S) (hv : Vis X.env.scope x := by first | exact Or.inl rfl | exact Or.inr (Or.inl rfl) | exact Or.inr (Or.inr rfl))
    (hd : (x == ("__debug__" : Str)) = false := by decide) (hcd : (x == ("__classdict__" : Str)) = false := by decide)
    (ha : ∀ v, assign (.Subscript (.Name x px) (.Constant (.int (j : Int)) j2 pos2) pos) X.env v = (do
      let ov ← holding [v] (eval (.Name x px) X.env)
      let iv ← holding [v, ov] (eval (.Constant (.int (j : Int)) j2 pos2) X.env)
      standAt pos
      holding [v, ov, iv] (setItem ov iv v)
      release [v, ov, iv] []) := by intro _; rfl) : GD X B W0 S (.Subscript (.Name x px) (.Constant (.int (j : Int)) j2 pos2) pos) (.int m) Q := fun σ W H v r z n R k => by
  cases n
  obtain ⟨v, e, p, ev, hp⟩ := r.sl i _ h
  subst ev
  obtain ⟨ni, y, w, hH, hbb⟩ := r.ok.pot p hp
  refine PG.w (pg_sub (pe_var hN hv hd hcd) pe_int set_list ha) ⟨_, e, p, _, (j : Int), j, rfl, rfl, hH, ?_, ?_⟩
  · match j, hj with
    | 0, _ => rfl
    | 1, _ => rfl
  · have ht : ∃ y' w', ([V.int y, V.int w].set j (.int m)) = [V.int y', V.int w'] ∧ 0 ≤ w' ∧ w' < 2 ^ 31 := by
      match j, hj with
      | 0, _ => exact ⟨m, w, rfl, hbb⟩
      | 1, _ => exact ⟨y, m, rfl, hm rfl⟩
    obtain ⟨y', w', et, hw'⟩ := ht
    rw [et]
    have pn : ∀ b o, H b = some o → ¬ W.P b → b ≠ p := fun b o _ n z => n (z ▸ hp)
    have ok : Ok (gOf X) W (upd H p (.lst [.int y', .int w'])) := {
      gd := fun b hb => by
        obtain ⟨n1, n2⟩ := r.ok.gd b hb
        refine ⟨n1, ?_⟩
        by_cases q : b = p
        · subst q
          rw [upd_same]
          exact ⟨(fun z => by cases z), (fun _ z => by cases z)⟩
        · rw [upd_ne q]
          exact n2
      ex := fun b o hb => by
        rw [upd_ne (fun z => by rw [z, ni] at hb; cases hb)]
        exact r.ok.ex b o hb
      pot := fun b hb => by
        obtain ⟨nb, y2, w2, h2⟩ := r.ok.pot b hb
        refine ⟨nb, ?_⟩
        by_cases q : b = p
        · subst q
          exact ⟨y', w', upd_same, hw'⟩
        · exact ⟨y2, w2, by rw [upd_ne q]; exact h2⟩ }
    have st : Stp W H W (upd H p (.lst [.int y', .int w'])) := ⟨Ex.refl _, fun _ h => h, fun b o hb n => by rw [upd_ne (pn b o hb n)]; exact hb, fun _ _ _ _ h => h, fun _ _ _ h => h⟩
    exact k S σ W _ (r.step st ok) (z.trans r.ok st) (Ex.refl _) q

/-! blocks -/
theorem sds_nil (q : E.nx S) : SDs X B W0 S [] E := fun σ W H r z D' k => PSs.w pss_nil (k.nx S σ W H r z (Ex.refl _) q)
theorem sds_cons (h : SD X B W0 S st { E with nx := fun S' => SDs X B W0 S' sts E }) : SDs X B W0 S (st :: sts) E := fun σ W H r z D' k => by
  refine PSs.w (pss_cons ws_ps wss_pss) ?_
  exact h σ W H r z _ ⟨fun S' σ' W' H' r' z' x' q => q σ' W' H' r' z' D' (k.mono x'), k.rt, k.bk, k.ct⟩
theorem sd_ret (h : ED X B S e E.rt) : SD X B W0 S (.Return (some e) pos) E := fun σ W H r z D' k => PS.w (ps_ret we_pe) (h σ W H r _ fun d v W1 H1 s1 ok1 n1 q1 => k.rt d v W1 H1 ok1 (z.trans r.ok s1) s1.I n1 q1)
theorem sd_expr (h : ED X B S e fun _ => E.nx S) (hs : swapsWith e none pos.line X.env = pure false := by rfl) : SD X B W0 S (.Expr e pos) E := fun σ W H r z D' k =>
  PS.w (ps_expr we_pe hs) (h σ W H r _ fun d v W1 H1 s1 ok1 n1 q1 => k.nx S σ W1 H1 (r.step s1 ok1) (z.trans r.ok s1) s1.I q1)
theorem sd_if {c : Expr} {x y : List Stmt} (h : TD X B S c fun t => if t = true then SDs X B W0 S x E else SDs X B W0 S y E) : SD X B W0 S (.If c x y pos) E := fun σ W H r z D' k => by
  refine PS.w (ps_if wt_pt wss_pss wss_pss) ?_
  refine h σ W H r _ fun t W1 H1 s1 ok1 q1 => ?_
  cases t with
  | true => exact iteT ((show SDs X B W0 S x E by simpa using q1) σ W1 H1 (r.step s1 ok1) (z.trans r.ok s1) D' (k.mono s1.I))
  | false => exact iteF ((show SDs X B W0 S y E by simpa using q1) σ W1 H1 (r.step s1 ok1) (z.trans r.ok s1) D' (k.mono s1.I))
theorem sd_set {x : Str} {pos' : Pos} (i : Nat) (hN : X.N.Nodup) (hi : X.N[i]? = some x) (h : ED X B S e fun d => E.nx (S.set i (some (.val d)))) (hx : Loc X.env.scope x := by first | exact Or.inl rfl | exact Or.inr rfl)
    (hs : swapsWith e (some (.Name x pos')) pos.line X.env = pure false := by rfl) (hf : X.fn x = true ∨ X.env.scope.names.lookup x = some .local := by first | exact .inl rfl | exact .inr rfl) : SD X B W0 S (.Assign [.Name x pos'] e pos) E := fun σ W H r z D' k =>
  PS.w (ps_set hN hi hx we_pe hs hf) (h σ W H r _ fun d v W1 H1 s1 ok1 n1 q1 => k.nx _ _ W1 H1 ((r.step s1 ok1).set n1) (z.trans r.ok s1) s1.I q1)
theorem sd_asg {tg : Expr} (h : ED X B S e fun d => GD X B W0 S tg d E.nx) (hs : swapsWithSole [tg] e pos.line X.env = pure false := by rfl) (hw : swappedStores [tg] e X.env = pure none := by rfl)
    (h1 : (assignEach [tg] X.env).map (·.2) = [assign tg X.env] := by rfl) : SD X B W0 S (.Assign [tg] e pos) E := fun σ W H r z D' k =>
  PS.w (ps_asg we_pe wg_pg hs hw h1) (h σ W H r _ fun d v W1 H1 s1 ok1 n1 q1 => q1 σ W1 H1 v (r.step s1 ok1) (z.trans r.ok s1) n1 _ fun S2 σ2 W2 H2 r2 z2 e2 q2 => k.nx S2 σ2 W2 H2 r2 z2 (s1.I.trans e2) q2)
theorem sd_par {x y : Str} {px py pt : Pos} {kt k2 pt2} (i j : Nat) (hc : X.calm = true) (hN : X.N.Nodup) (hi : X.N[i]? = some x) (hj : X.N[j]? = some y) (hij : i ≠ j)
    (hx : X.env.scope.names.lookup x = some .local) (hy : X.env.scope.names.lookup y = some .local) (h : AD X B S [a, b] fun as => ∃ d d', as = [.val d, .val d'] ∧ E.nx ((S.set i (some (.val d))).set j (some (.val d'))))
    (hps : PS X (.Assign [.Tuple [.Name x px, .Name y py] kt pt] (.Tuple [a, b] k2 pt2) pos) (tPar i j (WA X [a, b])) := by exact ps_par rfl (by assumption) rfl rfl (by decide) rfl rfl DL.wa_pa (by rfl)) :
    SD X B W0 S (.Assign [.Tuple [.Name x px, .Name y py] kt pt] (.Tuple [a, b] k2 pt2) pos) E := fun σ W H r z D' k => by
  refine PS.w hps ?_
  refine h σ W H r _ fun as vs W1 H1 s1 ok1 n1 q1 => ?_
  obtain ⟨d, d', rfl, q1⟩ := q1
  obtain ⟨v, u, rfl, m, m'⟩ := two_args n1
  exact ⟨v, u, rfl, k.nx _ _ W1 H1 (((r.step s1 ok1).set m).set m') (z.trans r.ok s1) s1.I q1⟩
/-! loops -/
theorem sd_forL {tg iter : Expr} {body : List Stmt} {l : List D} (hp : PassesOwn (model X.prog X.w) X.A X.env X.xe) (hc : X.calm = true) (Inv : Nat → En → Prop) (h : ED X B S iter fun d => (d = .lst l) ∧ Inv 0 S)
    (hs : ∀ (i : Nat) d S', l[i]? = some d → Inv i S' → GD X B W0 S' tg d fun S2 => SDs X B W0 S2 body { nx := Inv (i + 1), rt := E.rt, bk := E.nx, ct := Inv (i + 1) })
    (hd : ∀ S', Inv l.length S' → E.nx S') (hf : ∀ x, foldedSetIterable iter X.env x = pure x := by intro _; rfl) : SD X B W0 S (.For tg iter body [] pos) E := fun σ W H r z D' k => by
  refine PS.w (ps_for hp hc (pi_list we_pe) wg_pg wss_pss hf) ?_
  refine h σ W H r _ fun d v W1 H1 s1 ok1 n1 q1 => ?_
  obtain ⟨rfl, i0⟩ := q1
  cases n1 with
  | @lst _ a xs ha m =>
    refine ⟨a, rfl, ⟨xs, SqL.of (ok1.ex _ _ ha)⟩, for_list (K := X.K) (a := a) (xs := xs) (fun i σ' H' => ∃ S' W', Rep X.K (gOf X) B S' σ' W' H' ∧ Stp W0 B W' H' ∧ Ex W1.I W'.I ∧ Inv i S') ⟨S, W1, r.step s1 ok1, z.trans r.ok s1, Ex.refl _, i0⟩
      (fun i σ' H' _ ⟨S', W', r', _, e', _⟩ => SqL.of (r'.ok.ex _ _ (e' _ _ ha))) ?_ ?_⟩
    · rintro i x σ' H' hx ⟨S', W', r', z', e', i'⟩
      obtain ⟨d, hd', nd⟩ := m.get hx
      refine hs i d S' hd' i' σ' W' H' x r' z' (nd.mono e') _ fun S2 σ2 W2 H2 r2 z2 e2 q2 => ?_
      exact q2 σ2 W2 H2 r2 z2 _ ⟨fun S3 σ3 W3 H3 r3 z3 e3 q3 => ⟨S3, W3, r3, z3, (e'.trans e2).trans e3, q3⟩, fun d3 v3 W3 H3 r3 z3 e3 n3 q3 => k.rt d3 v3 W3 H3 r3 z3 (((s1.I.trans e').trans e2).trans e3) n3 q3,
        fun S3 σ3 W3 H3 r3 z3 e3 q3 => k.nx S3 σ3 W3 H3 r3 z3 (((s1.I.trans e').trans e2).trans e3) q3, fun S3 σ3 W3 H3 r3 z3 e3 q3 => ⟨S3, W3, r3, z3, (e'.trans e2).trans e3, q3⟩⟩
    · rintro σ' H' ⟨S', W', r', z', e', i'⟩
      rw [← m.length] at i'
      exact k.nx S' σ' W' H' r' z' (s1.I.trans e') (hd S' i')
theorem sd_forT {tg iter : Expr} {body : List Stmt} {l : List D} (hp : PassesOwn (model X.prog X.w) X.A X.env X.xe) (hc : X.calm = true) (Inv : Nat → En → Prop) (h : ED X B S iter fun d => (d = .tup l) ∧ Inv 0 S)
    (hs : ∀ (i : Nat) d S', l[i]? = some d → Inv i S' → GD X B W0 S' tg d fun S2 => SDs X B W0 S2 body { nx := Inv (i + 1), rt := E.rt, bk := E.nx, ct := Inv (i + 1) })
    (hd : ∀ S', Inv l.length S' → E.nx S') (hf : ∀ x, foldedSetIterable iter X.env x = pure x := by intro _; rfl) : SD X B W0 S (.For tg iter body [] pos) E := fun σ W H r z D' k => by
  refine PS.w (ps_for hp hc (pi_tup we_pe) wg_pg wss_pss hf) ?_
  refine h σ W H r _ fun d v W1 H1 s1 ok1 n1 q1 => ?_
  obtain ⟨rfl, i0⟩ := q1
  cases n1 with
  | @tup _ a xs ha m =>
    refine ⟨a, rfl, ⟨xs, SqT.of (ok1.ex _ _ ha)⟩, for_tup (K := X.K) (a := a) (xs := xs) (fun i σ' H' => ∃ S' W', Rep X.K (gOf X) B S' σ' W' H' ∧ Stp W0 B W' H' ∧ Ex W1.I W'.I ∧ Inv i S') ⟨S, W1, r.step s1 ok1, z.trans r.ok s1, Ex.refl _, i0⟩
      (fun i σ' H' _ ⟨S', W', r', _, e', _⟩ => SqT.of (r'.ok.ex _ _ (e' _ _ ha))) ?_ ?_⟩
    · rintro i x σ' H' hx ⟨S', W', r', z', e', i'⟩
      obtain ⟨d, hd', nd⟩ := m.get hx
      refine hs i d S' hd' i' σ' W' H' x r' z' (nd.mono e') _ fun S2 σ2 W2 H2 r2 z2 e2 q2 => ?_
      exact q2 σ2 W2 H2 r2 z2 _ ⟨fun S3 σ3 W3 H3 r3 z3 e3 q3 => ⟨S3, W3, r3, z3, (e'.trans e2).trans e3, q3⟩, fun d3 v3 W3 H3 r3 z3 e3 n3 q3 => k.rt d3 v3 W3 H3 r3 z3 (((s1.I.trans e').trans e2).trans e3) n3 q3,
        fun S3 σ3 W3 H3 r3 z3 e3 q3 => k.nx S3 σ3 W3 H3 r3 z3 (((s1.I.trans e').trans e2).trans e3) q3, fun S3 σ3 W3 H3 r3 z3 e3 q3 => ⟨S3, W3, r3, z3, (e'.trans e2).trans e3, q3⟩⟩
    · rintro σ' H' ⟨S', W', r', z', e', i'⟩
      rw [← m.length] at i'
      exact k.nx S' σ' W' H' r' z' (s1.I.trans e') (hd S' i')
theorem sd_while {c : Expr} {body : List Stmt} (hp : PassesOwn (model X.prog X.w) X.A X.env X.xe) (Inv : Nat → En → Prop) (m0 : Nat) (h0 : Inv m0 S)
    (hs : ∀ m S', Inv m S' → TD X B S' c fun t => if t = true then SDs X B W0 S' body { nx := fun S2 => ∃ m', m' < m ∧ Inv m' S2, rt := E.rt, bk := E.nx, ct := fun S2 => ∃ m', m' < m ∧ Inv m' S2 } else E.nx S') :
    SD X B W0 S (.While c body [] pos) E := fun σ W H r z D' k => by
  refine PS.w (ps_while hp wt_pt wss_pss) ⟨fun m σ' H' => ∃ S' W', Rep X.K (gOf X) B S' σ' W' H' ∧ Stp W0 B W' H' ∧ Ex W.I W'.I ∧ Inv m S', ⟨m0, S, W, r, z, Ex.refl _, h0⟩, ?_⟩
  rintro m σ1 H1 ⟨S1, W1, r1, z1, e1, i1⟩
  refine hs m S1 i1 σ1 W1 H1 r1 _ fun t W2 H2 s2 ok2 q2 => ?_
  cases t with
  | false => exact iteF (k.nx S1 σ1 W2 H2 (r1.step s2 ok2) (z1.trans r1.ok s2) (e1.trans s2.I) (by simpa using q2))
  | true =>
    have q2 : SDs X B W0 S1 body { nx := fun S2 => ∃ m', m' < m ∧ Inv m' S2, rt := E.rt, bk := E.nx, ct := fun S2 => ∃ m', m' < m ∧ Inv m' S2 } := by simpa using q2
    refine iteT ⟨fun σ' H' => ∃ m', m' < m ∧ ∃ S' W', Rep X.K (gOf X) B S' σ' W' H' ∧ Stp W0 B W' H' ∧ Ex W.I W'.I ∧ Inv m' S', fun σ' H' h => h, ?_⟩
    exact q2 σ1 W2 H2 (r1.step s2 ok2) (z1.trans r1.ok s2) _ ⟨fun S3 σ3 W3 H3 r3 z3 e3 ⟨m', hm, q3⟩ => ⟨m', hm, S3, W3, r3, z3, (e1.trans s2.I).trans e3, q3⟩, fun d3 v3 W3 H3 r3 z3 e3 n3 q3 => k.rt d3 v3 W3 H3 r3 z3 ((e1.trans s2.I).trans e3) n3 q3,
      fun S3 σ3 W3 H3 r3 z3 e3 q3 => k.nx S3 σ3 W3 H3 r3 z3 ((e1.trans s2.I).trans e3) q3, fun S3 σ3 W3 H3 r3 z3 e3 ⟨m', hm, q3⟩ => ⟨m', hm, S3, W3, r3, z3, (e1.trans s2.I).trans e3, q3⟩⟩
end

/-! ### a def by its body -/
def startE (N : List Str) (as : List Sl) : En := as.map some ++ List.replicate (N.length - as.length) none
theorem start_noT {K : PySem.W.Frag} {W : Wd} {N : List Str} {as : List Sl} {vs : List V} (h : Args K W as vs) (i : Nat) (l : List (List Key × D)) : (startE N as)[i]? ≠ some (some (.ownT l)) := by
  have key : ∀ {as : List Sl} {vs : List V} {n : Nat} {i : Nat}, Args K W as vs → (as.map some ++ List.replicate n none)[i]? = some (some (Sl.ownT l)) → False := by
    intro as vs n i h
    induction h generalizing i with
    | nil =>
      intro e
      simp only [List.map_nil, List.nil_append, List.getElem?_replicate] at e
      split at e <;> cases e
    | @cons a v as vs h1 _ ih =>
      intro e
      cases i with
      | zero =>
        simp only [List.map_cons, List.cons_append, List.getElem?_cons_zero, Option.some.injEq] at e
        subst e
        exact h1
      | succ i =>
        simp only [List.map_cons, List.cons_append, List.getElem?_cons_succ] at e
        exact ih e
  exact fun e => key h e
theorem rep_start {K : PySem.W.Frag} {g : List Code} {W : Wd} {H : Hp} {N : List Str} {as : List Sl} {vs : List V} (ok : Ok g W H) (h : Args K W as vs) : Rep K g H (startE N as) (L2.start N vs) W H := by
  have hl := Paired.length h
  refine ⟨ok, fun b hb => (ok.gd b hb).2.1, by unfold startE L2.start; simp [hl], fun i s e => ?_, fun i j l m p _ e => ?_, fun i j l m p _ e => absurd e (start_noT h i l)⟩
  · have key : ∀ {as : List Sl} {vs : List V} {n : Nat} {i : Nat} {s : Sl}, Args K W as vs → (as.map some ++ List.replicate n none)[i]? = some (some s) → ∃ v, (vs.map some ++ List.replicate n none)[i]? = some (some v) ∧ Arg K W s v := by
      intro as vs n i s h
      induction h generalizing i with
      | nil =>
        intro e
        simp only [List.map_nil, List.nil_append, List.getElem?_replicate] at e
        split at e <;> cases e
      | @cons a v as vs h1 _ ih =>
        intro e
        cases i with
        | zero =>
          simp only [List.map_cons, List.cons_append, List.getElem?_cons_zero, Option.some.injEq] at e
          subst e
          exact ⟨v, rfl, h1⟩
        | succ i =>
          simp only [List.map_cons, List.cons_append, List.getElem?_cons_succ] at e ⊢
          exact ih e
    unfold startE at e
    rw [show N.length - as.length = N.length - vs.length by rw [hl]] at e
    obtain ⟨v, e1, a1⟩ := key h e
    refine ⟨v, e1, ?_⟩
    cases s with
    | val d => exact a1
    | pot => exact a1
    | own l => exact a1.elim
    | inst _ _ _ _ => exact a1.elim
    | ownT _ => exact a1.elim
  · exfalso
    have key : ∀ {as : List Sl} {vs : List V} {n : Nat} {i : Nat}, Args K W as vs → (as.map some ++ List.replicate n none)[i]? = some (some (.own l)) → False := by
      intro as vs n i h
      induction h generalizing i with
      | nil =>
        intro e
        simp only [List.map_nil, List.nil_append, List.getElem?_replicate] at e
        split at e <;> cases e
      | @cons a v as vs h1 _ ih =>
        intro e
        cases i with
        | zero =>
          simp only [List.map_cons, List.cons_append, List.getElem?_cons_zero, Option.some.injEq] at e
          subst e
          exact h1
        | succ i =>
          simp only [List.map_cons, List.cons_append, List.getElem?_cons_succ] at e
          exact ih e
    exact key h e
section
variable {P : Program} {w : World} {K : PySem.W.Frag} {mg : Str → Option Value} {base : Heap}
theorem gOf_bx {N : List Str} {qual : Str} {st : Stmt} {f : Addr} {cdv : Value} {A : Around} {outer : List Env} {s : Shared} {H : Hp} {g : List Code} (h : A.guards = some g) : (Bx P w K mg base N qual st f cdv A outer s H).A.guards = some g ∧ gOf (Bx P w K mg base N qual st f cdv A outer s H) = g :=
  have e : (Bx P w K mg base N qual st f cdv A outer s H).A.guards = some g := deeper_guards h
  ⟨e, by unfold gOf; rw [e]; rfl⟩
theorem gn_dl {x qual : Str} {st : Stmt} {f : Addr} {fd : FuncData} {N ps : List Str} {k : Nat} {sp : SpD} (F : FunS K x qual st f fd) (hS : FnScope N ps (defScope st)) (len : ∀ as Q, sp as Q → as.length = ps.length)
    (body : ∀ cdv A outer s H, Room k (A.deeper (PyProof.Rows.envOfC qual (defScope st) s.heap.objs.size f cdv)) → (Bx P w K mg base N qual st f cdv A outer s H).A.guards = some (gOf (Bx P w K mg base N qual st f cdv A outer s H)) → ∀ W as Q, sp as Q → SDs (Bx P w K mg base N qual st f cdv A outer s H) H W (startE N as) (defBody st) { nx := fun _ => Q .non, rt := Q }) :
    GnOk P w K mg base (k + 1) f fd ps (lift K sp) := by
  refine gn_of F hS (fun g vs H Q h => ?_) (fun cdv A outer s H g vs R hr hG h => ?_)
  · obtain ⟨as, W, Qd, _, ha, hsp, _⟩ := h
    rw [← len _ _ hsp]
    exact (Paired.length ha).symm
  · obtain ⟨as, W, Qd, ok, ha, hsp, c⟩ := h
    obtain ⟨e1, e2⟩ := gOf_bx (P := P) (w := w) (K := K) (mg := mg) (base := base) (N := N) (qual := qual) (st := st) (f := f) (cdv := cdv) (outer := outer) (s := s) (H := H) hG
    refine ⟨WSs _ (defBody st), wss_pss, ?_⟩
    have bd := body cdv A outer s H hr (by rw [e2]; exact e1) W as Qd hsp
    refine bd (L2.start N vs) W H (by rw [e2]; exact rep_start ok ha) Stp.refl _ ?_
    rw [e2]
    exact ⟨fun S σ W' H' r z _ q => c .non .non W' H' z r.ok .non q, fun d v W' H' ok' z _ n q => c d v W' H' z ok' n q, fun _ _ _ _ _ _ _ q => q.elim, fun _ _ _ _ _ _ _ q => q.elim⟩
theorem df_of {x qual : Str} {st : Stmt} {f : Addr} {fd : FuncData} {ps : List Str} {k n : Nat} {sp : SpD} (F : FunS K x qual st f fd) (h : GnOk P w K mg base k f fd ps (lift K sp)) (hm : mg x = some (.ref f)) (hb : Binds K fd ps []) (hn : ps.length = n) : Df P w K mg base x k n sp :=
  ⟨f, fd, ps, h, hm, F.kp, hb, hn⟩
end
end DL

set_option Elab.async false
set_option linter.all false
set_option maxRecDepth 100000
set_option maxHeartbeats 2000000
namespace DL
open PySem L2

/-! ### lists that one name owns -/
theorem Ok.frz {g : List Code} {W : Wd} {H : Hp} {p : Addr} {o : HO} (ok : Ok g W H) (hp : H p = some o) (n : ¬ W.P p) (ng : ¬ InG g p) : Ok g (W.new p o) H where
  gd := fun b hb => by
    obtain ⟨n1, n2⟩ := ok.gd b hb
    refine ⟨?_, n2⟩
    show upd W.I p o b = none
    have ne : b ≠ p := fun z => ng (z ▸ hb)
    rw [upd_ne ne]
    exact n1
  ex := fun a u e => by
    have e' : upd W.I p o a = some u := e
    by_cases q : a = p
    · subst q
      rw [upd_same] at e'
      cases e'
      exact hp
    · rw [upd_ne q] at e'
      exact ok.ex a u e'
  pot := fun a pa => by
    obtain ⟨h, x⟩ := ok.pot a pa
    refine ⟨?_, x⟩
    show upd W.I p o a = none
    have ne : a ≠ p := fun z => n (z ▸ pa)
    rw [upd_ne ne]
    exact h
theorem Stp.frz {W W1 : Wd} {H H1 : Hp} {p : Addr} {o : HO} (a : Stp W H W1 H1) (hp : H p = none) (i : W1.I p = none) : Stp W H (W1.new p o) H1 where
  I := a.I.trans (Ex.new i)
  P := a.P
  keep := a.keep
  old := fun b u e t n => by
    show upd W1.I p o b = none
    rw [upd_ne (ne_of_none e hp)]
    exact a.old b u e t n
  oldP := a.oldP
/-- a new list, not yet part of what never changes -/
def ContF (K : PySem.W.Frag) (g : List Code) (W : Wd) (H : Hp) (Q : List D → Prop) (R : VK) : Prop := ∀ l p xs W' H', Stp W H W' H' → Ok g W' H' → H p = none → ¬ W'.P p → W'.I p = none → H' p = some (.lst xs) → Dns K W'.I l xs → Q l → R (.ref p) H'
def FD (X : Cx) (B : Hp) (S : En) (e : Expr) (Q : List D → Prop) : Prop := ∀ σ W H, Rep X.K (gOf X) B S σ W H → ∀ R, ContF X.K (gOf X) W H Q R → WE X e σ H R
/-- a tuple or a name: how an item comes to the names of a comprehension -/
def wipeE (S : En) : List Nat → En
  | [] => S
  | v :: vs => (wipeE S vs).set v none
theorem wipeE_some {S : En} {i : Nat} {x : Sl} : ∀ {vs : List Nat}, (wipeE S vs)[i]? = some (some x) → S[i]? = some (some x) ∧ i ∉ vs
  | [], h => ⟨h, by simp⟩
  | v :: vs, h => by
    unfold wipeE at h
    by_cases hi : v = i
    · subst hi
      by_cases hv : v < (wipeE S vs).length
      · rw [List.getElem?_set_self hv] at h; cases h
      · rw [List.getElem?_eq_none (by simpa using hv)] at h; cases h
    · rw [List.getElem?_set_ne hi] at h
      obtain ⟨h1, h2⟩ := wipeE_some h
      exact ⟨h1, by simp only [List.mem_cons, not_or]; exact ⟨fun e => hi e.symm, h2⟩⟩
theorem wipeE_length (S : En) : ∀ vs : List Nat, (wipeE S vs).length = S.length
  | [] => rfl
  | v :: vs => by unfold wipeE; rw [List.length_set, wipeE_length S vs]
theorem wipe_keep {σ : L2.St} {i : Nat} {x : V} : ∀ {vs : List Nat}, i ∉ vs → σ[i]? = some (some x) → (wipe σ vs)[i]? = some (some x)
  | [], _, h => h
  | v :: vs, hi, h => by
    unfold wipe
    simp only [List.mem_cons, not_or] at hi
    rw [List.getElem?_set_ne (fun e => hi.1 e.symm)]
    exact wipe_keep hi.2 h
theorem Rep.wipe {K : PySem.W.Frag} {g : List Code} {B : Hp} {S : En} {σ : L2.St} {W : Wd} {H : Hp} (r : Rep K g B S σ W H) (vs : List Nat) : Rep K g B (wipeE S vs) (L2.wipe σ vs) W H where
  ok := r.ok
  gb := r.gb
  len := by rw [wipeE_length, wipe_length]; exact r.len
  sl := fun i s e => by
    obtain ⟨e1, hi⟩ := wipeE_some e
    obtain ⟨v, e2, h⟩ := r.sl i s e1
    exact ⟨v, wipe_keep hi e2, h⟩
  dist := fun i j l m p n e1 e2 e3 => by
    obtain ⟨e1', _⟩ := wipeE_some e1
    obtain ⟨e2', hj⟩ := wipeE_some e2
    obtain ⟨e3', _⟩ := wipe_some e3
    intro e4
    obtain ⟨e4', _⟩ := wipe_some e4
    exact r.dist i j l m p n e1' e2' e3' e4'
  distT := fun i j l m p n e1 e2 e3 => by
    obtain ⟨e1', _⟩ := wipeE_some e1
    obtain ⟨e2', hj⟩ := wipeE_some e2
    obtain ⟨e3', _⟩ := wipe_some e3
    intro e4
    obtain ⟨e4', _⟩ := wipe_some e4
    exact r.distT i j l m p n e1' e2' e3' e4'
theorem wipe_set {σ : L2.St} {j : Nat} {x : Option V} : ∀ {vs : List Nat}, j ∈ vs → L2.wipe (σ.set j x) vs = L2.wipe σ vs
  | v :: vs, h => by
    unfold L2.wipe
    by_cases hv : j ∈ vs
    · rw [wipe_set hv]
    · have e : v = j := by
        rcases List.mem_cons.mp h with z | z
        · exact z.symm
        · exact absurd z hv
      subst e
      have key : ∀ ws : List Nat, v ∉ ws → L2.wipe (σ.set v x) ws = (L2.wipe σ ws).set v x := by
        intro ws
        induction ws with
        | nil => intro _; rfl
        | cons a ws ih =>
          intro hn
          simp only [List.mem_cons, not_or] at hn
          unfold L2.wipe
          rw [ih hn.2, List.set_comm _ _ (fun e => hn.1 e)]
      rw [key vs hv, List.set_set]
theorem wipe_wipe {σ : L2.St} {vs : List Nat} : L2.wipe (L2.wipe σ vs) vs = L2.wipe σ vs := by
  have key : ∀ ws : List Nat, (∀ w ∈ ws, w ∈ vs) → L2.wipe (L2.wipe σ ws) vs = L2.wipe σ vs := by
    intro ws
    induction ws with
    | nil => intro _; rfl
    | cons a ws ih =>
      intro h
      show L2.wipe ((L2.wipe σ ws).set a none) vs = _
      rw [wipe_set (h a List.mem_cons_self)]
      exact ih fun w hw => h w (List.mem_cons_of_mem _ hw)
  exact key vs fun _ h => h
/-- how the item d comes to the names in the slots vs: what the block then knows -/
def Pat (K : PySem.W.Frag) (g : TG) (vs : List Nat) (S : En) (d : D) (S' : En) : Prop := ∀ gs B σ W H v, Rep K gs B S σ W H → Dn K W.I d v → ∀ Q : L2.St → Hp → Prop, (∀ σ2, L2.wipe σ2 vs = L2.wipe σ vs → Rep K gs B S' σ2 W H → Q σ2 H) → g v (L2.wipe σ vs) H Q
theorem pat_name {K : PySem.W.Frag} {S : En} {d : D} {vs : List Nat} (j : Nat) (hj : j ∈ vs) : Pat K (gName j) vs S d ((wipeE S vs).set j (some (.val d))) := fun _ B σ W H v r n Q k =>
  k _ (by rw [wipe_set hj, wipe_wipe]) ((r.wipe vs).set n)
theorem pat_two {K : PySem.W.Frag} {S : En} {d d' : D} {vs : List Nat} (i j : Nat) (hi : i ∈ vs) (hj : j ∈ vs) : Pat K (gTup K 2 (gCons (gName i) (gCons (gName j) gNil))) vs S (.tup [d, d']) (((wipeE S vs).set i (some (.val d))).set j (some (.val d'))) := fun _ B σ W H v r n Q k => by
  cases n with
  | tup hp m =>
    cases m with
    | cons n1 m => cases m with
      | cons n2 m =>
        cases m
        exact ⟨_, _, rfl, SqT.of (r.ok.ex _ _ hp), rfl, _, _, rfl, _, _, rfl, rfl, k _ (by rw [wipe_set hj, wipe_set hi, wipe_wipe]) (((r.wipe vs).set n1).set n2)⟩
section
variable {X : Cx} {B : Hp} {W0 : Wd} {S : En} {e a b : Expr} {es : List Expr} {pos : Pos} {E : Ends'}
theorem ed_fd {Q : D → Prop} (h : FD X B S e fun l => Q (.lst l)) : ED X B S e Q := fun σ W H r R k => by
  refine h σ W H r R fun l p xs W' H' st ok hp n i hl d q => ?_
  exact k (.lst l) (.ref p) _ H' (st.frz hp i) (ok.frz hl n fun z => (r.ok.gd _ z).2.1 hp) (.lst (show upd W'.I p _ p = _ from upd_same) (d.mono (Ex.new i))) q
theorem fd_lst {Q : List D → Prop} (h : AD X B S es fun as => ∃ ds, as = ds.map Sl.val ∧ ds.length ≤ 100000 ∧ Q ds) : FD X B S (.List es pos) Q := fun σ W H r R k => by
  refine PE.w (pe_lst wa_pa) ?_
  refine h σ W H r _ fun as vs W1 H1 s1 ok1 n1 q1 => ?_
  obtain ⟨ds, rfl, hl, q1⟩ := q1
  have n := n1.vals
  refine ⟨Nat.le_trans (n.length ▸ hl) (by decide), fun p hp => ?_⟩
  exact k ds p vs W1 _ (s1.trans ok1 (Stp.own hp)) (ok1.own hp) (s1.free ok1 hp) (ok1.notP hp) (ok1.free hp) upd_same n q1
/-- x = a new list, which x owns -/
theorem Rep.setOwn {K : PySem.W.Frag} {g : List Code} {σ : L2.St} {W : Wd} {H : Hp} {i : Nat} {l : List D} {p : Addr} {xs : List V} (r : Rep K g B S σ W H) (hB : B p = none) (n : ¬ W.P p) (hi : W.I p = none) (hp : H p = some (.lst xs)) (d : Dns K W.I l xs)
    (new : ∀ (j : Nat) (m : List D), S[j]? = some (some (.own m)) → σ[j]? ≠ some (some (.ref p))) : Rep K g B (S.set i (some (.own l))) (σ.set i (some (.ref p))) W H where
  ok := r.ok
  gb := r.gb
  len := by simpa using r.len
  sl := fun j s e => by
    by_cases q : i = j
    · subst q
      by_cases z : i < S.length
      · rw [List.getElem?_set_self z] at e
        cases e
        exact ⟨_, List.getElem?_set_self (r.len ▸ z), p, xs, rfl, hB, n, hi, hp, d⟩
      · rw [List.getElem?_eq_none (by simpa using z)] at e
        cases e
    · rw [List.getElem?_set_ne q] at e ⊢
      exact r.sl j s e
  dist := fun a b la lb q ne e1 e2 e3 => by
    by_cases qa : i = a
    · subst qa
      have lt : i < σ.length := by
        rcases Nat.lt_or_ge i σ.length with z | z
        · exact z
        · rw [List.getElem?_eq_none (by simpa using z)] at e3; cases e3
      rw [List.getElem?_set_self lt] at e3
      cases e3
      rw [List.getElem?_set_ne ne] at e2 ⊢
      exact new b lb e2
    · rw [List.getElem?_set_ne qa] at e1 e3
      by_cases qb : i = b
      · subst qb
        intro e4
        have lt : i < σ.length := by
          rcases Nat.lt_or_ge i σ.length with z | z
          · exact z
          · rw [List.getElem?_eq_none (by simpa using z)] at e4; cases e4
        rw [List.getElem?_set_self lt] at e4
        cases e4
        exact new a la e1 e3
      · rw [List.getElem?_set_ne qb] at e2 ⊢
        exact r.dist a b la lb q ne e1 e2 e3
  distT := r.distT.set i fun l z => by cases z
theorem sd_own {x : Str} {pos' : Pos} (i : Nat) (hN : X.N.Nodup) (hi : X.N[i]? = some x) (h : FD X B S e fun l => E.nx (S.set i (some (.own l)))) (hx : Loc X.env.scope x := by first | exact Or.inl rfl | exact Or.inr rfl)
    (hs : swapsWith e (some (.Name x pos')) pos.line X.env = pure false := by rfl) (hf : X.fn x = true ∨ X.env.scope.names.lookup x = some .local := by first | exact .inl rfl | exact .inr rfl) : SD X B W0 S (.Assign [.Name x pos'] e pos) E := fun σ W H r z D' k =>
  PS.w (ps_set hN hi hx we_pe hs hf) (h σ W H r _ fun l p xs W1 H1 s1 ok1 hp n i1 hl d q1 => k.nx _ _ W1 H1 ((r.step s1 ok1).setOwn (z.free r.ok hp) n i1 hl d fun j m e1 e2 => by
    obtain ⟨v, e3, p2, ys, e4, _, _, _, h4, _⟩ := r.sl j _ e1
    rw [e2] at e3
    cases e3
    cases e4
    rw [hp] at h4
    cases h4) (z.trans r.ok s1) s1.I q1)
/-- x.append(e), x the owner of its list -/
theorem sd_append {x : Str} {px apos cpos : Pos} (i : Nat) (l : List D) (hN : X.N[i]? = some x) (h : S[i]? = some (some (.own l))) (hl : l.length < 100000) (he : ED X B S e fun d => E.nx (S.set i (some (.own (l ++ [d])))))
    (hv : Vis X.env.scope x := by first | exact Or.inl rfl | exact Or.inr (Or.inl rfl) | exact Or.inr (Or.inr rfl)) (hd : (x == ("__debug__" : Str)) = false := by decide) (hcd : (x == ("__classdict__" : Str)) = false := by decide)
    (hps : PE X (.Call (.Attribute (.Name x px) "append" apos) [e] [] cpos) (tBM X.K "list" rAppend (tVar i) (tCons (WE X e) tNil)) := by
      exact pe_bm PySem.F.plainAttrs_list PySem.F.slot_list_append PySem.F.type_list_append mt_append (pe_var (by rfl) (by first | exact Or.inl rfl | exact Or.inr (Or.inl rfl) | exact Or.inr (Or.inr rfl))) (pa_cons DL.we_pe pa_nil))
    (hs : swapsWith (.Call (.Attribute (.Name x px) "append" apos) [e] [] cpos) none pos.line X.env = pure false := by rfl) : SD X B W0 S (.Expr (.Call (.Attribute (.Name x px) "append" apos) [e] [] cpos) pos) E := fun σ W H r z D' k => by
  refine PS.w (ps_expr hps hs) ?_
  obtain ⟨v, e1, p, xs, ev, hB, n, hI, hH, d0⟩ := r.sl i _ h
  subst ev
  refine ⟨_, e1, .inl ⟨rfl, _, SqL.of hH⟩, ?_⟩
  refine he σ W H r _ fun d v W1 H1 s1 ok1 n1 q1 => ?_
  have hH1 : H1 p = some (.lst xs) := s1.keep _ _ hH n
  have nP : ¬ W1.P p := fun q => n (s1.oldP p _ hH q)
  have hI1 : W1.I p = none := s1.old p _ hH (fun _ z => by cases z) hI
  refine ⟨p, xs, v, rfl, rfl, hH1, Nat.lt_of_lt_of_le (d0.length ▸ hl) (by decide), ?_⟩
  have ok2 : Ok (gOf X) W1 (upd H1 p (.lst (xs ++ [v]))) := {
    gd := fun b hb => by
      obtain ⟨n1, n2⟩ := ok1.gd b hb
      refine ⟨n1, ?_⟩
      by_cases q : b = p
      · subst q
        rw [upd_same]
        exact ⟨(fun z => by cases z), (fun _ z => by cases z)⟩
      · rw [upd_ne q]
        exact n2
    ex := fun b o hb => by
      rw [upd_ne (fun y => by rw [y, hI1] at hb; cases hb)]
      exact ok1.ex b o hb
    pot := fun b hb => by
      obtain ⟨nb, y2, w2, h2⟩ := ok1.pot b hb
      have ne : b ≠ p := fun y => nP (y ▸ hb)
      exact ⟨nb, y2, w2, by rw [upd_ne ne]; exact h2⟩ }
  have z1 := z.trans r.ok s1
  have z2 : Stp W0 B W1 (upd H1 p (.lst (xs ++ [v]))) := ⟨z1.I, z1.P, fun b o hb hn => by rw [upd_ne (ne_of_none hb hB)]; exact z1.keep b o hb hn, z1.old, z1.oldP⟩
  have r1 := r.step s1 ok1
  have lt : i < S.length := (List.getElem?_eq_some_iff.mp h).1
  refine k.nx _ σ W1 _ ?_ z2 s1.I q1
  refine ⟨ok2, r.gb, by simpa using r.len, fun j s ej => ?_, fun a b la lb q ne e2 e3 e4 => ?_, r.distT.setS i fun l z => by cases z⟩
  · by_cases q : i = j
    · subst q
      rw [List.getElem?_set_self lt] at ej
      cases ej
      exact ⟨_, e1, p, _, rfl, hB, nP, hI1, upd_same, (d0.mono s1.I).append (.cons n1 .nil)⟩
    · rw [List.getElem?_set_ne q] at ej
      obtain ⟨v2, e2, h2⟩ := r1.sl j s ej
      refine ⟨v2, e2, ?_⟩
      cases s with
      | val d2 => exact h2
      | pot => exact h2
      | own m =>
        obtain ⟨p2, ys, rfl, b1, b2, b3, b4, b5⟩ := h2
        refine ⟨p2, ys, rfl, b1, b2, b3, ?_, b5⟩
        rw [upd_ne (fun y => by
          rw [y] at e2
          exact r.dist i j l m p q h ej e1 e2)]
        exact b4
      | ownT m =>
        obtain ⟨p2, ys, rfl, b1, b2, b3, b4, b5⟩ := h2
        refine ⟨p2, ys, rfl, b1, b2, b3, ?_, b5⟩
        rw [upd_ne (fun y => by rw [y, hH1] at b4; cases b4)]
        exact b4
      | inst C p2 dx fs =>
        obtain ⟨vs, rfl, b1, b2, b3, b4, b5, b6, b7, b8, b9, b10⟩ := h2
        refine ⟨vs, rfl, b1, b2, b3, b4, b5, b6, b7, ?_, ?_, b10⟩
        · rw [upd_ne (fun y => by rw [y, hH1] at b8; cases b8)]
          exact b8
        · rw [upd_ne (fun y => by rw [y, hH1] at b9; cases b9)]
          exact b9
  · have g : ∀ {c : Nat} {m : List D}, (S.set i (some (.own (l ++ [d]))))[c]? = some (some (.own m)) → ∃ m', S[c]? = some (some (.own m')) := fun {c m} ec => by
      by_cases q2 : i = c
      · subst q2
        exact ⟨l, h⟩
      · rw [List.getElem?_set_ne q2] at ec
        exact ⟨m, ec⟩
    obtain ⟨m1, g1⟩ := g e2
    obtain ⟨m2, g2⟩ := g e3
    exact r.dist a b m1 m2 q ne g1 g2 e4
/-- what a name owns is given away: from here on it never changes -/
theorem sds_frz {sts : List Stmt} (i : Nat) (l : List D) (h : S[i]? = some (some (.own l))) (k : SDs X B W0 (S.set i (some (.val (.lst l)))) sts E) : SDs X B W0 S sts E := fun σ W H r z D' q => by
  obtain ⟨v, e1, p, xs, ev, hB, n, hI, hH, d0⟩ := r.sl i _ h
  subst ev
  have st : Stp W0 B (W.new p (.lst xs)) H := z.frz hB hI
  have ok := r.ok.frz hH n fun z => r.gb _ z hB
  have lt : i < S.length := (List.getElem?_eq_some_iff.mp h).1
  refine k σ (W.new p (.lst xs)) H ?_ st D' (q.mono (Ex.new hI))
  refine ⟨ok, r.gb, by simpa using r.len, fun j s ej => ?_, fun a b la lb c ne e2 e3 e4 => ?_, r.distT.setS i fun l z => by cases z⟩
  · by_cases y : i = j
    · subst y
      rw [List.getElem?_set_self lt] at ej
      cases ej
      exact ⟨_, e1, .lst (show upd W.I p _ p = _ from upd_same) (d0.mono (Ex.new hI))⟩
    · rw [List.getElem?_set_ne y] at ej
      obtain ⟨v2, e2, h2⟩ := r.sl j s ej
      refine ⟨v2, e2, ?_⟩
      cases s with
      | val d2 => exact Dn.mono (Ex.new hI) h2
      | pot => exact h2
      | own m =>
        obtain ⟨p2, ys, rfl, b1, b2, b3, b4, b5⟩ := h2
        refine ⟨p2, ys, rfl, b1, b2, ?_, b4, b5.mono (Ex.new hI)⟩
        show upd W.I p _ p2 = none
        rw [upd_ne (fun y2 => by
          rw [y2] at e2
          exact r.dist i j l m p y h ej e1 e2)]
        exact b3
      | ownT m =>
        obtain ⟨p2, ys, rfl, b1, b2, b3, b4, b5⟩ := h2
        refine ⟨p2, ys, rfl, b1, b2, ?_, b4, b5.mono (Ex.new hI)⟩
        show upd W.I p _ p2 = none
        rw [upd_ne (fun y2 => by rw [y2, hH] at b4; cases b4)]
        exact b3
      | inst C p2 dx fs =>
        obtain ⟨vs, rfl, b1, b2, b3, b4, b5, b6, b7, b8, b9, b10⟩ := h2
        refine ⟨vs, rfl, b1, b2, b3, b4, b5, ?_, ?_, b8, b9, b10.mono (Ex.new hI)⟩
        · show upd W.I p _ p2 = none
          rw [upd_ne (fun y => by rw [y, hH] at b8; cases b8)]
          exact b6
        · show upd W.I p _ dx = none
          rw [upd_ne (fun y => by rw [y, hH] at b9; cases b9)]
          exact b7
  · have g : ∀ {c : Nat} {m : List D}, (S.set i (some (.val (.lst l))))[c]? = some (some (.own m)) → S[c]? = some (some (.own m)) := fun {c m} ec => by
      by_cases q2 : i = c
      · subst q2
        rw [List.getElem?_set_self lt] at ec
        cases ec
      · rw [List.getElem?_set_ne q2] at ec
        exact ec
    exact r.dist a b la lb c ne (g e2) (g e3) e4

/-! ### comprehensions -/
/-- the weakest reading over all blocks -/
def WEb (X : Cx) (scope : Scope) (e : Expr) : TE := fun σ H Q => ∀ (s : Shared) (H0 : Hp) (C : Addr) (cl : List (Str × Addr)) (fp : List Addr), WE (X.blk s H0 scope (compEnvC scope cl C X.env) fp) e σ H Q
def WTb (X : Cx) (scope : Scope) (e : Expr) : TT := fun σ H Q => ∀ (s : Shared) (H0 : Hp) (C : Addr) (cl : List (Str × Addr)) (fp : List Addr), WT (X.blk s H0 scope (compEnvC scope cl C X.env) fp) e σ H Q
theorem web_pe {scope : Scope} (s : Shared) (H0 : Hp) (C : Addr) (cl : List (Str × Addr)) (fp : List Addr) : PE (X.blk s H0 scope (compEnvC scope cl C X.env) fp) e (WEb X scope e) := ⟨fun pins s2 _ _ _ I h => h s H0 C cl fp pins s2 I⟩
/-- at an address of one's own: the list so far -/
structure Mid (K : PySem.W.Frag) (g : List Code) (W1 : Wd) (H1 : Hp) (p : Addr) (l : List D) (W : Wd) (H : Hp) : Prop where
  st : Stp W1 H1 W H
  ok : Ok g W H
  n : ¬ W.P p
  i : W.I p = none
  h : ∃ xs, H p = some (.lst xs) ∧ Dns K W.I l xs
theorem Mid.step {K : PySem.W.Frag} {g : List Code} {W1 W W2 : Wd} {H1 H H2 : Hp} {p : Addr} {l : List D} (m : Mid K g W1 H1 p l W H) (a : Stp W H W2 H2) (ok : Ok g W2 H2) : Mid K g W1 H1 p l W2 H2 := by
  obtain ⟨xs, hp, d⟩ := m.h
  exact ⟨m.st.trans m.ok a, ok, fun z => m.n (a.oldP p _ hp z), a.old p _ hp (fun _ z => by cases z) m.i, xs, a.keep p _ hp m.n, d.mono a.I⟩
theorem Mid.more {K : PySem.W.Frag} {g : List Code} {W1 W : Wd} {H1 H : Hp} {p : Addr} {l : List D} {d : D} {v : V} (hp0 : H1 p = none) (m : Mid K g W1 H1 p l W H) (hd : Dn K W.I d v) (hl : l.length < 100000) :
    ∃ acc, H p = some (.lst acc) ∧ acc.length < sizeLine ∧ Mid K g W1 H1 p (l ++ [d]) W (upd H p (.lst (acc ++ [v]))) := by
  obtain ⟨xs, hp, ds⟩ := m.h
  refine ⟨xs, hp, Nat.lt_of_lt_of_le (ds.length ▸ hl) (by decide), ?_, ?_, m.n, m.i, _, upd_same, ds.append (.cons hd .nil)⟩
  · exact ⟨m.st.I, m.st.P, fun b o hb hn => by rw [upd_ne (ne_of_none hb hp0)]; exact m.st.keep b o hb hn, m.st.old, m.st.oldP⟩
  · exact {
      gd := fun b hb => by
        obtain ⟨n1, n2⟩ := m.ok.gd b hb
        refine ⟨n1, ?_⟩
        by_cases q : b = p
        · subst q
          rw [upd_same]
          exact ⟨(fun z => by cases z), (fun _ z => by cases z)⟩
        · rw [upd_ne q]
          exact n2
      ex := fun b o hb => by
        rw [upd_ne (fun y => by rw [y, m.i] at hb; cases hb)]
        exact m.ok.ex b o hb
      pot := fun b hb => by
        obtain ⟨nb, y2, w2, h2⟩ := m.ok.pot b hb
        have ne : b ≠ p := fun y => m.n (y ▸ hb)
        exact ⟨nb, y2, w2, by rw [upd_ne ne]; exact h2⟩ }
/-- [elt for g in a list], without a test -/
theorem fd_lcL {elt tg iter : Expr} {scope : Scope} {own : List (Str × Nat)} {g : TG} {l : List D} {Q : List D → Prop} (J : Nat → List D → Prop) (S' : D → En) (hc : X.calm = true) (hN : X.N.Nodup) (ok : BlkOk X.N X.env.scope scope own)
    (hg : ∀ (s : Shared) (H : Hp) (C : Addr) (cl : List (Str × Addr)) (fp : List Addr), PG (X.blk s H scope (compEnvC scope cl C X.env) fp) tg g)
    (h : ED X B S iter fun d => d = .lst l ∧ l.length ≤ 50000 ∧ J 0 []) (hp : ∀ d ∈ l, Pat X.K g (own.map (·.2)) S d (S' d))
    (he : ∀ (i : Nat) d acc, l[i]? = some d → acc.length = i → J i acc → ∀ (s : Shared) (H0 : Hp) (C : Addr) (cl : List (Str × Addr)) (fp : List Addr), ED (X.blk s H0 scope (compEnvC scope cl C X.env) fp) B (S' d) elt fun y => J (i + 1) (acc ++ [y]))
    (hd : ∀ acc, acc.length = l.length → J l.length acc → Q acc) (hs : ∀ x, foldedSetIterable iter X.env x = pure x := by intro _; rfl) : FD X B S (.ListComp elt [⟨tg, iter, [], 0⟩] scope pos) Q := fun σ W H r R k => by
  refine PE.w (pe_lc (te := WEb X scope elt) hc hN (pi_list we_pe) ok hg (fun _ _ _ _ _ => pts_nil) web_pe hs) ?_
  refine h σ W H r _ fun d v W1 H1 s1 ok1 n1 q1 => ?_
  obtain ⟨rfl, hz, j0⟩ := q1
  cases n1 with
  | @lst _ a xs ha m =>
    refine ⟨a, rfl, ⟨xs, SqL.of (ok1.ex _ _ ha)⟩, fun p hp0 => ?_⟩
    have r1 := r.step s1 ok1
    refine lc_list (K := X.K) (a := a) (xs := xs) (fun i H' => ∃ acc W', Mid X.K (gOf X) W1 H1 p acc W' H' ∧ acc.length = i ∧ J i acc) ⟨[], W1, ⟨Stp.own hp0, ok1.own hp0, ok1.notP hp0, ok1.free hp0, [], upd_same, .nil⟩, rfl, j0⟩
      (fun i H' _ ⟨acc, W', mm, _⟩ => SqL.of (mm.ok.ex _ _ (mm.st.I _ _ ha))) ?_ ?_
    · rintro i x H' hx ⟨acc, W', mm, hl, j⟩
      obtain ⟨d, hd', nd⟩ := m.get hx
      have r2 := r1.step mm.st mm.ok
      refine hp d (List.mem_of_getElem? hd') (gOf X) B σ W' H' x r2 (nd.mono mm.st.I) _ fun σ2 e2 r3 => ⟨e2, ?_⟩
      show WEb X scope elt σ2 H' _
      intro s H0 C cl fp
      refine he i d acc hd' hl j s H0 C cl fp σ2 W' H' r3 _ fun y v W2 H2 s2 ok2 n2 q2 => ?_
      have lt : i < l.length := (List.getElem?_eq_some_iff.mp hd').1
      obtain ⟨xs', e1, e3, m3⟩ := (mm.step s2 ok2).more hp0 n2 (by omega)
      exact ⟨xs', e1, e3, _, W2, m3, by simp [hl], q2⟩
    · rintro H' ⟨acc, W', mm, hl, j⟩
      obtain ⟨ys, hH, ds⟩ := mm.h
      rw [← m.length] at hl j
      exact k acc p ys W' H' (s1.trans ok1 mm.st) mm.ok (s1.free ok1 hp0) mm.n mm.i hH ds (hd acc hl j)
/-- .. over a range -/
theorem fd_lcR {elt tg : Expr} {p1 pos1 : Pos} {scope : Scope} {own : List (Str × Nat)} {n : Int} {Q : List D → Prop} (J : Nat → List D → Prop) (S' : D → En) {g : TG} (hc : X.calm = true) (hN : X.N.Nodup) (hm : X.mg "range" = none) (ok : BlkOk X.N X.env.scope scope own)
    (hg : ∀ (s : Shared) (H : Hp) (C : Addr) (cl : List (Str × Addr)) (fp : List Addr), PG (X.blk s H scope (compEnvC scope cl C X.env) fp) tg g)
    (h : AD X B S [e] fun as => as = [.val (.int n)] ∧ -(2 ^ 62) ≤ n ∧ n ≤ 50000 ∧ J 0 []) (hp : ∀ d, Pat X.K g (own.map (·.2)) S d (S' d))
    (he : ∀ (i : Nat) acc, (i : Int) < n → acc.length = i → J i acc → ∀ (s : Shared) (H0 : Hp) (C : Addr) (cl : List (Str × Addr)) (fp : List Addr), ED (X.blk s H0 scope (compEnvC scope cl C X.env) fp) B (S' (.int i)) elt fun y => J (i + 1) (acc ++ [y]))
    (hd : ∀ acc, acc.length = n.toNat → J n.toNat acc → Q acc) (hgl : Gl X "range" := by rfl) (hst : starEach [e] X.env = [(false, eval e X.env)] := by rfl)
    (hs : ∀ x, foldedSetIterable (.Call (.Name "range" p1) [e] [] pos1) X.env x = pure x := by intro _; rfl) : FD X B S (.ListComp elt [⟨tg, .Call (.Name "range" p1) [e] [] pos1, [], 0⟩] scope pos) Q := fun σ W H r R k => by
  refine PE.w (pe_lc (te := WEb X scope elt) hc hN (pi_range1 hgl hm wa_pa hst) ok hg (fun _ _ _ _ _ => pts_nil) web_pe hs) ?_
  refine h σ W H r _ fun as vs W1 H1 s1 ok1 n1 q1 => ?_
  obtain ⟨rfl, hz, hz2, j0⟩ := q1
  obtain ⟨v, rfl, m⟩ := one_arg n1
  cases m
  refine ⟨n, rfl, hz, by omega, fun p hp0 => ?_⟩
  have r1 := r.step s1 ok1
  refine lc_range (lo := 0) (n := n.toNat) (fun i H' => ∃ acc W', Mid X.K (gOf X) W1 H1 p acc W' H' ∧ acc.length = i ∧ J i acc) ⟨[], W1, ⟨Stp.own hp0, ok1.own hp0, ok1.notP hp0, ok1.free hp0, [], upd_same, .nil⟩, rfl, j0⟩ ?_ ?_
  · rintro i H' hi ⟨acc, W', mm, hl, j⟩
    rw [Int.zero_add]
    have r2 := r1.step mm.st mm.ok
    refine hp (.int i) (gOf X) B σ W' H' _ r2 (.int _) _ fun σ2 e2 r3 => ⟨e2, ?_⟩
    show WEb X scope elt σ2 H' _
    intro s H0 C cl fp
    refine he i acc (by omega) hl j s H0 C cl fp σ2 W' H' r3 _ fun y v W2 H2 s2 ok2 n2 q2 => ?_
    obtain ⟨xs', e1, e3, m3⟩ := (mm.step s2 ok2).more hp0 n2 (by omega)
    exact ⟨xs', e1, e3, _, W2, m3, by simp [hl], q2⟩
  · rintro H' ⟨acc, W', mm, hl, j⟩
    obtain ⟨ys, hH, ds⟩ := mm.h
    exact k acc p ys W' H' (s1.trans ok1 mm.st) mm.ok (s1.free ok1 hp0) mm.n mm.i hH ds (hd acc hl j)
end
end DL

set_option Elab.async false
set_option linter.all false
set_option maxRecDepth 100000
set_option maxHeartbeats 4000000
/-! operators of own classes, also with ints on either side -/
namespace OwnOps
open PySem PySem.W PySem.Calls
section
variable {prog : Program} {w : World} {A : Around} {E : Value → Shared → Prop} {s : Shared} {K : Frag} {x C f g : Addr} {ox : Obj} {od : Option Obj} {op : Operator} {i : Int} {t : Tok}
/-- a class stands first in its own order -/
theorem first_of (hc : selfFirst K C = true) : ∃ cd rest, clsIn K C = some cd ∧ cd.mro = .ref C :: rest := by
  unfold selfFirst at hc
  cases q : clsIn K C with
  | none =>
    rw [q] at hc
    exact absurd hc (by simp)
  | some cd =>
    rw [q] at hc
    match e : cd.mro, hc with
    | [], hc => simp [e] at hc
    | a :: r, hc =>
      have z : a = Value.ref C := by simpa [e] using hc
      exact ⟨cd, r, rfl, by rw [z] at e; exact e⟩
theorem slotPy {M : Model} {h : Heap} {nm : String} (X : K.In h) (h1 : findIn K (.ref C) (PySem.dunder nm) = some (some (.ref f))) (h2 : findIn K (.ref C) (dunderR nm) = some (some (.ref g))) : Looks M h (numberSlotInPython (.ref C) nm) true := by
  intro A Q E s k q
  unfold numberSlotInPython
  refine wpAny_bind (looks_findIn X h1 A _ E s k ?_)
  refine wpAny_bind ?_
  show wpAny M A (pure true) _ _ _
  refine wpAny_pure (wpAny_bind (looks_findIn X h2 A _ E s k (wpAny_bind ?_)))
  show wpAny M A (pure true) _ _ _
  refine wpAny_pure ?_
  rw [if_pos (by rfl)]
  exact wpAny_pure q
/-- own + int -/
theorem own_int {Q : Value → Shared → Prop} (X : K.In s.heap) (I : InstAt s.heap x ox C od) (hc : selfFirst K C = true) (hs : findIn K (.ref C) (PySem.dunder op.info.2) = some (some (.ref f))) (hr : findIn K (.ref C) (dunderR op.info.2) = some (some (.ref g)))
    (hf : isFn K (.ref f) = true) (hsub : subIn K (.type "int") (.ref C) = some false) (hint : fillsNumberSlot (.type "int") op.info.2 = pure true) (hl : ∃ r, findIn K (.type "int") (dunderR op.info.2) = some r)
    (h : wpAny (model prog w) A (call (.ref f) [.ref x, .int i t]) (CmpBack Q) E s) : wpAny (model prog w) A (binaryOp op (.ref x) (.int i t)) Q E s := by
  obtain ⟨cd, rest, hcd, hm⟩ := first_of hc
  obtain ⟨r, hl⟩ := hl
  rcases hi : op.info with ⟨sym, nm⟩
  rw [hi] at hs hr hint hl
  have hpy : numberSlotInPython (.type "int") nm = pure false := rfl
  simp only [binaryOp, hi]
  refine wpAny_holding (wpAny_bind ?_)
  unfold binaryOp1
  refine wpAny_bind (I.type.here (wpAny_bind (wpAny_typeOf (typeIs_int _ _ _) (wpAny_bind ((fills_K X hcd hm hs).here ?_)))))
  have hne : (Value.ref C == Value.type "int") = false := rfl
  simp only [hne, Bool.false_eq_true, if_false]
  refine wpAny_bind (wpAny_of_eq hint ?_)
  simp only [Bool.and_self, if_true]
  refine wpAny_bind ((looks_subIn X hsub).here ?_)
  simp only [Bool.false_eq_true, if_false, Bool.not_false, Bool.and_self, if_true, pure_bind]
  refine wpAny_bind ((slotPy X hs hr).here ?_)
  simp only [if_true, hpy, pure_bind, Bool.not_false]
  refine wpAny_bind ((looks_findIn X hl).here ?_)
  refine wpAny_bind (m := tryMethod (.ref x) _ _) ?_
  unfold tryMethod
  refine wpAny_bind (special_fn X I hs (beq_iff_eq.mp hf) (wpAny_mono h (fun v s' hv => ?_) fun _ _ e => e))
  cases v <;> first | exact hv.elim | exact wpAny_pure (wpAny_pure (wpAny_pure hv))
end
end OwnOps
namespace OwnOps
open PySem PySem.W PySem.Calls
section
variable {prog : Program} {w : World} {A : Around} {E : Value → Shared → Prop} {s : Shared} {K : Frag} {x C f g L : Addr} {ox : Obj} {od : Option Obj} {i : Int} {t : Tok} {h₀ : Heap} {m : Str → Option Value} {b tb : Value}
/-- where the right one need not be asked first, the left one's answer is the comparison's -/
theorem one_way {op : CmpOp} {Q : Value → Shared → Prop} (hu : A.units < cLine) (X : K.In s.heap) (I : InstAt s.heap x ox C od) (hb : Looks (model prog w) s.heap (typeOf b) tb) (hn : notFirst K C tb = true)
    (one : wpAny (model prog w) A (tryCompare (.ref x) (cmpInfo op).2.1 b) (fun r s' => ∃ v, r = some v ∧ Q v s') E s) : wpAny (model prog w) A (richCompare op (.ref x) b) Q E s := by
  unfold richCompare
  rw [show oneThing? op (.ref x) b = none from oneThing_ref ..]
  refine wpAny_holding (wpAny_bind (wpAny_cRoomFor hu (wpAny_bind (I.type.here (wpAny_bind (hb.here ?_))))))
  by_cases q : (Value.ref C != tb) = true
  · have e : subIn K tb (.ref C) = some false := (Bool.or_eq_true_iff.mp hn).elim (fun e => absurd q (by rw [beq_iff_eq.mp e]; simp)) fun e => beq_iff_eq.mp e
    rw [if_pos q]
    refine wpAny_bind ((looks_subIn X e).here ?_)
    dsimp only
    rw [if_neg Bool.false_ne_true]
    exact wpAny_bind (wpAny_mono one (fun _ _ ⟨_, e, q⟩ => e ▸ wpAny_pure q) fun _ _ h => h)
  · rw [if_neg q]
    refine wpAny_bind (wpAny_pure ?_)
    dsimp only
    rw [if_neg Bool.false_ne_true]
    exact wpAny_bind (wpAny_mono one (fun _ _ ⟨_, e, q⟩ => e ▸ wpAny_pure q) fun _ _ h => h)
theorem ne_bind (self : Value) : bindSpecial (.builtin "object.__ne__") self = pure (.builtin "object.__ne__", [self]) := by kernel_rfl
theorem ne_plain : plainId "object.__ne__" = true := by decide +kernel
/-- a != b by an own __eq__ -/
theorem ne_K {Q : Value → Shared → Prop} (hu : A.units + 1 < cLine) (X : K.In s.heap) (I : InstAt s.heap x ox C od) (hb : Looks (model prog w) s.heap (typeOf b) tb) (hn : notFirst K C tb = true)
    (hne : findIn K (.ref C) "__ne__" = some (some (.builtin "object.__ne__"))) (hs : findIn K (.ref C) "__eq__" = some (some (.ref f))) (hf : isFn K (.ref f) = true) (hob : subIn K (.ref C) (.type "object") = some true)
    (h : wpAny (model prog w) A.in1 (call (.ref f) [.ref x, b]) (fun v s' => ∃ k, v = .bool k ∧ Q (.bool (!k)) s') E s) : wpAny (model prog w) A (richCompare .NotEq (.ref x) b) Q E s := by
  have one : wpAny (model prog w) A (tryCompare (.ref x) "__ne__" b) (fun r s' => ∃ v, r = some v ∧ Q v s') E s := by
    unfold tryCompare
    refine wpAny_bind ?_
    simp only [callSpecialIfBound?, bindSpecialIfBound?]
    refine wpAny_holding (wpAny_bind (wpAny_bind (wpAny_bind (I.type.here ((looks_findIn X hne).here ?_)))))
    have fin : wpAny (model prog w) A (call (.builtin "object.__ne__") ([.ref x] ++ [b]) >>= fun v => pure (some v)) (fun r s' => wpAny (model prog w) A (match r with | some .notImplemented | none => pure none | some v => pure (some v)) (fun r s' => ∃ v, r = some v ∧ Q v s') E s') E s := by
      refine wpAny_bind (wpAny_call (codeAny_call_builtin ne_plain PySem.F.cmpEntry_ne (check_slot PySem.F.cmpKind_ne PySem.F.cmpSplit_ne (I.type.andThen (looks_subIn X hob)) (PySem.F.cmpArgs_ne _ _) ?_)))
      unfold Builtin.«object.__ne__»
      refine wpAny_bind (wpAny_of_eq rfl ?_)
      refine wpAny_bind (wpAny_cRoomFor hu ?_)
      refine wpAny_bind (ifBound_K X I hs hf (wpAny_mono h (fun v s' hv => ?_) fun _ _ e => e))
      obtain ⟨k, rfl, q⟩ := hv
      refine wpAny_bind (wpAny_truthy_bool ?_)
      refine wpAny_pure ?_
      exact wpAny_pure (wpAny_pure ⟨_, rfl, q⟩)
    refine wpAny_bind (wpAny_askSetting (wpAny_ite ?_))
    split
    · exact wpAny_bind ((Looks.of_pure (ne_bind _)).here (wpAny_pure (by exact fin)))
    · exact wpAny_tryCatch (wpAny_bind ((Looks.of_pure (ne_bind _)).here (wpAny_pure (by exact fin))))
  exact one_way (Nat.lt_of_succ_lt hu) X I hb hn one
end
end OwnOps

set_option Elab.async false
set_option linter.all false
set_option maxRecDepth 100000
set_option maxHeartbeats 2000000
namespace DL
open PySem L2

/-! ### objects -/
/-- a method of the class at C -/
structure Mt (P : Program) (w : World) (K : PySem.W.Frag) (mg : Str → Option Value) (base : Heap) (C : Addr) (m : Str) (k : Nat) (sp : SpD) : Prop where
  ex : ∃ f fd ps, GnOk P w K mg base k f fd ps (lift K sp) ∧ Meth K C m f ∧ Binds K fd ps []
/-- a property of the class at C -/
structure Pr (P : Program) (w : World) (K : PySem.W.Frag) (mg : Str → Option Value) (base : Heap) (C : Addr) (m : Str) (k : Nat) (sp : SpD) : Prop where
  ex : ∃ p f fd ps, GnOk P w K mg base k f fd ps (lift K sp) ∧ PropOf K C m p f ∧ Binds K fd ps []
section
variable {X : Cx} {B : Hp} {S : En} {pos p apos : Pos} {Q : D → Prop} {e o : Expr} {es : List Expr} {x m f : Str} {k n : Nat} {sp : SpD} {C : Addr}
theorem ed_fld (c : Cls X.K C) (na : NoAttr X.K C f) (h : ED X B S o fun x => ∃ fs d, x = .obj C fs ∧ fs.lookup f = some d ∧ Q d) (hb : attributeBase o f X.env (eval o X.env) = eval o X.env := by rfl) : ED X B S (.Attribute o f pos) Q := fun σ W H r R k => by
  refine PE.w (pe_fld we_pe hb) ?_
  refine h σ W H r _ fun d v W1 H1 s1 ok1 n1 q1 => ?_
  obtain ⟨fs, d', rfl, l, q1⟩ := q1
  cases n1 with
  | obj ha m =>
    obtain ⟨v', e1, n2⟩ := m.look l
    exact ⟨_, C, _, _, v', rfl, ok1.ex _ _ ha, c, na, e1, (k.step s1 ok1).now ok1 n2 q1⟩
theorem ed_prop (c : Cls X.K C) (F : Pr X.prog X.w X.K X.mg X.base C f k sp) (hr : Room (k + 1) X.A) (hG : X.A.guards = some (gOf X)) (h : ED X B S o fun x => ∃ fs, x = .obj C fs ∧ sp [.val x] Q) (hb : attributeBase o f X.env (eval o X.env) = eval o X.env := by rfl) : ED X B S (.Attribute o f pos) Q := fun σ W H r R c' => by
  obtain ⟨pp, g, fd, ps, F, hp, bb⟩ := F.ex
  refine we_prop c hp F hr hG bb .nil ?_ hb
  refine h σ W H r _ fun d v W1 H1 s1 ok1 n1 q1 => ?_
  obtain ⟨fs, rfl, q1⟩ := q1
  cases id n1 with
  | obj ha m => exact ⟨_, _, _, rfl, ok1.ex _ _ ha, [.val (.obj C fs)], W1, Q, ok1, .cons n1 .nil, q1, c'.step s1 ok1⟩
end

/-! ### objects made -/
abbrev SpI := List Sl → (List (Str × D) → Prop) → Prop
def liftI (K : PySem.W.Frag) (C : Addr) (sp : SpI) : SpG := fun g vs H R => ∃ (p dx : Addr) (us : List V) (H1 : Hp) (W : Wd) (as : List Sl) (Q : List (Str × D) → Prop), vs = .ref p :: us ∧ H = upd (upd H1 dx (.own p)) p (.ins C dx []) ∧ H1 p = none ∧ H1 dx = none ∧ dx ≠ p ∧
  Ok g W H1 ∧ Args K W as us ∧ sp as Q ∧ ∀ fs vs2 W' H', Stp W H1 W' H' → Ok g W' H' → ¬ W'.P p → W'.I p = none → H' p = some (.ins C dx vs2) → Dnf K W'.I fs vs2 → Q fs → R .non H'
/-- the class that the module calls x, at C; ds: what its last parameters are without arguments -/
structure Kl (P : Program) (w : World) (K : PySem.W.Frag) (mg : Str → Option Value) (base : Heap) (x : Str) (C : Addr) (k : Nat) (dds : List D) (sp : SpI) : Prop where
  ex : ∃ f fd ps dvs ds, GnOk P w K mg base k f fd ps (liftI K C sp) ∧ Mk K C f ∧ mg x = some (.ref C) ∧ Binds K fd ps ds ∧ Vals dvs ds ∧ ∀ I, Dns K I dds dvs
section
variable {X : Cx} {B : Hp} {S : En} {pos p apos : Pos} {Q : D → Prop} {e o : Expr} {es : List Expr} {x m f : Str} {k n : Nat} {sp : SpI} {C : Addr} {dds : List D}
theorem Args.data {K : PySem.W.Frag} {W : Wd} : ∀ {ds : List D} {vs : List V}, Dns K W.I ds vs → Args K W (ds.map Sl.val) vs
  | _, _, .nil => .nil
  | _, _, .cons h r => .cons h (Args.data r)
theorem Args.append {K : PySem.W.Frag} {W : Wd} : ∀ {as bs : List Sl} {vs us : List V}, Args K W as vs → Args K W bs us → Args K W (as ++ bs) (vs ++ us)
  | _, _, _, _, .nil, s => s
  | _, _, _, _, .cons h r, s => .cons h (Args.append r s)
theorem cont_make {K : PySem.W.Frag} {g : List Code} {W : Wd} {H : Hp} {R : VK} (c : Cont K g W H Q R) {as : List Sl} {vs : List V} (ok : Ok g W H) (n : Args K W as vs) (q : sp as fun fs => Q (.obj C fs)) : ∀ x dx, H x = none → H dx = none → dx ≠ x → liftI K C sp g (.ref x :: vs) (upd (upd H dx (.own x)) x (.ins C dx [])) (fun v H2 => v = .non ∧ R (.ref x) H2) := fun x dx hx hdx ne =>
  ⟨x, dx, vs, H, W, as, _, rfl, rfl, hx, hdx, ne, ok, n, q, fun fs vs2 W' H' st ok' nP i hp d q2 => ⟨rfl, c (.obj C fs) (.ref x) _ H' (st.frz hx i) (ok'.frz hp nP fun z => (ok.gd _ z).2.1 hx) (.obj (show upd W'.I x _ x = _ from upd_same) (d.mono (Ex.new i))) q2⟩⟩
/-- C(e, ..), the rest of its parameters as they are without arguments -/
theorem ed_make (F : Kl X.prog X.w X.K X.mg X.base x C k dds sp) (hr : Room (k + 1) X.A) (hG : X.A.guards = some (gOf X)) (h : AD X B S (e :: es) fun as => sp (as ++ dds.map Sl.val) fun fs => Q (.obj C fs)) (hg : Gl X x := by rfl) (hdb : (x == ("__debug__" : Str)) = false := by decide)
    (he : starEach (e :: es) X.env = (false, eval e X.env) :: starEach es X.env := by rfl) (hpl : (backTo pos (starEach es X.env)).any (·.1) = false := by rfl) : ED X B S (.Call (.Name x p) (e :: es) [] pos) Q := fun σ W H r R c => by
  obtain ⟨f, fd, ps, dvs, ds, F, M, hm, hb, hd, hD⟩ := F.ex
  refine we_make M F hr hG hg hm hb hd ?_ hdb he hpl
  refine h σ W H r _ fun as vs W1 H1 s1 ok1 n1 q1 => ?_
  intro y dy hy hdy ne
  exact cont_make (c.step s1 ok1) ok1 (n1.append (Args.data (hD W1.I))) q1 y dy hy hdy ne
/-- C(e, ..), all parameters given -/
theorem ed_makeA {sp : SpI} (F : Kl X.prog X.w X.K X.mg X.base x C k [] sp) (hr : Room (k + 1) X.A) (hG : X.A.guards = some (gOf X)) (h : AD X B S (e :: es) fun as => sp as fun fs => Q (.obj C fs)) (hg : Gl X x := by rfl) (hdb : (x == ("__debug__" : Str)) = false := by decide)
    (he : starEach (e :: es) X.env = (false, eval e X.env) :: starEach es X.env := by rfl) (hpl : (backTo pos (starEach es X.env)).any (·.1) = false := by rfl) : ED X B S (.Call (.Name x p) (e :: es) [] pos) Q :=
  ed_make F hr hG (by simpa using h) hg hdb he hpl
end
/-! __init__ -/
def putD (f : Str) (d : D) : List (Str × D) → List (Str × D)
  | [] => [(f, d)]
  | (g, e) :: r => if g = f then (g, d) :: r else (g, e) :: putD f d r
theorem Dnf.put {K : PySem.W.Frag} {I : Hp} {f : Str} {d : D} {v : V} (h : Dn K I d v) : ∀ {fs : List (Str × D)} {vs : List (Str × V)}, Dnf K I fs vs → Dnf K I (putD f d fs) (putF f v vs)
  | _, _, .nil => .cons h .nil
  | _, _, .cons (f := g) q r => by
    unfold putD putF
    by_cases e : g = f
    · rw [if_pos e, if_pos e]
      exact .cons h r
    · rw [if_neg e, if_neg e]
      exact .cons q (Dnf.put h r)
theorem Dnf.length {K : PySem.W.Frag} {I : Hp} : ∀ {fs : List (Str × D)} {vs : List (Str × V)}, Dnf K I fs vs → fs.length = vs.length
  | _, _, .nil => rfl
  | _, _, .cons _ r => congrArg (· + 1) (Dnf.length r)
def notInst : Option Sl → Bool
  | some (.inst _ _ _ _) => false
  | _ => true
section
variable {X : Cx} {B : Hp} {W0 : Wd} {S : En} {e : Expr} {pos p p1 : Pos} {E : Ends'} {x f : Str} {C : Addr}
/-- self.f = e, self the object that is being made -/
theorem sd_fld {q dx : Addr} (i : Nat) (fs : List (Str × D)) (c : Cls X.K C) (na : NoAttr X.K C f) (hN : X.N[i]? = some x) (h : S[i]? = some (some (.inst C q dx fs))) (hl : fs.length < 1000) (one : (S.set i none).all notInst = true) (he : ED X B S e fun d => E.nx (S.set i (some (.inst C q dx (putD f d fs)))))
    (hv : Vis X.env.scope x := by first | exact Or.inl rfl | exact Or.inr (Or.inl rfl) | exact Or.inr (Or.inr rfl)) (hd : (x == ("__debug__" : Str)) = false := by decide) (hcd : (x == ("__classdict__" : Str)) = false := by decide)
    (hs : swapsWith e (some (.Attribute (.Name x p) f p1)) pos.line X.env = pure false := by rfl) : SD X B W0 S (.Assign [.Attribute (.Name x p) f p1] e pos) E := fun σ W H r z D' k => by
  refine PS.w (ps_fld (pe_var hN hv hd hcd) we_pe hs) ?_
  refine he σ W H r _ fun d v W1 H1 s1 ok1 n1 q1 => ?_
  have r1 := r.step s1 ok1
  obtain ⟨v0, e1, vs, ev, b1, b2, ne, n, n2, i1, i2, hp, hdx, dn⟩ := r1.sl i _ h
  subst ev
  refine ⟨_, e1, q, C, dx, vs, rfl, hp, c, na, dn.length ▸ hl, ?_⟩
  have ok2 : Ok (gOf X) W1 (upd H1 q (.ins C dx (putF f v vs))) := {
    gd := fun b hb => by
      obtain ⟨n1, n2⟩ := ok1.gd b hb
      refine ⟨n1, ?_⟩
      by_cases y : b = q
      · subst y
        rw [upd_same]
        exact ⟨(fun z => by cases z), (fun _ z => by cases z)⟩
      · rw [upd_ne y]
        exact n2
    ex := fun b o hb => by
      rw [upd_ne (fun y => by rw [y, i1] at hb; cases hb)]
      exact ok1.ex b o hb
    pot := fun b hb => by
      obtain ⟨nb, y2, w2, h2⟩ := ok1.pot b hb
      have ne : b ≠ q := fun y => n (y ▸ hb)
      exact ⟨nb, y2, w2, by rw [upd_ne ne]; exact h2⟩ }
  have z1 := z.trans r.ok s1
  have z2 : Stp W0 B W1 (upd H1 q (.ins C dx (putF f v vs))) := ⟨z1.I, z1.P, fun b o hb hn => by rw [upd_ne (ne_of_none hb b1)]; exact z1.keep b o hb hn, z1.old, z1.oldP⟩
  have lt : i < S.length := (List.getElem?_eq_some_iff.mp h).1
  refine k.nx _ σ W1 _ ?_ z2 s1.I q1
  refine ⟨ok2, r.gb, by simpa using r.len, fun j s ej => ?_, fun a b la lb c ne e2 e3 e4 => ?_, r1.distT.setS i fun l z => by cases z⟩
  · by_cases y : i = j
    · subst y
      rw [List.getElem?_set_self lt] at ej
      cases ej
      exact ⟨_, e1, _, rfl, b1, b2, ne, n, n2, i1, i2, upd_same, by rw [upd_ne ne]; exact hdx, dn.put n1⟩
    · rw [List.getElem?_set_ne y] at ej
      obtain ⟨v2, e2, h2⟩ := r1.sl j s ej
      refine ⟨v2, e2, ?_⟩
      cases s with
      | val d2 => exact h2
      | pot => exact h2
      | own m =>
        obtain ⟨p2, ys, rfl, c1, c2, c3, c4, c5⟩ := h2
        refine ⟨p2, ys, rfl, c1, c2, c3, ?_, c5⟩
        rw [upd_ne (fun y => by rw [y, hp] at c4; cases c4)]
        exact c4
      | ownT m =>
        obtain ⟨p2, ys, rfl, c1, c2, c3, c4, c5⟩ := h2
        refine ⟨p2, ys, rfl, c1, c2, c3, ?_, c5⟩
        rw [upd_ne (fun y => by rw [y, hp] at c4; cases c4)]
        exact c4
      | inst C' q' dx' fs' =>
        exfalso
        have e5 : (S.set i none)[j]? = some (some (.inst C' q' dx' fs')) := by rw [List.getElem?_set_ne y]; exact ej
        have := List.all_eq_true.mp one _ (List.mem_of_getElem? e5)
        cases this
  · have g : ∀ {c : Nat} {m : List D}, (S.set i (some (.inst C q dx (putD f d fs))))[c]? = some (some (.own m)) → S[c]? = some (some (.own m)) := fun {c m} ec => by
      by_cases q2 : i = c
      · subst q2
        rw [List.getElem?_set_self lt] at ec
        cases ec
      · rw [List.getElem?_set_ne q2] at ec
        exact ec
    exact r1.dist a b la lb c ne (g e2) (g e3) e4
end
section
variable {P : Program} {w : World} {K : PySem.W.Frag} {mg : Str → Option Value} {base : Heap}
/-- an __init__ by its body: self is slot 0 -/
theorem init_dl {x qual : Str} {st : Stmt} {f C : Addr} {fd : FuncData} {N ps : List Str} {k : Nat} {sp : SpI} (F : FunS K x qual st f fd) (hS : FnScope N ps (defScope st)) (len : ∀ as Q, sp as Q → as.length + 1 = ps.length)
    (body : ∀ cdv A outer s H, Room k (A.deeper (PyProof.Rows.envOfC qual (defScope st) s.heap.objs.size f cdv)) → (Bx P w K mg base N qual st f cdv A outer s H).A.guards = some (gOf (Bx P w K mg base N qual st f cdv A outer s H)) → ∀ W B as Q p dx, sp as Q → SDs (Bx P w K mg base N qual st f cdv A outer s H) B W (startE N (.inst C p dx [] :: as)) (defBody st) { nx := fun S' => ∃ fs, S'[0]? = some (some (.inst C p dx fs)) ∧ Q fs, rt := fun _ => False }) :
    GnOk P w K mg base (k + 1) f fd ps (liftI K C sp) := by
  refine gn_of F hS (fun g vs H Q h => ?_) (fun cdv A outer s H g vs R hr hG h => ?_)
  · obtain ⟨p, dx, us, H1, W, as, Qd, rfl, _, _, _, _, _, ha, hsp, _⟩ := h
    rw [← len _ _ hsp, List.length_cons, Paired.length ha]
  · obtain ⟨p, dx, us, H1, W, as, Qd, rfl, eH, hp, hdx, ne, ok, ha, hsp, c⟩ := h
    refine ⟨WSs _ (defBody st), wss_pss, ?_⟩
    obtain ⟨g1, g2⟩ := gOf_bx (P := P) (w := w) (K := K) (mg := mg) (base := base) (N := N) (qual := qual) (st := st) (f := f) (cdv := cdv) (outer := outer) (s := s) (H := H) hG
    have st1 : Stp W H1 W H := by
      rw [eH]
      exact (Stp.own hdx).trans (ok.own hdx) (Stp.own (by rw [upd_ne (Ne.symm ne)]; exact hp))
    have ok1 : Ok g W H := by
      rw [eH]
      exact (ok.own hdx).own (by rw [upd_ne (Ne.symm ne)]; exact hp)
    have rep : Rep K g H1 (startE N (.inst C p dx [] :: as)) (L2.start N (.ref p :: us)) W H := by
      have r0 := rep_start (N := N.tail) ok1 (ha.step st1)
      have hN : N.length = N.tail.length + 1 := by
        have h1 := hS.pre
        have h2 := len _ _ hsp
        have h3 : ps.length ≤ N.length := by
          have := congrArg List.length h1
          rw [List.length_take] at this
          omega
        rw [List.length_tail]
        omega
      have e1 : startE N (.inst C p dx [] :: as) = some (.inst C p dx []) :: startE N.tail as := by
        unfold startE
        rw [hN]
        simp [Nat.add_sub_add_right]
      have e2 : L2.start N (.ref p :: us) = some (.ref p) :: L2.start N.tail us := by
        unfold L2.start
        rw [hN]
        simp [Nat.add_sub_add_right]
      rw [e1, e2]
      refine ⟨ok1, fun b hb => (ok.gd b hb).2.1, by simp [r0.len], fun i s e => ?_, fun i j l m q n a1 a2 a3 => ?_, fun i j l m q n a1 a2 a3 => ?_⟩
      · cases i with
        | zero =>
          cases e
          refine ⟨_, rfl, [], rfl, hp, hdx, ne, ok.notP hp, ok.notP hdx, ok.free hp, ok.free hdx, ?_, ?_, .nil⟩
          · rw [eH]; exact upd_same
          · rw [eH, upd_ne ne]; exact upd_same
        | succ i =>
          obtain ⟨v, a1, a2⟩ := r0.sl i s e
          refine ⟨v, a1, ?_⟩
          cases s with
          | val d => exact a2
          | pot => exact a2
          | own l =>
            exfalso
            have key : ∀ {as : List Sl} {vs : List V} {n : Nat} {i : Nat}, Args K W as vs → (as.map some ++ List.replicate n none)[i]? = some (some (.own l)) → False := by
              intro as vs n i h
              induction h generalizing i with
              | nil =>
                intro e
                simp only [List.map_nil, List.nil_append, List.getElem?_replicate] at e
                split at e <;> cases e
              | @cons a v as vs h1 _ ih =>
                intro e
                cases i with
                | zero =>
                  simp only [List.map_cons, List.cons_append, List.getElem?_cons_zero, Option.some.injEq] at e
                  subst e
                  exact h1
                | succ i =>
                  simp only [List.map_cons, List.cons_append, List.getElem?_cons_succ] at e
                  exact ih e
            exact key ha e
          | ownT l =>
            exact absurd e (start_noT (ha.step st1) i l)
          | inst C' q' dx' fs =>
            exfalso
            have key : ∀ {as : List Sl} {vs : List V} {n : Nat} {i : Nat}, Args K W as vs → (as.map some ++ List.replicate n none)[i]? = some (some (.inst C' q' dx' fs)) → False := by
              intro as vs n i h
              induction h generalizing i with
              | nil =>
                intro e
                simp only [List.map_nil, List.nil_append, List.getElem?_replicate] at e
                split at e <;> cases e
              | @cons a v as vs h1 _ ih =>
                intro e
                cases i with
                | zero =>
                  simp only [List.map_cons, List.cons_append, List.getElem?_cons_zero, Option.some.injEq] at e
                  subst e
                  exact h1
                | succ i =>
                  simp only [List.map_cons, List.cons_append, List.getElem?_cons_succ] at e
                  exact ih e
            exact key ha e
      · cases i with
        | zero => cases a1
        | succ i => cases j with
          | zero => cases a2
          | succ j => exact r0.dist i j l m q (fun z => n (congrArg (· + 1) z)) a1 a2 a3
      · cases i with
        | zero => cases a1
        | succ i => cases j with
          | zero => cases a2
          | succ j => exact r0.distT i j l m q (fun z => n (congrArg (· + 1) z)) a1 a2 a3
    refine body cdv A outer s H hr (by rw [g2]; exact g1) W H1 as Qd p dx hsp (L2.start N (.ref p :: us)) W H (by rw [g2]; exact rep) st1 _ ?_
    rw [g2]
    refine ⟨fun S σ W' H' r z _ q => ?_, fun d v W' H' ok' z _ n q => q.elim, fun _ _ _ _ _ _ _ q => q.elim, fun _ _ _ _ _ _ _ q => q.elim⟩
    obtain ⟨fs, e, q⟩ := q
    obtain ⟨v, _, vs2, _, _, _, _, n1, _, i1, _, hp', _, dn⟩ := r.sl 0 _ e
    exact c fs vs2 W' H' z r.ok n1 i1 hp' dn q
end
end DL

set_option Elab.async false
set_option linter.all false
set_option maxRecDepth 100000
set_option maxHeartbeats 4000000
namespace DL
open PySem L2

/-! ### isinstance -/
/-- the class at C, as isinstance asks -/
structure Isi (K : PySem.W.Frag) (C : Addr) : Prop where
  cl : Cls K C
  ca : PySem.W.findIn K (.ref C) "__class__" = some (some (.builtin "object.__class__"))
  cn : PySem.W.specialIn K (.builtin "object.__class__") "__get__" = some (some (.builtin "getset_descriptor.__get__"))
  ct : PySem.W.takesIn K (.builtin "object.__class__") = some true
  cm : PySem.W.mroIn K C (.type "object") = some true
/-- the type of a datum -/
inductive TyD (K : PySem.W.Frag) : D → Value → Prop
  | non : TyD K .non (.type "NoneType")
  | bl (b) : TyD K (.bl b) (.type "bool")
  | int (i) : TyD K (.int i) (.type "int")
  | str (s) : TyD K (.str s) (.type "str")
  | tup (l) : TyD K (.tup l) (.type "tuple")
  | lst (l) : TyD K (.lst l) (.type "list")
  | obj {C} (fs) (h : Isi K C) : TyD K (.obj C fs) (.ref C)
  | dct : TyD K .dct (.type "dict")
  | dcK (l) : TyD K (.dcK l) (.type "dict")
theorem TyD.x {K : PySem.W.Frag} {W : Wd} {H : Hp} {d : D} {v : V} {t : Value} (h : TyD K d t) (ok : Ok g W H) (n : Dn K W.I d v) : TyX K H v t := by
  cases h with
  | non => cases n; exact .base .non
  | bl b => cases n; exact .base (.bl b)
  | int i => cases n; exact .base (.int i)
  | str s => cases n; exact .base (.str s)
  | tup l => cases n with | tup h _ => exact .base (.tup (ok.ex _ _ h))
  | lst l => cases n with | lst h _ => exact .base (.lst (ok.ex _ _ h))
  | obj fs i => cases n with | obj h _ => exact .base (.ins (ok.ex _ _ h) i.cl i.ca i.cn i.ct i.cm)
  | dct => cases n with | dct h => exact .base (.dK (ok.ex _ _ h))
  | dcK l => cases n with | dcK h _ => exact .base (.dK (ok.ex _ _ h))
/-- a class as a datum -/
inductive ClD : D → Value → Prop
  | ty (n) : ClD (.ty n) (.type n)
  | cls (C) : ClD (.cls C) (.ref C)
theorem ClD.v {K : PySem.W.Frag} {I : Hp} {d : D} {v : V} {u : Value} (h : ClD d u) (n : Dn K I d v) : ClsV v u := by
  cases h with
  | ty m => cases n; exact .ty m
  | cls C => cases n; exact .own C
section
variable {X : Cx} {B : Hp} {S : En} {pos p apos : Pos} {Q : D → Prop} {e o a b : Expr} {es : List Expr} {x m f : Str}
theorem ed_ty {n : String} (hm : X.mg x = none) (q : Q (.ty n)) (hv : bootBuiltins x = some (.type n) := by first | rfl | decide +kernel) (hg : Gl X x := by rfl) (hn : x ≠ "__name__" := by decide) (hd : (x == ("__debug__" : Str)) = false := by decide) : ED X B S (.Name x pos) Q := fun σ W H r R k =>
  PE.w (pe_bltn (v := .ty n) hg hm hv rfl hn hd) (k.now r.ok (.ty n) q)
theorem ed_cls {C : Addr} (hm : X.mg x = some (.ref C)) (q : Q (.cls C)) (hg : Gl X x := by rfl) (hd : (x == ("__debug__" : Str)) = false := by decide) : ED X B S (.Name x pos) Q := fun σ W H r R k =>
  PE.w (pe_glob (v := .ref C) hg hm rfl hd) (k.now r.ok (.cls C) q)
theorem ed_gint {i : Int} {t : Tok} (hm : X.mg x = some (.int i t)) (q : Q (.int i)) (hg : Gl X x := by rfl) (hd : (x == ("__debug__" : Str)) = false := by decide) : ED X B S (.Name x pos) Q := fun σ W H r R k =>
  PE.w (pe_glob (v := .int i) hg hm ⟨t, rfl⟩ hd) (k.now r.ok (.int i) q)
theorem cd_isi {d c : D} {t u : Value} {k : Bool} (ht : TyD X.K d t) (hc : ClD c u) (hk : PySem.W.kitOne X.K t u = some k) (q : Q (.bl k)) : CD X (.builtin "isinstance") [.val d, .val c] Q := cd_of call_isi fun vs W H ok ha R cc => by
  obtain ⟨v, w, rfl, h, h'⟩ := two_args ha
  exact ⟨v, w, t, u, k, rfl, hc.v h', ht.x ok h, hk, cc.now ok (.bl k) q⟩
theorem cd_isi2 {d c c' : D} {t u u' : Value} {k : Bool} (ht : TyD X.K d t) (hc : ClD c u) (hc' : ClD c' u') (hk : PySem.W.kitAny X.K t [u, u'] = some k) (q : Q (.bl k)) : CD X (.builtin "isinstance") [.val d, .val (.tup [c, c'])] Q := cd_of call_isiT fun vs W H ok ha R cc => by
  obtain ⟨v, w, rfl, h, h'⟩ := two_args ha
  cases h' with
  | tup hp m =>
    cases m with
    | cons h1 m => cases m with
      | cons h2 m =>
        cases m
        exact ⟨v, _, _, t, [u, u'], k, rfl, ok.ex _ _ hp, .cons (hc.v h1) (.cons (hc'.v h2) .nil), ht.x ok h, hk, cc.now ok (.bl k) q⟩
theorem cd_gcd {i j : Int} (q : Q (.int ((Nat.gcd i.natAbs j.natAbs : Nat) : Int))) : CD X (.builtin "math.gcd") [.val (.int i), .val (.int j)] Q := cd_of cr_gcd fun vs W H ok ha R c => by
  obtain ⟨v, u, rfl, h, h'⟩ := two_args ha
  cases h; cases h'
  exact ⟨i, j, rfl, c.now ok (.int _) q⟩
/-- a built-in function that the module imported -/
theorem ed_callM {id : String} (hm : X.mg x = some (.builtin id)) (h : AD X B S (e :: es) fun as => CD X (.builtin id) as Q) (hg : Gl X x := by rfl) (hdb : (x == ("__debug__" : Str)) = false := by decide)
    (he : starEach (e :: es) X.env = (false, eval e X.env) :: starEach es X.env := by rfl) (hpl : (backTo pos (starEach es X.env)).any (·.1) = false := by rfl) : ED X B S (.Call (.Name x p) (e :: es) [] pos) Q := fun σ W H r R c => by
  refine PE.w (pe_callBfun wc_call hg hm wa_pa hdb he hpl) ?_
  refine h σ W H r _ fun as vs W1 H1 s1 ok1 n1 q1 => ?_
  exact q1 vs W1 H1 ok1 n1 R (c.step s1 ok1)

/-! ### numbers of any size, texts -/
def CDivG (i j : Int) : Prop := j ≠ 0 ∧ j.natAbs.log2 < 9000
theorem op_fdivG : OpR X (binaryOp .FloorDiv) (rI CDivG fun i j => .int (i.fdiv j)) := opI fun i j _ _ _ _ _ hc q => PyProof.Rows.floordiv_int hc.1 q (.inl (PyProof.noPylong_of_log2 hc.2))
theorem od_fdiv {i j : Int} (hc : CDivG i j) (q : Q (.int (i.fdiv j))) : OD X (binaryOp .FloorDiv) (.int i) (.int j) Q := od_I op_fdivG hc (fun _ _ => .int _) q
theorem od_mul {i j : Int} (hc : CMulX i j) (q : Q (.int (i * j))) : OD X (binaryOp .Mult) (.int i) (.int j) Q := od_I op_mulX hc (fun _ _ => .int _) q
theorem od_mulS {i j : Int} (hc : (-(2 ^ 64) < i ∧ i < 2 ^ 64) ∨ (-(2 ^ 64) < j ∧ j < 2 ^ 64)) (q : Q (.int (i * j))) : OD X (binaryOp .Mult) (.int i) (.int j) Q := od_I op_mul hc (fun _ _ => .int _) q
theorem od_mod {i j : Int} (hc : 0 < j) (q : Q (.int (i % j))) : OD X (binaryOp .Mod) (.int i) (.int j) Q := od_I op_mod hc (fun _ _ => .int _) q
theorem od_pow {i j : Int} (hc : CPow i j) (q : Q (.int (i ^ j.toNat))) : OD X (binaryOp .Pow) (.int i) (.int j) Q := od_I op_pow hc (fun _ _ => .int _) q
/-- == and != of ints, of texts, of bools, of None -/
def scD : D → D → Bool
  | .int _, .int _ => true
  | .str _, .str _ => true
  | .bl _, .bl _ => true
  | _, _ => false
theorem od_eqi {i j : Int} (q : Q (.bl (decide (i = j)))) : OD X (compareOp .Eq) (.int i) (.int j) Q := by
  refine od_of op_eq fun v u W H ok h1 h2 R c => ?_
  cases h1; cases h2
  refine ⟨rfl, c.now ok (.bl _) ?_⟩
  have e : decide (V.int i = V.int j) = decide (i = j) := by by_cases z : i = j <;> simp [z]
  rw [e]
  exact q
theorem od_eqs {i j : Str} (q : Q (.bl (decide (i = j)))) : OD X (compareOp .Eq) (.str i) (.str j) Q := by
  refine od_of op_eq fun v u W H ok h1 h2 R c => ?_
  cases h1; cases h2
  refine ⟨rfl, c.now ok (.bl _) ?_⟩
  have e : decide (V.str i = V.str j) = decide (i = j) := by by_cases z : i = j <;> simp [z]
  rw [e]
  exact q
/-- lists joined, repeated -/
theorem od_catL {l m : List D} (hl : l.length + m.length ≤ 100000) (q : Q (.lst (l ++ m))) : OD X (binaryOp .Add) (.lst l) (.lst m) Q := by
  refine od_of op_cat fun v u W H ok h1 h2 R c => ?_
  cases h1 with
  | @lst _ _ xs a1 d1 => cases h2 with
    | @lst _ _ ys a2 d2 =>
      refine ⟨_, _, _, _, rfl, rfl, ok.ex _ _ a1, ok.ex _ _ a2, Nat.le_trans (by rw [← d1.length, ← d2.length]; exact hl) (by decide), fun p hp => ?_⟩
      have st := Stp.new (o := .lst (xs ++ ys)) ok hp
      exact c (.lst (l ++ m)) (.ref p) _ _ st (ok.new hp) (.lst (show upd W.I p _ p = _ from upd_same) ((d1.append d2).mono st.I)) q
end
end DL

set_option Elab.async false
set_option linter.all false
set_option maxRecDepth 100000
set_option maxHeartbeats 4000000
namespace DL
open PySem L2

/-! ### == and != of plain data -/
mutual
inductive PyD : D → PyData → Prop
  | non : PyD .non .none
  | bl (b) : PyD (.bl b) (.bool b)
  | int (i) : PyD (.int i) (.int i)
  | str (s) : PyD (.str s) (.str s)
  | lst {l ds} : PyDs l ds → PyD (.lst l) (.list ds)
  | tup {l ds} : PyDs l ds → PyD (.tup l) (.tuple ds)
inductive PyDs : List D → List PyData → Prop
  | nil : PyDs [] []
  | cons {d l p ps} : PyD d p → PyDs l ps → PyDs (d :: l) (p :: ps)
end
section
variable {K : PySem.W.Frag} {g : List Code} {W : Wd} {H : Hp}
mutual
theorem PyD.dp (ok : Ok g W H) : ∀ {d : D} {p : PyData} {v : V}, PyD d p → Dn K W.I d v → Dp K H v p
  | _, _, _, .non, .non => .non
  | _, _, _, .bl b, .bl _ => .bl b
  | _, _, _, .int i, .int _ => .int i
  | _, _, _, .str s, .str _ => .str s
  | _, _, _, .lst h, .lst a n => .lst (SqL.of (ok.ex _ _ a)) (PyDs.dp ok h n)
  | _, _, _, .tup h, .tup a n => .tup (SqT.of (ok.ex _ _ a)) (PyDs.dp ok h n)
theorem PyDs.dp (ok : Ok g W H) : ∀ {l : List D} {ps : List PyData} {xs : List V}, PyDs l ps → Dns K W.I l xs → DpAll K H xs ps
  | _, _, _, .nil, .nil => .nil
  | _, _, _, .cons h r, .cons n m => .cons (PyD.dp ok h n) (PyDs.dp ok r m)
end
end
section
variable {X : Cx} {B : Hp} {S : En} {pos p apos : Pos} {Q : D → Prop} {x y : D} {d e : PyData}
theorem od_eqd (hu : X.A.units + 64 < cLine) (h1 : PyD x d) (h2 : PyD y e) (s1 : SeqAt.shaped d = true) (s2 : SeqAt.shaped e = true) (q : Q (.bl (PyData.eqv d e))) : OD X (compareOp .Eq) x y Q :=
  od_of (op_eqD hu) fun v u W H ok n1 n2 R c => ⟨d, e, h1.dp ok n1, h2.dp ok n2, s1, s2, c.now ok (.bl _) q⟩
end

/-! ### operators of own classes -/
theorem back {X : Cx} {pins : List (Addr × Obj)} {σ : L2.St} {R : VK} {v : Value} {s : Shared} (h : EP X pins σ R v s) : PySem.W.CmpBack (EP X pins σ R) v s := by
  obtain ⟨z, H, I, r, q⟩ := id h
  cases z with
  | non => cases (show v = Value.none from r); exact h
  | bl b => cases (show v = Value.bool b from r); exact h
  | int i => obtain ⟨t, e⟩ := (show ∃ t, v = Value.int i t from r); cases e; exact h
  | str x => obtain ⟨t, e⟩ := (show ∃ t, v = Value.str x t from r); cases e; exact h
  | byt b => obtain ⟨t, e⟩ := (show ∃ t, v = Value.bytes b t from r); cases e; exact h
  | flt b => obtain ⟨t, e⟩ := (show ∃ t, v = Value.float b t from r); cases e; exact h
  | ref a => cases (show v = Value.ref a from r); exact h
  | ty n => cases (show v = Value.type n from r); exact h
/-- a class whose instances stand beside ints -/
structure Num (K : PySem.W.Frag) (C : Addr) : Prop where
  cl : Cls K C
  sf : PySem.W.selfFirst K C = true
  nf : PySem.W.notFirst K C (.ref C) = true
  ni : PySem.W.notFirst K C (.type "int") = true
  si : PySem.W.subIn K (.type "int") (.ref C) = some false
  is : PySem.W.subIn K (.ref C) (.type "int") = some false
  ob : PySem.W.subIn K (.ref C) (.type "object") = some true
/-- a special method of the class at C -/
structure Sm (P : Program) (w : World) (K : PySem.W.Frag) (mg : Str → Option Value) (base : Heap) (C : Addr) (m : Str) (k : Nat) (sp : SpD) : Prop where
  ex : ∃ f fd ps, GnOk P w K mg base k f fd ps (lift K sp) ∧ PySem.W.findIn K (.ref C) m = some (some (.ref f)) ∧ PySem.W.isFn K (.ref f) = true ∧ Binds K fd ps []
section
variable {X : Cx} {B : Hp} {S : En} {pos p apos : Pos} {Q : D → Prop} {C : Addr} {k k' : Nat} {sp sp' : SpD} {fs gs : List (Str × D)}
theorem inst_at {pins : List (Addr × Obj)} {σ : L2.St} {H : Hp} {s : Shared} {a dx : Addr} {vs : List (Str × V)} (I : Inv X pins σ H s) (ha : H a = some (.ins C dx vs)) : ∃ ox od, PySem.W.InstAt s.heap a ox C (some od) := by
  obtain ⟨mA, O, _⟩ := ins_get I.hok ha
  obtain ⟨od, J, _⟩ := O.look
  exact ⟨_, od, J⟩
theorem args2 {K : PySem.W.Frag} {W : Wd} {d d' : D} {v u : V} (h : Dn K W.I d v) (h' : Dn K W.I d' u) : Args K W [.val d, .val d'] [v, u] := .cons h (.cons h' .nil)
theorem vals2 {v u : V} {v' u' : Value} (h : RelV v v') (h' : RelV u u') : Vals [v, u] [v', u'] := .cons h (.cons h' .nil)
/-- the def of a special method runs -/
theorem run_sm {m : Str} (F : Sm X.prog X.w X.K X.mg X.base C m k sp) (hr : Room k X.A) (hG : X.A.guards = some (gOf X)) {as : List Sl} {W : Wd} {H : Hp} (ok : Ok (gOf X) W H) {vs : List V} {us : List Value} (n : Args X.K W as vs) (q : sp as Q) {R : VK} (c : Cont X.K (gOf X) W H Q R)
    {pins : List (Addr × Obj)} {σ : L2.St} {s : Shared} (I : Inv X pins σ H s) (r : Vals vs us) : ∃ f, PySem.W.findIn X.K (.ref C) m = some (some (.ref f)) ∧ PySem.W.isFn X.K (.ref f) = true ∧ wpAny (model X.prog X.w) X.A (call (.ref f) us) (EP X pins σ R) X.xe s := by
  obtain ⟨f, fd, ps, F, hf, hi, hb⟩ := F.ex
  refine ⟨f, hf, hi, call_gn F hr hG hb .nil I r ?_⟩
  rw [List.append_nil]
  exact ⟨as, W, Q, ok, n, q, c⟩
/-- both of the class -/
theorem od_oo {op : Operator} (N : Num X.K C) (F : Sm X.prog X.w X.K X.mg X.base C (PySem.dunder op.info.2) k sp) (hr : Room k X.A) (hG : X.A.guards = some (gOf X)) (q : sp [.val (.obj C fs), .val (.obj C gs)] Q) : OD X (binaryOp op) (.obj C fs) (.obj C gs) Q := fun v u W H ok h1 h2 R c pins s σ v' u' I r1 r2 => by
  have aa := args2 h1 h2
  have rr := vals2 r1 r2
  cases id h1 with
  | obj a1 _ => cases id h2 with
    | obj a2 _ =>
      cases (show v' = Value.ref _ from r1)
      cases (show u' = Value.ref _ from r2)
      obtain ⟨ox, od, J⟩ := inst_at I (ok.ex _ _ a1)
      obtain ⟨oy, oe, J2⟩ := inst_at I (ok.ex _ _ a2)
      obtain ⟨f, hf, hi, hw⟩ := run_sm F hr hG ok aa q c I rr
      obtain ⟨mm, hF⟩ := I.fr
      exact PySem.W.binop_K hF I.ok.mod.kin J J2.type N.sf hf hi (wpAny_mono hw (fun _ _ h => back h) fun _ _ h => h)
/-- an int on the right -/
theorem od_oi {op : Operator} {i : Int} (N : Num X.K C) (F : Sm X.prog X.w X.K X.mg X.base C (PySem.dunder op.info.2) k sp) (G : Sm X.prog X.w X.K X.mg X.base C (dunderR op.info.2) k' sp') (hr : Room k X.A) (hG : X.A.guards = some (gOf X)) (q : sp [.val (.obj C fs), .val (.int i)] Q)
    (hint : fillsNumberSlot (.type "int") op.info.2 = pure true) (hl : ∃ r, PySem.W.findIn X.K (.type "int") (dunderR op.info.2) = some r) : OD X (binaryOp op) (.obj C fs) (.int i) Q := fun v u W H ok h1 h2 R c pins s σ v' u' I r1 r2 => by
  have aa := args2 h1 h2
  have rr := vals2 r1 r2
  cases id h1 with
  | obj a1 _ =>
    cases id h2
    cases (show v' = Value.ref _ from r1)
    obtain ⟨t, rfl⟩ := (show ∃ t, u' = Value.int i t from r2)
    obtain ⟨ox, od, J⟩ := inst_at I (ok.ex _ _ a1)
    obtain ⟨f, hf, hi, hw⟩ := run_sm F hr hG ok aa q c I rr
    obtain ⟨g, gd, ps, _, hg, _⟩ := G.ex
    exact OwnOps.own_int I.kIn J N.sf hf hg hi N.si hint hl (wpAny_mono hw (fun _ _ h => back h) fun _ _ h => h)
end
end DL

set_option Elab.async false
set_option linter.all false
set_option maxRecDepth 100000
set_option maxHeartbeats 4000000
namespace DL
open PySem L2
section
variable {X : Cx} {B : Hp} {S : En} {pos p apos : Pos} {Q : D → Prop} {C : Addr} {k k' : Nat} {sp sp' : SpD} {fs gs : List (Str × D)} {e a : Expr} {es : List Expr} {x m : Str}
/-- == by an own __eq__ -/
theorem od_eqO (N : Num X.K C) (F : Sm X.prog X.w X.K X.mg X.base C "__eq__" k sp) (hr : Room k X.A) (hG : X.A.guards = some (gOf X)) (q : sp [.val (.obj C fs), .val (.obj C gs)] Q) : OD X (compareOp .Eq) (.obj C fs) (.obj C gs) Q := fun v u W H ok h1 h2 R c pins s σ v' u' I r1 r2 => by
  have aa := args2 h1 h2
  have rr := vals2 r1 r2
  cases id h1 with
  | obj a1 _ => cases id h2 with
    | obj a2 _ =>
      cases (show v' = Value.ref _ from r1)
      cases (show u' = Value.ref _ from r2)
      obtain ⟨ox, od, J⟩ := inst_at I (ok.ex _ _ a1)
      obtain ⟨oy, oe, J2⟩ := inst_at I (ok.ex _ _ a2)
      obtain ⟨f, hf, hi, hw⟩ := run_sm F hr hG ok aa q c I rr
      obtain ⟨mm, hF⟩ := I.fr
      show wpAny _ _ (richCompare .Eq _ _) _ _ _
      exact PySem.W.cmp_K hr.units0 hF I.ok.mod.kin J J2.type N.nf hf hi (wpAny_mono hw (fun _ _ h => back h) fun _ _ h => h)
/-- != by an own __eq__ -/
theorem od_neO (N : Num X.K C) (hne : PySem.W.findIn X.K (.ref C) "__ne__" = some (some (.builtin "object.__ne__"))) (F : Sm X.prog X.w X.K X.mg X.base C "__eq__" k sp) (hr : Room (k + 1) X.A) (hG : X.A.guards = some (gOf X)) (q : sp [.val (.obj C fs), .val (.obj C gs)] fun d => ∃ b, d = .bl b ∧ Q (.bl (!b))) : OD X (compareOp .NotEq) (.obj C fs) (.obj C gs) Q := fun v u W H ok h1 h2 R c pins s σ v' u' I r1 r2 => by
  have aa := args2 h1 h2
  have rr := vals2 r1 r2
  cases id h1 with
  | @obj _ _ p1 _ _ a1 _ => cases id h2 with
    | @obj _ _ p2 _ _ a2 _ =>
      cases (show v' = Value.ref _ from r1)
      cases (show u' = Value.ref _ from r2)
      obtain ⟨ox, od, J⟩ := inst_at I (ok.ex _ _ a1)
      obtain ⟨oy, oe, J2⟩ := inst_at I (ok.ex _ _ a2)
      obtain ⟨f, fd, ps, F, hf, hi, hb⟩ := F.ex
      have hsp : lift X.K sp (gOf X) [.ref p1, .ref p2] H (fun z H' => ∃ b, z = .bl b ∧ R (.bl (!b)) H') := by
        refine ⟨_, W, _, ok, aa, q, fun d v2 W' H' st ok' n' q' => ?_⟩
        obtain ⟨b, rfl, q'⟩ := q'
        cases n'
        exact ⟨b, rfl, c (.bl (!b)) _ W' H' st ok' (.bl _) q'⟩
      show wpAny _ _ (richCompare .NotEq _ _) _ _ _
      refine OwnOps.ne_K (by have := hr.un; omega) I.kIn J J2.type N.nf hne hf hi N.ob ?_
      have hl : [Value.ref p1, Value.ref p2].length = ps.length := by rw [← F.len _ _ _ _ hsp]; rfl
      refine wpAny_call (run_gn (A := X.A.in1) F hr.in1 hG I.env0.in1 hb .nil I rr (by rw [List.append_nil]; exact hsp) fun u s' hv => ?_)
      obtain ⟨z, H', I3, rv, b, e, q3⟩ := hv
      subst e
      cases (show u = Value.bool b from rv)
      exact ⟨b, rfl, .bl (!b), H', I3, rfl, q3⟩
end
end DL

set_option Elab.async false
set_option linter.all false
set_option maxRecDepth 100000
set_option maxHeartbeats 2000000
/-! calls by keywords, class methods, calls of a class that a local name holds, the guards known -/
namespace DL
open PySem PySem.Spec PyProof.Rows L2 ClX
section
variable {X : Cx} {k n : Nat} {f C p0 : Addr} {fd : FuncData} {ps ks : List Str} {sp : SpG} {x m : Str} {p pos apos : Pos} {e o : Expr} {es : List Expr} {kws : List Keyword} {g : List Code} {gf : List Value → List Value → List Value} {gV : List V → List V → List V} {mc : Value}
/-- the weakest reading of keywords -/
def WK (X : Cx) (kws : List Keyword) : TA := fun σ H Q => ∀ pos pins s, Inv X pins σ H s → wpAny (model X.prog X.w) X.A (evalAll ((backToKw pos (keywordEach kws X.env)).map (·.2))) (AP X pins σ Q) X.xe s
theorem wk_pk : PK X kws (WK X kws) := ⟨fun pos pins s _ _ _ I h => h pos pins s I⟩
theorem PK.w {t : TA} (h : PK X kws t) {σ : L2.St} {H : Hp} {Q : List V → Hp → Prop} (q : t σ H Q) : WK X kws σ H Q := fun pos pins s I => h.run pos pins s σ H Q I q
/-- the call of the record of a class method -/
theorem run_gcm {pins : List (Addr × Obj)} {σ : L2.St} {H : Hp} {s : Shared} {q : Addr} {Q : VK} {us us' : List Value} {kw : List (Str × Value)} {vs : List V} (F : GnOk X.prog X.w X.K X.mg X.base k f fd ps sp) (hr : Room k X.A) (hG : X.A.guards = some g) (I : Inv X ((q, PySem.W.methodObj (.ref f) (.ref C)) :: pins) σ H s)
    (hb : BindsTo s fd ⟨.ref C :: us, kw⟩ (ps.zip us')) (r : Vals vs us') (h : sp g vs H Q) : wpAny (model X.prog X.w) X.A (call (.ref q) us kw) (EP X pins σ Q) X.xe s := by
  have z : wpAny (model X.prog X.w) X.A (call (.ref q) us kw) (EP X ((q, PySem.W.methodObj (.ref f) (.ref C)) :: pins) σ Q) X.xe s :=
    wpAny_call (PySem.W.method_call (pin_at I) (run_gb F hr hG I.env0 hb I r h fun _ _ z => z))
  exact thn z fun _ _ y => unpinE y
/-- C.m(e, ..), m a class method -/
theorem we_cmeth {σ : L2.St} {H : Hp} {Q : VK} {pl : Sem Bool} (r : CRead X.K C mc) (c : CMet X.K C mc m p0 f) (F : GnOk X.prog X.w X.K X.mg X.base k f fd ps sp) (hr : Room k X.A) (hG : X.A.guards = some g) (hb : Binds X.K fd ps [])
    (h : WE X o σ H fun x H1 => x = .ref C ∧ WA X (e :: es) σ H1 fun vs H2 => sp g (.ref C :: vs) H2 Q)
    (hst : starEach (e :: es) X.env = (false, eval e X.env) :: starEach es X.env) (hpl : (backTo pos (starEach es X.env)).any (·.1) = false)
    (ht : eval (.Call (.Attribute o m apos) (e :: es) [] pos) X.env = (do
      let ov ← eval o X.env
      standAt apos.atName
      let (f, first) ← holding [ov] (getMethod ov m pl)
      callWith pos f first (backTo pos (starEach (e :: es) X.env)) (backToKw pos (keywordEach [] X.env)))) : WE X (.Call (.Attribute o m apos) (e :: es) [] pos) σ H Q := fun pins s I => by
  refine PySem.W.methodCall_KW (pl := pl) (thn (h pins s I) fun u s1 ⟨x, H1, I1, rx, ex, q⟩ => ?_) ht
  subst ex
  obtain rfl : u = Value.ref C := rx
  refine getmethcm_ok I1 r c fun s2 I2 => ?_
  refine callwith_cm I2 (base_none I1 (Nat.le_refl _)) c.fi (thn (q pos _ s2 I2) fun us s3 ⟨vs, H2, I3, rv, q2⟩ => ⟨⟨pin_at I3, I3.kIn⟩, ?_⟩) hst hpl
  have r2 : Vals (V.ref C :: vs) (Value.ref C :: us) := .cons rfl rv
  have hl : (Value.ref C :: us).length = ps.length := r2.length.symm.trans (F.len _ _ _ _ q2)
  have b := hb s3 (Value.ref C :: us) I3.kIn (by rw [List.append_nil]; exact hl)
  rw [List.append_nil] at b
  exact run_gcm F hr hG I3 b r2 q2
/-- c(e, ..), c a local name that holds the class at C -/
theorem we_makeL {σ : L2.St} {H : Hp} {Q : VK} {dvs : List V} {ds : List Value} {i : Nat} (M : Mk X.K C f) (F : GnOk X.prog X.w X.K X.mg X.base k f fd ps sp) (hr : Room (k + 1) X.A) (hG : X.A.guards = some g) (hN : X.N[i]? = some x) (hv : Vis X.env.scope x) (hs : σ[i]? = some (some (.ref C))) (hb : Binds X.K fd ps ds) (hd : Vals dvs ds)
    (h : WA X (e :: es) σ H fun vs H1 => ∀ y dy, H1 y = none → H1 dy = none → dy ≠ y → sp g (.ref y :: (vs ++ dvs)) (upd (upd H1 dy (.own y)) y (.ins C dy [])) (fun v H2 => v = .non ∧ Q (.ref y) H2))
    (hdb : (x == ("__debug__" : Str)) = false) (hcd : (x == ("__classdict__" : Str)) = false) (he : starEach (e :: es) X.env = (false, eval e X.env) :: starEach es X.env) (hpl : (backTo pos (starEach es X.env)).any (·.1) = false) : WE X (.Call (.Name x p) (e :: es) [] pos) σ H Q := fun pins s I => by
  refine wpAny_Call_Name_kw (thn ((pe_var (pos := p) hN hv hdb hcd).run pins s σ H (fun v H1 => v = .ref C ∧ H1 = H) I ⟨.ref C, hs, rfl, rfl⟩) fun u s1 ⟨v, H1, I1, r1, q1⟩ => ?_)
  obtain ⟨rfl, rfl⟩ := q1
  cases r1
  exact PySem.W.callWith_K (h₀ := X.base) I.ok.mod.kin M.kp (thn (h pos pins s1 I1) fun us s2 ⟨vs, H2, I2, r, q⟩ => ⟨I2.kIn, run_gmake M F hr hG hb hd I2 r q⟩) he hpl
end
end DL

set_option Elab.async false
set_option linter.all false
set_option maxRecDepth 100000
set_option maxHeartbeats 4000000
namespace DL
open PySem L2

/-! ### keywords -/
def KD (X : Cx) (B : Hp) (S : En) (kws : List Keyword) (Q : List Sl → Prop) : Prop := ∀ σ W H, Rep X.K (gOf X) B S σ W H → ∀ R, ContA X.K (gOf X) W H Q R → WK X kws σ H R
/-- C's __init__ by keywords ks alone: mid brings their values, and the defaults, into the parameters' order -/
structure KlK (P : Program) (w : World) (K : PySem.W.Frag) (mg : Str → Option Value) (base : Heap) (x : Str) (C : Addr) (k : Nat) (ks : List Str) (midD : List Sl → List Sl) (sp : SpI) : Prop where
  ex : ∃ f fd ps gf, ∃ mid : List V → List V, GnOk P w K mg base k f fd ps (liftI K C sp) ∧ Mk K C f ∧ mg x = some (.ref C) ∧ KBn K fd ps 1 ks gf (fun vs zs => vs ++ mid zs) ∧ ∀ W bs zs, Args K W bs zs → Args K W (midD bs) (mid zs)
structure MtK (P : Program) (w : World) (K : PySem.W.Frag) (mg : Str → Option Value) (base : Heap) (C : Addr) (m : Str) (k : Nat) (ks : List Str) (midD : List Sl → List Sl) (sp : SpD) : Prop where
  ex : ∃ f fd ps gf, ∃ mid : List V → List V, GnOk P w K mg base k f fd ps (lift K sp) ∧ Meth K C m f ∧ KBn K fd ps 1 ks gf (fun vs zs => vs ++ mid zs) ∧ ∀ W bs zs, Args K W bs zs → Args K W (midD bs) (mid zs)
/-- a class method -/
structure Cm (P : Program) (w : World) (K : PySem.W.Frag) (mg : Str → Option Value) (base : Heap) (C : Addr) (m : Str) (k : Nat) (sp : SpD) : Prop where
  ex : ∃ f fd ps p0 mc, GnOk P w K mg base k f fd ps (lift K sp) ∧ ClX.CRead K C mc ∧ ClX.CMet K C mc m p0 f ∧ Binds K fd ps []
structure CmK (P : Program) (w : World) (K : PySem.W.Frag) (mg : Str → Option Value) (base : Heap) (C : Addr) (m : Str) (k : Nat) (ks : List Str) (midD : List Sl → List Sl) (sp : SpD) : Prop where
  ex : ∃ f fd ps p0 mc gf, ∃ mid : List V → List V, GnOk P w K mg base k f fd ps (lift K sp) ∧ ClX.CRead K C mc ∧ ClX.CMet K C mc m p0 f ∧ KBn K fd ps 1 ks gf (fun vs zs => vs ++ mid zs) ∧ ∀ W bs zs, Args K W bs zs → Args K W (midD bs) (mid zs)
section
variable {X : Cx} {B : Hp} {S : En} {pos p apos kpos : Pos} {Q : D → Prop} {e o : Expr} {es : List Expr} {kws : List Keyword} {x m : Str} {nm : Option Str} {k : Nat} {C : Addr} {ks : List Str} {midD : List Sl → List Sl}
theorem kd_nil {Q : List Sl → Prop} (q : Q []) : KD X B S [] Q := fun σ W H r R c => PK.w pk_nil (c [] [] W H Stp.refl r.ok .nil q)
theorem kd_cons {Q : List Sl → Prop} (h : ED X B S e fun d => KD X B S kws fun as => Q (.val d :: as)) : KD X B S (⟨nm, e, kpos⟩ :: kws) Q := fun σ W H r R c => by
  refine PK.w (pk_cons we_pe wk_pk) ?_
  refine h σ W H r _ fun d v W1 H1 s1 ok1 n1 q1 => ?_
  refine q1 σ W1 H1 (r.step s1 ok1) _ fun as vs W2 H2 s2 ok2 n2 q2 => ?_
  exact c (.val d :: as) (v :: vs) W2 H2 (s1.trans ok1 s2) ok2 (.cons (show Arg X.K W2 (.val d) v from n1.mono s2.I) n2) q2
theorem ed_cmeth {sp : SpD} {pl : Sem Bool} (F : Cm X.prog X.w X.K X.mg X.base C m k sp) (hr : Room k X.A) (hG : X.A.guards = some (gOf X)) (h : ED X B S o fun x => x = .cls C ∧ AD X B S (e :: es) fun as => sp (.val x :: as) Q)
    (hst : starEach (e :: es) X.env = (false, eval e X.env) :: starEach es X.env := by rfl) (hpl : (backTo pos (starEach es X.env)).any (·.1) = false := by rfl)
    (ht : eval (.Call (.Attribute o m apos) (e :: es) [] pos) X.env = (do
      let ov ← eval o X.env
      standAt apos.atName
      let (f, first) ← holding [ov] (getMethod ov m pl)
      callWith pos f first (backTo pos (starEach (e :: es) X.env)) (backToKw pos (keywordEach [] X.env))) := by rfl) : ED X B S (.Call (.Attribute o m apos) (e :: es) [] pos) Q := fun σ W H r R c' => by
  obtain ⟨f, fd, ps, p0, mc, F, rd, cm, bb⟩ := F.ex
  refine we_cmeth rd cm F hr hG bb ?_ hst hpl ht
  refine h σ W H r _ fun d v W1 H1 s1 ok1 n1 q1 => ?_
  obtain ⟨rfl, q1⟩ := q1
  cases id n1
  refine ⟨rfl, ?_⟩
  refine q1 σ W1 H1 (r.step s1 ok1) _ fun as vs W2 H2 s2 ok2 n2 q2 => ?_
  exact ⟨.val (.cls C) :: as, W2, Q, ok2, .cons (show Arg X.K W2 (.val (.cls C)) _ from Dn.cls C) n2, q2, (c'.step s1 ok1).step s2 ok2⟩
/-- c(e, ..), c a local name that holds the class -/
theorem ed_makeL {sp : SpI} {dds : List D} (i : Nat) (F : Kl X.prog X.w X.K X.mg X.base m C k dds sp) (hr : Room (k + 1) X.A) (hG : X.A.guards = some (gOf X)) (hN : X.N[i]? = some x) (hS : S[i]? = some (some (.val (.cls C)))) (h : AD X B S (e :: es) fun as => sp (as ++ dds.map Sl.val) fun fs => Q (.obj C fs))
    (hv : Vis X.env.scope x := by first | exact Or.inl rfl | exact Or.inr (Or.inl rfl) | exact Or.inr (Or.inr rfl)) (hdb : (x == ("__debug__" : Str)) = false := by decide) (hcd : (x == ("__classdict__" : Str)) = false := by decide)
    (he : starEach (e :: es) X.env = (false, eval e X.env) :: starEach es X.env := by rfl) (hpl : (backTo pos (starEach es X.env)).any (·.1) = false := by rfl) : ED X B S (.Call (.Name x p) (e :: es) [] pos) Q := fun σ W H r R c => by
  obtain ⟨f, fd, ps, dvs, ds, F, M, hm, hb, hd, hD⟩ := F.ex
  obtain ⟨v, e1, n⟩ := r.sl i _ hS
  cases (show Dn X.K W.I (.cls C) v from n)
  refine we_makeL M F hr hG hN hv e1 hb hd ?_ hdb hcd he hpl
  refine h σ W H r _ fun as vs W1 H1 s1 ok1 n1 q1 => ?_
  intro y dy hy hdy ne
  exact cont_make (c.step s1 ok1) ok1 (n1.append (Args.data (hD W1.I))) q1 y dy hy hdy ne
end

/-! ### texts of data -/
open Classical in
/-- the heap cut down to what never changes -/
noncomputable def cut (I : Hp) (h : Heap) : Heap := { h with objs := h.objs.mapIdx fun i o => if I i = none then { o with data := .freed } else o }
section
variable {X : Cx} {pins : List (Addr × Obj)} {σ : L2.St} {W : Wd} {H : Hp} {s : Shared} {g : List Code}
end
section
variable {X : Cx} {B : Hp} {S : En} {pos p apos : Pos} {Q : D → Prop} {e o : Expr} {es : List Expr} {C : Addr} {k : Nat} {sp : SpD} {fs : List (Str × D)}
end
end DL

set_option Elab.async false
set_option linter.all false
set_option maxRecDepth 100000
set_option maxHeartbeats 4000000
namespace DL
open PySem L2
section
variable {X : Cx} {B : Hp} {S : En} {pos p apos : Pos} {Q : D → Prop} {e o : Expr} {es : List Expr} {C : Addr} {k : Nat} {sp : SpD} {fs : List (Str × D)}
open Builtin Builtin.Str in
/-- f'..' -/
theorem ed_fmt (h : ED X B S e fun d => (∃ y, d = .str y ∧ y.length ≤ sizeLine ∧ Q (.str y)) ∨ ∃ i : Int, d = .int i ∧ i.natAbs.log2 < 1920 ∧ Q (.str (toString i))) : ED X B S (.FormattedValue e (-1) none pos) Q := fun σ W H r R c => by
  refine PE.w (pe_fmt we_pe) ?_
  refine h σ W H r _ fun d v W1 H1 s1 ok1 n1 q1 => ?_
  have c1 := c.step s1 ok1
  rcases q1 with ⟨y, rfl, l, q⟩ | ⟨i, rfl, l, q⟩
  · cases n1
    exact .inl ⟨y, rfl, l, c1.now ok1 (.str _) q⟩
  · cases n1
    exact .inr ⟨i, rfl, l, c1.now ok1 (.str _) q⟩
def JD (X : Cx) (B : Hp) (S : En) : List Expr → Str → (D → Prop) → Prop
  | [], acc, Q => Q (.str acc)
  | e :: es, acc, Q => ED X B S e fun d => ∃ y, d = .str y ∧ (acc ++ y).length ≤ sizeLine ∧ JD X B S es (acc ++ y) Q
theorem pj_all : ∀ es : List Expr, PJ X es (es.map (WE X))
  | [] => .nil
  | _ :: es => .cons we_pe (pj_all es)
theorem jd_run {σ : L2.St} {R : VK} : ∀ (es : List Expr) (acc : Str) (W : Wd) (H : Hp), JD X B S es acc Q → Rep X.K (gOf X) B S σ W H → Cont X.K (gOf X) W H Q R → tJs (es.map (WE X)) acc σ H fun out H1 => R (.str out) H1
  | [], acc, W, H, h, r, c => c.now r.ok (.str acc) h
  | e :: es, acc, W, H, h, r, c => by
    show WE X e σ H _
    refine h σ W H r _ fun d v W1 H1 s1 ok1 n1 q1 => ?_
    obtain ⟨y, rfl, l, q1⟩ := q1
    cases n1
    exact ⟨y, rfl, l, jd_run es (acc ++ y) W1 H1 q1 (r.step s1 ok1) (c.step s1 ok1)⟩
theorem ed_join {e1 e2 : Expr} (h : JD X B S (e1 :: e2 :: es) Str.empty Q) : ED X B S (.JoinedStr (e1 :: e2 :: es) pos) Q := fun σ W H r R c =>
  PE.w (pe_joined (pj_all _)) (jd_run _ _ W H h r c)
end

/-! ### a new list handed back; pots -/
abbrev SpN := List Sl → (List D → Prop) → Prop
def liftN (K : PySem.W.Frag) (sp : SpN) : SpG := fun g vs H R => ∃ as W Q, Ok g W H ∧ Args K W as vs ∧ sp as Q ∧ ContF K g W H Q R
structure Nf (P : Program) (w : World) (K : PySem.W.Frag) (mg : Str → Option Value) (base : Heap) (x : Str) (k : Nat) (sp : SpN) : Prop where
  ex : ∃ f fd ps, GnOk P w K mg base k f fd ps (liftN K sp) ∧ mg x = some (.ref f) ∧ PySem.W.keepIn K (.ref f) = true ∧ Binds K fd ps []
section
variable {X : Cx} {B : Hp} {W0 : Wd} {S : En} {pos p apos : Pos} {e o : Expr} {es : List Expr} {x : Str} {k : Nat}
theorem ContF.step {K : PySem.W.Frag} {g : List Code} {W W1 : Wd} {H H1 : Hp} {Q : List D → Prop} {R : VK} (c : ContF K g W H Q R) (a : Stp W H W1 H1) (ok : Ok g W1 H1) : ContF K g W1 H1 Q R := fun l p xs W' H' s ok' hp n i hl d q => c l p xs W' H' (a.trans ok s) ok' (a.free ok hp) n i hl d q
theorem fd_callN {sp : SpN} {Q : List D → Prop} (F : Nf X.prog X.w X.K X.mg X.base x k sp) (hr : Room k X.A) (hG : X.A.guards = some (gOf X)) (h : AD X B S (e :: es) fun as => sp as Q) (hg : Gl X x := by rfl) (hdb : (x == ("__debug__" : Str)) = false := by decide)
    (he : starEach (e :: es) X.env = (false, eval e X.env) :: starEach es X.env := by rfl) (hpl : (backTo pos (starEach es X.env)).any (·.1) = false := by rfl) : FD X B S (.Call (.Name x p) (e :: es) [] pos) Q := fun σ W H r R c => by
  obtain ⟨f, fd, ps, F, hm, hk, hb⟩ := F.ex
  refine we_call F hr hG hg hm hk hb .nil ?_ hdb he hpl
  refine h σ W H r _ fun as vs W1 H1 s1 ok1 n1 q1 => ?_
  rw [List.append_nil]
  exact ⟨as, W1, Q, ok1, n1, q1, c.step s1 ok1⟩
/-- two ints in a list of one's own: a pot -/
theorem Ok.pot2 {g : List Code} {W : Wd} {H : Hp} {q : Addr} {x y : Int} (ok : Ok g W H) (i : W.I q = none) (h : H q = some (.lst [.int x, .int y])) (hy : 0 ≤ y ∧ y < 2 ^ 31) : Ok g ⟨W.I, fun b => W.P b ∨ b = q⟩ H :=
  ⟨ok.gd, ok.ex, fun a pa => pa.elim (ok.pot a) fun z => by subst z; exact ⟨i, x, y, h, hy⟩⟩
theorem Stp.pot2 {W W1 : Wd} {H H1 : Hp} {q : Addr} (a : Stp W H W1 H1) (hq : H q = none) : Stp W H ⟨W1.I, fun b => W1.P b ∨ b = q⟩ H1 :=
  ⟨a.I, fun b h => .inl (a.P b h), a.keep, a.old, fun b o hb z => z.elim (a.oldP b o hb) fun e => by rw [e, hq] at hb; cases hb⟩
theorem dns_two {K : PySem.W.Frag} {I : Hp} {a b : Int} {xs : List V} (h : Dns K I [.int a, .int b] xs) : xs = [.int a, .int b] := by
  cases h with
  | cons h r => cases h; cases r with
    | cons h r => cases h; cases r; rfl
theorem ad_newpot {Q : List Sl → Prop} (h : FD X B S e fun l => ∃ a b : Int, l = [.int a, .int b] ∧ (0 ≤ b ∧ b < 2 ^ 31) ∧ AD X B S es fun as => Q (.pot :: as)) (hs : starEach (e :: es) X.env = (false, eval e X.env) :: starEach es X.env := by rfl) : AD X B S (e :: es) Q := fun σ W H r R k => by
  refine PA.w (pa_cons we_pe wa_pa hs) ?_
  refine h σ W H r _ fun l q xs W1 H1 s1 ok1 hp n i hl d q1 => ?_
  obtain ⟨a, b, rfl, hab, q1⟩ := q1
  rw [dns_two d] at hl
  have ok2 := ok1.pot2 i hl hab
  have st2 := s1.pot2 hp
  refine q1 σ _ H1 (r.step st2 ok2) _ fun as vs W3 H3 s3 ok3 n3 q3 => ?_
  exact k (.pot :: as) (.ref q :: vs) W3 H3 (st2.trans ok2 s3) ok3 (.cons ⟨q, rfl, s3.P q (.inr rfl)⟩ n3) q3
end
/-- a block that ends by handing a new list back -/
def SN (X : Cx) (B : Hp) (W0 : Wd) (S : En) (sts : List Stmt) (Q : List D → Prop) : Prop := ∀ σ W H, Rep X.K (gOf X) B S σ W H → Stp W0 B W H → ∀ R, ContF X.K (gOf X) W0 B Q R → WSs X sts { nx := fun _ H' => R .non H', rt := R } σ H
section
variable {X : Cx} {B : Hp} {W0 : Wd} {S : En} {pos : Pos} {e : Expr} {st : Stmt} {sts : List Stmt} {Q : List D → Prop}
theorem sn_ret (h : FD X B S e Q) : SN X B W0 S [.Return (some e) pos] Q := fun σ W H r z R c => by
  refine PSs.w (pss_cons (ps_ret we_pe) pss_nil) ?_
  exact h σ W H r R fun l p xs W2 H2 s2 ok2 hp n i hl d q2 => c l p xs W2 H2 (z.trans r.ok s2) ok2 (z.free r.ok hp) n i hl d q2
theorem sn_cons (h : SD X B W0 S st { nx := fun S' => SN X B W0 S' sts Q, rt := fun _ => False }) : SN X B W0 S (st :: sts) Q := fun σ W H r z R c => by
  refine PSs.w (pss_cons ws_ps wss_pss) ?_
  exact h σ W H r z _ ⟨fun S' σ' W' H' r' z' _ q => q σ' W' H' r' z' R c, fun _ _ _ _ _ _ _ _ q => q.elim, fun _ _ _ _ _ _ _ q => q.elim, fun _ _ _ _ _ _ _ q => q.elim⟩
end
section
variable {P : Program} {w : World} {K : PySem.W.Frag} {mg : Str → Option Value} {base : Heap}
/-- a def that ends by handing a new list back -/
theorem gn_new {x qual : Str} {st : Stmt} {f : Addr} {fd : FuncData} {N ps : List Str} {k : Nat} {sp : SpN} (F : FunS K x qual st f fd) (hS : FnScope N ps (defScope st)) (len : ∀ as Q, sp as Q → as.length = ps.length)
    (body : ∀ cdv A outer s H, Room k (A.deeper (PyProof.Rows.envOfC qual (defScope st) s.heap.objs.size f cdv)) → (Bx P w K mg base N qual st f cdv A outer s H).A.guards = some (gOf (Bx P w K mg base N qual st f cdv A outer s H)) → ∀ W as Q, sp as Q →
      SN (Bx P w K mg base N qual st f cdv A outer s H) H W (startE N as) (defBody st) Q) : GnOk P w K mg base (k + 1) f fd ps (liftN K sp) := by
  refine gn_of F hS (fun g vs H Q h => ?_) (fun cdv A outer s H g vs R hr hG h => ?_)
  · obtain ⟨as, W, Qd, _, ha, hsp, _⟩ := h
    rw [← len _ _ hsp]
    exact (Paired.length ha).symm
  · obtain ⟨as, W, Qd, ok, ha, hsp, c⟩ := h
    obtain ⟨e1, e2⟩ := gOf_bx (P := P) (w := w) (K := K) (mg := mg) (base := base) (N := N) (qual := qual) (st := st) (f := f) (cdv := cdv) (outer := outer) (s := s) (H := H) hG
    refine ⟨WSs _ _, wss_pss, body cdv A outer s H hr (by rw [e2]; exact e1) W as Qd hsp (L2.start N vs) W H (by rw [e2]; exact rep_start ok ha) Stp.refl R ?_⟩
    rw [e2]
    exact c
end
section
variable {X : Cx} {B : Hp} {W0 : Wd} {S : En} {e a b : Expr} {es : List Expr} {pos : Pos} {E : Ends'}
end
/-- x[j], x the script -/
theorem ed_ixF {X : Cx} {B : Hp} {S : En} {a b : Expr} {pos : Pos} {Q : D → Prop} (h : ED X B S a fun x => ED X B S b fun y => ∃ (l : List Int) (j : Nat) (z : Int), x = .frl l ∧ y = .int (j : Int) ∧ l[j]? = some z ∧ Q (.int z)) (hs : PlainIx b := by exact fun _ _ => rfl) : ED X B S (.Subscript a b pos) Q := fun σ W H r R k => by
  refine PE.w (pe_ix ix_list we_pe we_pe hs) ?_
  refine h σ W H r _ fun d v W1 H1 s1 ok1 n1 q1 => ?_
  refine q1 σ W1 H1 (r.step s1 ok1) _ fun d2 u W2 H2 s2 ok2 n2 q2 => ?_
  obtain ⟨l, j, z, rfl, rfl, e, q⟩ := q2
  have k2 := (k.step s1 ok1).step s2 ok2
  cases n2
  cases n1 with
  | frl h => exact ⟨_, _, (j : Int), .int z, rfl, rfl, ok2.ex.l (s2.I.l h), atI_nat (by rw [List.getElem?_map, e]; rfl), k2.now ok2 (.int z) q⟩
end DL

set_option Elab.async false
set_option linter.all false
set_option maxRecDepth 100000
set_option maxHeartbeats 4000000
/-! a comprehension whose list goes to a name at once -/
namespace DL
open PySem L2
def LC (X : Cx) (B : Hp) (S : En) (t : TE) (Q : List D → Prop) : Prop := ∀ σ W H, Rep X.K (gOf X) B S σ W H → ∀ R, ContF X.K (gOf X) W H Q R → t σ H R
section
variable {X : Cx} {B : Hp} {W0 : Wd} {S : En} {e a b : Expr} {es : List Expr} {pos : Pos} {E : Ends'}
/-- [elt for g in a list], without a test -/
theorem lc_L {elt iter : Expr} {scope : Scope} {own : List (Str × Nat)} {g : TG} {l : List D} {Q : List D → Prop} (J : Nat → List D → Prop) (S' : D → En) 
    (h : ED X B S iter fun d => d = .lst l ∧ l.length ≤ 50000 ∧ J 0 []) (hp : ∀ d ∈ l, Pat X.K g (own.map (·.2)) S d (S' d))
    (he : ∀ (i : Nat) d acc, l[i]? = some d → acc.length = i → J i acc → ∀ (s : Shared) (H0 : Hp) (C : Addr) (cl : List (Str × Addr)) (fp : List Addr), ED (X.blk s H0 scope (compEnvC scope cl C X.env) fp) B (S' d) elt fun y => J (i + 1) (acc ++ [y]))
    (hd : ∀ acc, acc.length = l.length → J l.length acc → Q acc) : LC X B S (tLc (iList X.K (WE X iter)) g tYes (WEb X scope elt) (own.map (·.2))) Q := fun σ W H r R k => by
  refine h σ W H r _ fun d v W1 H1 s1 ok1 n1 q1 => ?_
  obtain ⟨rfl, hz, j0⟩ := q1
  cases n1 with
  | @lst _ a xs ha m =>
    refine ⟨a, rfl, ⟨xs, SqL.of (ok1.ex _ _ ha)⟩, fun p hp0 => ?_⟩
    have r1 := r.step s1 ok1
    refine lc_list (K := X.K) (a := a) (xs := xs) (fun i H' => ∃ acc W', Mid X.K (gOf X) W1 H1 p acc W' H' ∧ acc.length = i ∧ J i acc) ⟨[], W1, ⟨Stp.own hp0, ok1.own hp0, ok1.notP hp0, ok1.free hp0, [], upd_same, .nil⟩, rfl, j0⟩
      (fun i H' _ ⟨acc, W', mm, _⟩ => SqL.of (mm.ok.ex _ _ (mm.st.I _ _ ha))) ?_ ?_
    · rintro i x H' hx ⟨acc, W', mm, hl, j⟩
      obtain ⟨d, hd', nd⟩ := m.get hx
      have r2 := r1.step mm.st mm.ok
      refine hp d (List.mem_of_getElem? hd') (gOf X) B σ W' H' x r2 (nd.mono mm.st.I) _ fun σ2 e2 r3 => ⟨e2, ?_⟩
      show WEb X scope elt σ2 H' _
      intro s H0 C cl fp
      refine he i d acc hd' hl j s H0 C cl fp σ2 W' H' r3 _ fun y v W2 H2 s2 ok2 n2 q2 => ?_
      have lt : i < l.length := (List.getElem?_eq_some_iff.mp hd').1
      obtain ⟨xs', e1, e3, m3⟩ := (mm.step s2 ok2).more hp0 n2 (by omega)
      exact ⟨xs', e1, e3, _, W2, m3, by simp [hl], q2⟩
    · rintro H' ⟨acc, W', mm, hl, j⟩
      obtain ⟨ys, hH, ds⟩ := mm.h
      rw [← m.length] at hl j
      exact k acc p ys W' H' (s1.trans ok1 mm.st) mm.ok (s1.free ok1 hp0) mm.n mm.i hH ds (hd acc hl j)
theorem sd_ownLc {i : Nat} {y : Str} {py spos : Pos} {elt tg iter : Expr} {scope : Scope} {own : List (Str × Nat)} {wi : TI} {g : TG} (hc : X.calm = true) (hN : X.N.Nodup) (hy : X.N[i]? = some y) (hyl : X.env.scope.names.lookup y = some .local) (hi : PI X tg iter wi) (ok : BlkOk X.N X.env.scope scope own)
    (hg : ∀ (s : Shared) (H : Hp) (C : Addr) (cl : List (Str × Addr)) (fp : List Addr), PG (X.blk s H scope (compEnvC scope cl C X.env) fp) tg g)
    (h : LC X B S (tLc wi g tYes (WEb X scope elt) (own.map (·.2))) fun l => E.nx (S.set i (some (.own l))))
    (hsw : swapsWith (.ListComp elt [⟨tg, iter, [], 0⟩] scope pos) (some (.Name y py)) spos.line X.env = pure true := by exact sw_true rfl rfl rfl rfl) (hs : ∀ x, foldedSetIterable iter X.env x = pure x := by intro _; rfl) :
    SD X B W0 S (.Assign [.Name y py] (.ListComp elt [⟨tg, iter, [], 0⟩] scope pos) spos) E := fun σ W H r z D' k => by
  refine PS.w (ps_setLc (i := i) hc hN hy hyl hsw hi ok hg (fun _ _ _ _ _ => pts_nil) web_pe hs) ?_
  exact h σ W H r _ fun l p xs W1 H1 s1 ok1 hp n i1 hl d q1 => k.nx _ _ W1 H1 ((r.step s1 ok1).setOwn (z.free r.ok hp) n i1 hl d fun j m e1 e2 => by
    obtain ⟨v, e3, p2, ys, e4, _, _, _, h4, _⟩ := r.sl j _ e1
    rw [e2] at e3
    cases e3
    cases e4
    rw [hp] at h4
    cases h4) (z.trans r.ok s1) s1.I q1
end
end DL

set_option Elab.async false
set_option linter.all false
set_option maxRecDepth 100000
set_option maxHeartbeats 4000000
/-! all, any; defs called by keywords; comprehensions with a test, with two ranges -/
namespace DL
open PySem PySem.Spec PyProof.Rows L2
theorem Dns.bls {K : PySem.W.Frag} {I : Hp} : ∀ {bs : List Bool} {xs : List V}, Dns K I (bs.map D.bl) xs → xs = bs.map V.bl
  | [], _, .nil => rfl
  | b :: bs, _, .cons (.bl _) r => by rw [List.map_cons, Dns.bls r]
section
variable {X : Cx} {B : Hp} {S : En} {pos p : Pos} {Q : D → Prop} {e : Expr} {es : List Expr} {x : Str} {k n : Nat} {kws : List Keyword}
theorem cd_all {bs : List Bool} (hc : X.calm = true) (q : Q (.bl (bs.all id))) : CD X (.builtin "all") [.val (.lst (bs.map D.bl))] Q := cd_of (cr_all hc) fun vs W H ok ha R c => by
  obtain ⟨v, rfl, h⟩ := one_arg ha
  cases h with
  | lst h z => exact ⟨_, bs, rfl, by rw [← z.bls]; exact SqL.of (ok.ex _ _ h), c.now ok (.bl _) q⟩
/-! a def called by keywords alone -/
theorem we_callK0 {f : Addr} {fd : FuncData} {ps ks : List Str} {sp : SpG} {g : List Code} {gf : List Value → List Value → List Value} {gV : List V → List V → List V} {σ : L2.St} {H : Hp} {Q : VK}
    (F : GnOk X.prog X.w X.K X.mg X.base k f fd ps sp) (hr : Room k X.A) (hG : X.A.guards = some g) (hg : Gl X x) (hm : X.mg x = some (.ref f)) (hk : PySem.W.keepIn X.K (.ref f) = true) (hb : KBn X.K fd ps 0 ks gf gV)
    (h : WK X kws σ H fun zs H1 => zs.length = ks.length ∧ sp g (gV [] zs) H1 Q)
    (hall : (backToKw pos (keywordEach kws X.env)).all (·.1.isSome) = true) (hks : (backToKw pos (keywordEach kws X.env)).filterMap (·.1) = ks) (hdb : (x == ("__debug__" : Str)) = false)
    (hpl : ((backTo pos (starEach [] X.env)).any (·.1) || (backToKw pos (keywordEach kws X.env)).any (·.1.isNone)) = false) : WE X (.Call (.Name x p) [] kws pos) σ H Q := fun pins s I => by
  refine wpAny_Call_Name_kw (ld_glob I hg hm ?_ hdb)
  refine PySem.W.callWith_KW0 (h₀ := X.base) I.ok.mod.kin hk hall (thn (h pos pins s I) fun ws s2 ⟨zs, H2, I2, rz, l2, q2⟩ => ⟨I2.kIn, ?_⟩) hpl
  rw [hks]
  have n2 : ws.length = ks.length := by rw [← rz.length, l2]
  exact wpAny_call (run_gb F hr hG I2.env0 (hb.to _ [] ws I2.kIn rfl n2) I2 (hb.rel (vs := []) (us := []) .nil rz) q2 fun _ _ z => z)
structure DfK (P : Program) (w : World) (K : PySem.W.Frag) (mg : Str → Option Value) (base : Heap) (x : Str) (k : Nat) (ks : List Str) (midD : List Sl → List Sl) (sp : SpD) : Prop where
  ex : ∃ f fd ps gf, ∃ mid : List V → List V, GnOk P w K mg base k f fd ps (lift K sp) ∧ mg x = some (.ref f) ∧ PySem.W.keepIn K (.ref f) = true ∧ KBn K fd ps 0 ks gf (fun vs zs => vs ++ mid zs) ∧ ∀ W bs zs, Args K W bs zs → Args K W (midD bs) (mid zs)
theorem ed_callK0 {ks : List Str} {midD : List Sl → List Sl} {sp : SpD} (F : DfK X.prog X.w X.K X.mg X.base x k ks midD sp) (hr : Room k X.A) (hG : X.A.guards = some (gOf X)) (h : KD X B S kws fun bs => bs.length = ks.length ∧ sp (midD bs) Q) (hg : Gl X x := by rfl)
    (hall : (backToKw pos (keywordEach kws X.env)).all (·.1.isSome) = true := by rfl) (hks : (backToKw pos (keywordEach kws X.env)).filterMap (·.1) = ks := by rfl) (hdb : (x == ("__debug__" : Str)) = false := by decide)
    (hpl : ((backTo pos (starEach [] X.env)).any (·.1) || (backToKw pos (keywordEach kws X.env)).any (·.1.isNone)) = false := by rfl) : ED X B S (.Call (.Name x p) [] kws pos) Q := fun σ W H r R c => by
  obtain ⟨f, fd, ps, gf, mid, F, hm, hk, hb, hc⟩ := F.ex
  refine we_callK0 F hr hG hg hm hk hb ?_ hall hks hdb hpl
  refine h σ W H r _ fun bs zs W1 H1 s1 ok1 n1 q1 => ?_
  obtain ⟨l, q1⟩ := q1
  exact ⟨by rw [← l]; exact (Paired.length n1).symm, midD bs, W1, Q, ok1, hc _ _ _ n1, q1, c.step s1 ok1⟩
/-! comprehensions with a test -/
/-- [elt for g in a tuple] -/
theorem fd_lcT {elt tg iter : Expr} {scope : Scope} {own : List (Str × Nat)} {g : TG} {l : List D} {Q : List D → Prop} (J : Nat → List D → Prop) (S' : D → En) (hc : X.calm = true) (hN : X.N.Nodup) (ok : BlkOk X.N X.env.scope scope own)
    (hg : ∀ (s : Shared) (H : Hp) (C : Addr) (cl : List (Str × Addr)) (fp : List Addr), PG (X.blk s H scope (compEnvC scope cl C X.env) fp) tg g)
    (h : ED X B S iter fun d => d = .tup l ∧ l.length ≤ 50000 ∧ J 0 []) (hp : ∀ d ∈ l, Pat X.K g (own.map (·.2)) S d (S' d))
    (he : ∀ (i : Nat) d acc, l[i]? = some d → acc.length = i → J i acc → ∀ (s : Shared) (H0 : Hp) (C : Addr) (cl : List (Str × Addr)) (fp : List Addr), ED (X.blk s H0 scope (compEnvC scope cl C X.env) fp) B (S' d) elt fun y => J (i + 1) (acc ++ [y]))
    (hd : ∀ acc, acc.length = l.length → J l.length acc → Q acc) (hs : ∀ x, foldedSetIterable iter X.env x = pure x := by intro _; rfl) : FD X B S (.ListComp elt [⟨tg, iter, [], 0⟩] scope pos) Q := fun σ W H r R k => by
  refine PE.w (pe_lc (te := WEb X scope elt) hc hN (pi_tup we_pe) ok hg (fun _ _ _ _ _ => pts_nil) web_pe hs) ?_
  refine h σ W H r _ fun d v W1 H1 s1 ok1 n1 q1 => ?_
  obtain ⟨rfl, hz, j0⟩ := q1
  cases n1 with
  | @tup _ a xs ha m =>
    refine ⟨a, rfl, ⟨xs, SqT.of (ok1.ex _ _ ha)⟩, fun p hp0 => ?_⟩
    have r1 := r.step s1 ok1
    refine lc_tup (K := X.K) (a := a) (xs := xs) (fun i H' => ∃ acc W', Mid X.K (gOf X) W1 H1 p acc W' H' ∧ acc.length = i ∧ J i acc) ⟨[], W1, ⟨Stp.own hp0, ok1.own hp0, ok1.notP hp0, ok1.free hp0, [], upd_same, .nil⟩, rfl, j0⟩
      (fun i H' _ ⟨acc, W', mm, _⟩ => SqT.of (mm.ok.ex _ _ (mm.st.I _ _ ha))) ?_ ?_
    · rintro i x H' hx ⟨acc, W', mm, hl, j⟩
      obtain ⟨d, hd', nd⟩ := m.get hx
      have r2 := r1.step mm.st mm.ok
      refine hp d (List.mem_of_getElem? hd') (gOf X) B σ W' H' x r2 (nd.mono mm.st.I) _ fun σ2 e2 r3 => ?_
      refine ⟨e2, ?_⟩
      show WEb X scope elt σ2 H' _
      intro s H0 C cl fp
      have lt : i < l.length := (List.getElem?_eq_some_iff.mp hd').1
      refine he i d acc hd' hl j s H0 C cl fp σ2 W' H' r3 _ fun y v W2 H2 s2 ok2 n2 q2 => ?_
      obtain ⟨xs', e1, e3, m3⟩ := (mm.step s2 ok2).more hp0 n2 (by omega)
      exact ⟨xs', e1, e3, _, W2, m3, by simp [hl], q2⟩
    · rintro H' ⟨acc, W', mm, hl, j⟩
      obtain ⟨ys, hH, ds⟩ := mm.h
      rw [← m.length] at hl j
      exact k acc p ys W' H' (s1.trans ok1 mm.st) mm.ok (s1.free ok1 hp0) mm.n mm.i hH ds (hd acc hl j)
end
end DL

set_option Elab.async false
set_option linter.all false
set_option maxRecDepth 100000
set_option maxHeartbeats 2000000
/-! zip of a list or a tuple with a list or a tuple, whichever each is -/
namespace ZX
open PySem PySem.Spec PyProof.Rows
/-- an iterator at `it` that goes through the items of what stands at `l` -/
structure Feed where
  it : Addr
  l : Addr
  xs : Array Value
  st : Nat → Heap → Prop
  src : Heap → Prop
  stE : ∀ {h h' : Heap} {b : Addr} {k : Nat}, st k h → Heap.ExtBut b h h' → it ≠ b → st k h'
  srcE : ∀ {h h' : Heap} {b : Addr}, src h → Heap.ExtBut b h h' → l ≠ b → src h'
  item : ∀ {p : Program} {w : World} {A : Around} {E : Value → Shared → Prop} {s : Shared} {k : Nat} {x : Value} {Q : Value → Shared → Prop}, st k s.heap → src s.heap → xs[k]? = some x →
    (∀ h', st (k + 1) h' → Heap.SameBut it s.heap h' → Q x { s with heap := h' }) → wpAny (model p w) A (Builtin.SmallTypes.nextOf (.ref it)) Q E s
  done : ∀ {p : Program} {w : World} {A : Around} {E : Value → Shared → Prop} {s : Shared} {k : Nat} {Q : Value → Shared → Prop}, A.handled = none → st k s.heap → src s.heap → xs[k]? = none →
    (∀ h' e, Heap.ExtBut it s.heap h' → (∃ o, h'.get? e = some o ∧ o.cls = .type "StopIteration") → E (.ref e) { s with heap := h' }) → wpAny (model p w) A (Builtin.SmallTypes.nextOf (.ref it)) Q E s
  obj : ∀ {h : Heap} {k : Nat}, st k h → ∃ o, h.get? it = some o ∧ ∀ v, o.data ≠ .cell v
  same : ∀ {h h' : Heap} {k : Nat}, st k h → (∀ o, h.get? it = some o → h'.get? it = some o) → st k h'
def feedL (it l : Addr) (xs : Array Value) : Feed where
  it := it
  l := l
  xs := xs
  st := fun k h => h.IsListIter it l k
  src := fun h => h.IsList l xs
  stE := fun a b c => a.extBut b c
  srcE := fun a b c => a.extBut b c
  item := fun a b c d => wpAny_nextOf_list_item a b c d
  done := fun a b c d e => wpAny_nextOf_list_end a b c d e
  obj := fun ⟨o, e, _, d⟩ => ⟨o, e, fun v q => by rw [d] at q; cases q⟩
  same := fun a b => a.at b
def feedT (it l : Addr) (xs : Array Value) : Feed where
  it := it
  l := l
  xs := xs
  st := fun k h => h.IsTupleIter it l k
  src := fun h => h.IsTuple l xs
  stE := fun a b c => a.extBut b c
  srcE := fun a b c => a.extBut b c
  item := fun a b c d => RZ.nextOf_tuple_item a b c d
  done := fun a b c d e => RZ.nextOf_tuple_end a b c d e
  obj := fun ⟨o, e, _, d⟩ => ⟨o, e, fun v q => by rw [d] at q; cases q⟩
  same := fun a b => a.at b
section
variable {p : Program} {w : World} {A : Around} {E : Value → Shared → Prop} {s : Shared} {M N : Feed} {z TI TO : Addr} {i j : Nat} {a b : Value}
/-- how the zip stands ahead of a turn -/
structure Stands (M N : Feed) (z TI TO : Addr) (i j : Nat) (h : Heap) : Prop where
  z : IsZip h z TI TO .none
  ti : IsPair h TI (.ref M.it) (.ref N.it)
  to : ∃ a b, IsPair h TO a b
  f : M.st i h
  g : N.st j h
end
end ZX
namespace ZX
open PySem PySem.Spec PyProof.Rows
/-- t: a tuple, else a list -/
def Stand : Bool → Heap → Addr → Array Value → Prop
  | true => fun h l xs => h.IsTuple l xs
  | false => fun h l xs => h.IsList l xs
def feed (t : Bool) (it l : Addr) (xs : Array Value) : Feed := match t with
  | true => feedT it l xs
  | false => feedL it l xs
abbrev io (t : Bool) (l : Addr) : Obj := { cls := .type (match t with | true => "tuple_iterator" | false => "list_iterator"), data := .fields #[.ref l, .int 0 0] }
abbrev n1 (t1 : Bool) (h : Heap) (l1 : Addr) : Heap := h.push (io t1 l1)
abbrev n2 (t1 t2 : Bool) (h : Heap) (l1 l2 : Addr) : Heap := (n1 t1 h l1).push (io t2 l2)
abbrev n3 (t1 t2 : Bool) (h : Heap) (l1 l2 : Addr) : Heap := (n2 t1 t2 h l1 l2).push { cls := .type "tuple", data := .seq #[.ref h.objs.size, .ref (n1 t1 h l1).objs.size] }
abbrev n4 (t1 t2 : Bool) (h : Heap) (l1 l2 : Addr) : Heap := (n3 t1 t2 h l1 l2).push { cls := .type "tuple", data := .seq #[.none, .none] }
abbrev n5 (t1 t2 : Bool) (h : Heap) (l1 l2 : Addr) : Heap := (n4 t1 t2 h l1 l2).push { cls := .type "zip", data := .fields #[.none, .bool false, .bool false, .ref (n2 t1 t2 h l1 l2).objs.size, .ref (n3 t1 t2 h l1 l2).objs.size] }
section
variable {p : Program} {w : World} {A : Around} {E : Value → Shared → Prop} {s : Shared} {M N : Feed} {z TI TO : Addr} {i j : Nat} {a b : Value}
end
end ZX

set_option Elab.async false
set_option linter.all false
set_option maxRecDepth 100000
set_option maxHeartbeats 4000000
/-! comprehensions over zip -/
namespace DL
open PySem PySem.Spec PyProof.Rows L2 ZX
/-- t: a tuple, else a list -/
def SqB (K : PySem.W.Frag) : Bool → Hp → Addr → List V → Prop
  | true => fun H a xs => SqT K H a xs
  | false => fun H a xs => SqL K H a xs
/-- the two sequences as they stand at each turn, the items in new pairs -/
def Itm (K : PySem.W.Frag) (t u : Bool) (a b : Addr) : It where
  go := fun i H => ∃ (xs ys : List V) (x y : V), SqB K t H a xs ∧ SqB K u H b ys ∧ xs[i]? = some x ∧ ys[i]? = some y
  yld := fun i H v H' => ∃ T x y, v = .ref T ∧ H T = none ∧ H' = upd H T (.tup [x, y]) ∧ (∀ xs, SqB K t H a xs → xs[i]? = some x) ∧ ∀ ys, SqB K u H b ys → ys[i]? = some y
  stop := fun i H => ∃ xs ys : List V, SqB K t H a xs ∧ SqB K u H b ys ∧ (xs.length ≤ i ∨ ys.length ≤ i)
/-- the iterators go through a, b, whatever these hold -/
def Goes (t u : Bool) (i1 i2 a b z TI TO : Addr) (i : Nat) (h : Heap) : Prop := Stands (feed t i1 a #[]) (feed u i2 b #[]) z TI TO i i h
def iZm (K : PySem.W.Frag) (ta : TA) : TI := fun σ H R => ta σ H fun vs H1 => ∃ t u a b xs ys, vs = [.ref a, .ref b] ∧ SqB K t H1 a xs ∧ SqB K u H1 b ys ∧ R (Itm K t u a b) H1
/-- a list or a tuple of these -/
def SeqD (d : D) (l : List D) : Prop := d = .lst l ∨ d = .tup l
theorem SeqD.at {K : PySem.W.Frag} {I : Hp} {d : D} {l : List D} {v : V} (s : SeqD d l) (n : Dn K I d v) : ∃ t a xs, v = .ref a ∧ Dns K I l xs ∧ ∀ H, Ex I H → SqB K t H a xs := by
  rcases s with rfl | rfl
  · cases n with
    | lst h m => exact ⟨false, _, _, rfl, m, fun H e => SqL.of (e _ _ h)⟩
  · cases n with
    | tup h m => exact ⟨true, _, _, rfl, m, fun H e => SqT.of (e _ _ h)⟩
section
variable {X : Cx} {B : Hp} {S : En} {pos : Pos} {e e2 : Expr}
end
end DL

set_option Elab.async false
set_option linter.all false
set_option maxRecDepth 100000
set_option maxHeartbeats 4000000
/-! a list of lists that change -/
namespace DL
open PySem PySem.Spec PyProof.Rows L2
theorem ok_upd {g : List Code} {W : Wd} {H : Hp} {q : Addr} {o : HO} (ok : Ok g W H) (n : ¬ W.P q) (i : W.I q = none) (ht : ∀ xs, o ≠ .tup xs := by exact fun _ z => by cases z) : Ok g W (upd H q o) where
  gd := fun b hb => by
    obtain ⟨n1, n2⟩ := ok.gd b hb
    refine ⟨n1, ?_⟩
    by_cases z : b = q
    · subst z
      rw [upd_same]
      exact ⟨(fun z => by cases z), (fun _ z => ht _ (Option.some.inj z))⟩
    · rw [upd_ne z]
      exact n2
  ex := fun b u hb => by
    rw [upd_ne (fun y => by rw [y, i] at hb; cases hb)]
    exact ok.ex b u hb
  pot := fun b hb => by
    obtain ⟨nb, y2, w2, h2⟩ := ok.pot b hb
    have ne : b ≠ q := fun y => n (y ▸ hb)
    exact ⟨nb, y2, w2, by rw [upd_ne ne]; exact h2⟩
theorem stp_upd {W W0 : Wd} {B H : Hp} {q : Addr} {o : HO} (z : Stp W0 B W H) (hB : B q = none) : Stp W0 B W (upd H q o) :=
  ⟨z.I, z.P, fun b u hb hn => by rw [upd_ne (ne_of_none hb hB)]; exact z.keep b u hb hn, z.old, z.oldP⟩
theorem ixN_lt {n j : Nat} (hj : j < n) : ixN n (j : Int) = some j := by
  unfold ixN
  rw [if_pos (by omega), if_pos (by omega), Int.toNat_natCast]
/-- a new list at p of new lists at qs: each at one place alone -/
structure Nest (K : PySem.W.Frag) (B : Hp) (W : Wd) (H : Hp) (p : Addr) (qs : List Addr) (rows : List (List D)) : Prop where
  b : B p = none
  n : ¬ W.P p
  i : W.I p = none
  h : H p = some (.lst (qs.map V.ref))
  nd : (p :: qs).Nodup
  len : qs.length = rows.length
  row : ∀ (j : Nat) q l, qs[j]? = some q → rows[j]? = some l → B q = none ∧ ¬ W.P q ∧ W.I q = none ∧ ∃ xs, H q = some (.lst xs) ∧ Dns K W.I l xs
section
variable {K : PySem.W.Frag} {B : Hp} {W W1 : Wd} {H H1 : Hp} {p : Addr} {qs : List Addr} {rows : List (List D)}
end
def plainS : Option Sl → Bool
  | some (.own _) => false
  | some (.ownT _) => false
  | some (.inst _ _ _ _) => false
  | _ => true
def PlainE (S : En) : Bool := S.all plainS
structure NEnds where
  nx : En → List (List D) → Prop
  rt : D → Prop
structure NSub (K : PySem.W.Frag) (g : List Code) (B : Hp) (W0 : Wd) (I : Hp) (p : Addr) (qs : List Addr) (E : NEnds) (D' : Ends) : Prop where
  nx : ∀ S σ W H rows, Rep K g B S σ W H → PlainE S = true → Nest K B W H p qs rows → Stp W0 B W H → Ex I W.I → E.nx S rows → D'.nx σ H
  rt : ∀ d v W H, Ok g W H → Stp W0 B W H → Ex I W.I → Dn K W.I d v → E.rt d → D'.rt v H
section
variable (X : Cx) (B : Hp) (W0 : Wd) (p : Addr) (qs : List Addr) (S : En) (rows : List (List D))
def NED (e : Expr) (Q : D → Prop) : Prop := ∀ σ W H, Rep X.K (gOf X) B S σ W H → Nest X.K B W H p qs rows → ∀ R, Cont X.K (gOf X) W H Q R → WE X e σ H R
def NGD (tg : Expr) (d : D) (Q : List (List D) → Prop) : Prop := ∀ σ W H v, Rep X.K (gOf X) B S σ W H → PlainE S = true → Nest X.K B W H p qs rows → Stp W0 B W H → Dn X.K W.I d v → ∀ R, (∀ rows' H', Rep X.K (gOf X) B S σ W H' → Nest X.K B W H' p qs rows' → Stp W0 B W H' → Q rows' → R σ H') → WG X tg v σ H R
def NSD (st : Stmt) (E : NEnds) : Prop := ∀ σ W H, Rep X.K (gOf X) B S σ W H → PlainE S = true → Nest X.K B W H p qs rows → Stp W0 B W H → ∀ D', NSub X.K (gOf X) B W0 W.I p qs E D' → WS X st D' σ H
def NSDs (sts : List Stmt) (E : NEnds) : Prop := ∀ σ W H, Rep X.K (gOf X) B S σ W H → PlainE S = true → Nest X.K B W H p qs rows → Stp W0 B W H → ∀ D', NSub X.K (gOf X) B W0 W.I p qs E D' → WSs X sts D' σ H
end
section
variable {X : Cx} {B : Hp} {W0 : Wd} {p : Addr} {qs : List Addr} {S : En} {rows : List (List D)} {st : Stmt} {sts : List Stmt} {E : NEnds} {pos : Pos} {e a b c : Expr} {Q : D → Prop}
end
end DL

set_option Elab.async false
set_option linter.all false
set_option maxRecDepth 100000
set_option maxHeartbeats 4000000
/-! lists of lists: made, given away; an owned list changed at a place, shortened -/
namespace DL
open PySem PySem.Spec PyProof.Rows L2
theorem Rep.putOwn {K : PySem.W.Frag} {g : List Code} {B : Hp} {S : En} {σ : L2.St} {W : Wd} {H : Hp} {i : Nat} {l l' : List D} {p : Addr} {xs xs' : List V} (r : Rep K g B S σ W H) (h : S[i]? = some (some (.own l))) (e1 : σ[i]? = some (some (.ref p))) (hB : B p = none) (n : ¬ W.P p) (hI : W.I p = none) (hH : H p = some (.lst xs)) (d : Dns K W.I l' xs') :
    Rep K g B (S.set i (some (.own l'))) σ W (upd H p (.lst xs')) := by
  have lt : i < S.length := (List.getElem?_eq_some_iff.mp h).1
  refine ⟨ok_upd r.ok n hI, r.gb, by simpa using r.len, fun j s ej => ?_, fun a b la lb q ne e2 e3 e4 => ?_, r.distT.setS i fun l z => by cases z⟩
  · by_cases q : i = j
    · subst q
      rw [List.getElem?_set_self lt] at ej
      cases ej
      exact ⟨_, e1, p, _, rfl, hB, n, hI, upd_same, d⟩
    · rw [List.getElem?_set_ne q] at ej
      obtain ⟨v2, e2, h2⟩ := r.sl j s ej
      refine ⟨v2, e2, ?_⟩
      cases s with
      | val d2 => exact h2
      | pot => exact h2
      | own m =>
        obtain ⟨p2, ys, rfl, b1, b2, b3, b4, b5⟩ := h2
        refine ⟨p2, ys, rfl, b1, b2, b3, ?_, b5⟩
        rw [upd_ne (fun y => by
          rw [y] at e2
          exact r.dist i j l m p q h ej e1 e2)]
        exact b4
      | ownT m =>
        obtain ⟨p2, ys, rfl, b1, b2, b3, b4, b5⟩ := h2
        refine ⟨p2, ys, rfl, b1, b2, b3, ?_, b5⟩
        rw [upd_ne (fun y => by rw [y, hH] at b4; cases b4)]
        exact b4
      | inst C p2 dx fs =>
        obtain ⟨vs, rfl, b1, b2, b3, b4, b5, b6, b7, b8, b9, b10⟩ := h2
        refine ⟨vs, rfl, b1, b2, b3, b4, b5, b6, b7, ?_, ?_, b10⟩
        · rw [upd_ne (fun y => by rw [y, hH] at b8; cases b8)]
          exact b8
        · rw [upd_ne (fun y => by rw [y, hH] at b9; cases b9)]
          exact b9
  · have g : ∀ {c : Nat} {m : List D}, (S.set i (some (.own l')))[c]? = some (some (.own m)) → ∃ m', S[c]? = some (some (.own m')) := fun {c m} ec => by
      by_cases q2 : i = c
      · subst q2
        exact ⟨l, h⟩
      · rw [List.getElem?_set_ne q2] at ec
        exact ⟨m, ec⟩
    obtain ⟨m1, g1⟩ := g e2
    obtain ⟨m2, g2⟩ := g e3
    exact r.dist a b m1 m2 q ne g1 g2 e4
section
variable {K : PySem.W.Frag} {g : List Code} {B : Hp} {W0 W : Wd} {H : Hp} {p : Addr} {qs : List Addr} {rows : List (List D)}
end
section
variable (X : Cx) (B : Hp) (W0 : Wd) (p : Addr) (qs : List Addr) (S : En) (rows : List (List D))
/-- from lists of lists on, to where they are given away -/
def NF (st : Stmt) (E : Ends') : Prop := ∀ σ W H, Rep X.K (gOf X) B S σ W H → PlainE S = true → Nest X.K B W H p qs rows → Stp W0 B W H → ∀ D', Sub X.K (gOf X) B W0 W.I E D' → WS X st D' σ H
def NFs (sts : List Stmt) (E : Ends') : Prop := ∀ σ W H, Rep X.K (gOf X) B S σ W H → PlainE S = true → Nest X.K B W H p qs rows → Stp W0 B W H → ∀ D', Sub X.K (gOf X) B W0 W.I E D' → WSs X sts D' σ H
/-- an expression that makes such lists -/
def NE (S : En) (e : Expr) (Q : List (List D) → Prop) : Prop := ∀ σ W H, Rep X.K (gOf X) B S σ W H → ∀ R : VK, (∀ p qs rows W' H', Stp W H W' H' → Ok (gOf X) W' H' → Nest X.K H W' H' p qs rows → Q rows → R (.ref p) H') → WE X e σ H R
end
section
variable {X : Cx} {B : Hp} {W0 : Wd} {p : Addr} {qs : List Addr} {S : En} {rows : List (List D)} {st : Stmt} {sts : List Stmt} {E : Ends'} {pos : Pos} {e e2 a b c : Expr}
end
end DL

set_option Elab.async false
set_option linter.all false
set_option maxRecDepth 100000
set_option maxHeartbeats 4000000
/-! lists of lists by comprehensions; x[i].append, x.pop(i), x[i] = .. -/
namespace DL
open PySem PySem.Spec PyProof.Rows L2
theorem dns_take {K : PySem.W.Frag} {I : Hp} : ∀ (n : Nat) {l : List D} {xs : List V}, Dns K I l xs → Dns K I (l.take n) (xs.take n)
  | 0, _, _, _ => .nil
  | _ + 1, _, _, .nil => .nil
  | n + 1, _, _, .cons h r => .cons h (dns_take n r)
theorem dns_drop {K : PySem.W.Frag} {I : Hp} : ∀ (n : Nat) {l : List D} {xs : List V}, Dns K I l xs → Dns K I (l.drop n) (xs.drop n)
  | 0, _, _, h => h
  | _ + 1, _, _, .nil => .nil
  | n + 1, _, _, .cons h r => dns_drop n r
def NLC (X : Cx) (B : Hp) (S : En) (t : TE) (Q : List (List D) → Prop) : Prop := ∀ σ W H, Rep X.K (gOf X) B S σ W H → ∀ R : VK, (∀ p qs rows W' H', Stp W H W' H' → Ok (gOf X) W' H' → Nest X.K H W' H' p qs rows → Q rows → R (.ref p) H') → t σ H R
structure Mid2 (K : PySem.W.Frag) (g : List Code) (W1 : Wd) (H1 : Hp) (p : Addr) (qs : List Addr) (rows : List (List D)) (W : Wd) (H : Hp) : Prop where
  st : Stp W1 H1 W H
  ok : Ok g W H
  m : Nest K H1 W H p qs rows
section
variable {X : Cx} {B : Hp} {W0 : Wd} {S : En} {st : Stmt} {sts : List Stmt} {E : Ends'} {pos : Pos} {e e2 a b c : Expr}
/-- list(e), e a list or a tuple -/
theorem fd_list {p : Pos} {Q : List D → Prop} (hm : X.mg "list" = none) (h : ED X B S e fun d => ∃ l, SeqD d l ∧ Q l) (hv : bootBuiltins "list" = some (.type "list") := by first | rfl | decide +kernel) (hg : Gl X "list" := by rfl)
    (he : starEach [e] X.env = (false, eval e X.env) :: starEach [] X.env := by rfl) (hpl : (backTo pos (starEach [] X.env)).any (·.1) = false := by rfl) : FD X B S (.Call (.Name "list" p) [e] [] pos) Q := fun σ W H r R k => by
  refine PE.w (pe_callTy call_list_of hg hm hv (pa_cons we_pe pa_nil he) (by decide) (by decide) he hpl) ?_
  refine h σ W H r _ fun d v W1 H1 s1 ok1 n1 q1 => ?_
  obtain ⟨l, sd, q1⟩ := q1
  obtain ⟨t, a, xs, rfl, w, hx⟩ := sd.at n1
  refine ⟨a, xs, rfl, ?_, fun p hp => ?_⟩
  · cases t with
    | false => exact .inl (hx _ ok1.ex)
    | true => exact .inr (hx _ ok1.ex)
  · exact k l p xs W1 _ (s1.trans ok1 (Stp.own hp)) (ok1.own hp) (s1.free ok1 hp) (ok1.notP hp) (ok1.free hp) upd_same w q1
/-- x[y] = .., x the owner of its list -/
theorem gd_ownAt {x y : Str} {px py : Pos} {d : D} {Q : En → Prop} (ix iy : Nat) (l : List D) {i : Nat} (hx : X.N[ix]? = some x) (hy : X.N[iy]? = some y) (sx : S[ix]? = some (some (.own l))) (sy : S[iy]? = some (some (.val (.int i)))) (hi : i < l.length) (q : Q (S.set ix (some (.own (l.set i d)))))
    (vx : Vis X.env.scope x := by first | exact Or.inl rfl | exact Or.inr (Or.inl rfl)) (vy : Vis X.env.scope y := by first | exact Or.inl rfl | exact Or.inr (Or.inl rfl))
    (x1 : (x == ("__debug__" : Str)) = false := by decide) (x2 : (x == ("__classdict__" : Str)) = false := by decide) (y1 : (y == ("__debug__" : Str)) = false := by decide) (y2 : (y == ("__classdict__" : Str)) = false := by decide)
    (ha : ∀ v, assign (.Subscript (.Name x px) (.Name y py) pos) X.env v = (do
      let ov ← holding [v] (eval (.Name x px) X.env)
      let iv ← holding [v, ov] (eval (.Name y py) X.env)
      standAt pos
      holding [v, ov, iv] (setItem ov iv v)
      release [v, ov, iv] []) := by intro _; rfl) : GD X B W0 S (.Subscript (.Name x px) (.Name y py) pos) d Q := fun σ W H v r z nd R k => by
  obtain ⟨v1, e1, p, xs, ev, hB, n, hI, hH, d0⟩ := r.sl ix _ sx
  subst ev
  obtain ⟨v2, e2, w2⟩ := r.sl iy _ sy
  cases (show Dn X.K W.I _ _ from w2)
  refine PG.w (pg_sub (pe_var hx vx x1 x2) (pe_var hy vy y1 y2) set_list ha) ⟨_, e1, _, e2, p, xs, i, i, rfl, rfl, hH, ixN_lt (by rw [← d0.length]; exact hi), ?_⟩
  exact k _ σ W _ (r.putOwn sx e1 hB n hI hH (Dns.set nd i d0)) (stp_upd z hB) (Ex.refl _) q
end
end DL

set_option Elab.async false
set_option linter.all false
set_option maxRecDepth 100000
set_option maxHeartbeats 4000000
/-! a dict literal, constants of the module, comprehensions over two ranges -/
namespace DL
open PySem PySem.Spec PyProof.Rows L2
section
variable {X : Cx} {B : Hp} {S : En} {pos : Pos} {Q : D → Prop} {e e1 : Expr} {x : Str}
end
end DL

set_option Elab.async false
set_option linter.all false
set_option maxRecDepth 100000
set_option maxHeartbeats 4000000
/-! comprehensions told by what each item must be -/
namespace DL
open PySem PySem.Spec PyProof.Rows L2
theorem Paired.snoc {α β : Type} {R : α → β → Prop} {x : α} {y : β} (h : R x y) : ∀ {l : List α} {m : List β}, Paired R l m → Paired R (l ++ [x]) (m ++ [y])
  | _, _, .nil => .cons h .nil
  | _, _, .cons a b => .cons a (Paired.snoc h b)
theorem paired_map {f : D → D} : ∀ {l out : List D}, Paired (fun d y => y = f d) l out → out = l.map f
  | _, _, .nil => rfl
  | _, _, .cons h t => by rw [List.map_cons, h, paired_map t]
/-- what stands in the slots when the item d has come to the name in slot j -/
abbrev itE (S : En) (own : List (Str × Nat)) (j : Nat) (d : D) : En := (wipeE S (own.map (·.2))).set j (some (.val d))
abbrev AllBlk (X : Cx) (scope : Scope) (R : Cx → Prop) : Prop := ∀ (s : Shared) (H0 : Hp) (C : Addr) (cl : List (Str × Addr)) (fp : List Addr), R (X.blk s H0 scope (compEnvC scope cl C X.env) fp)
section
variable {X : Cx} {B : Hp} {W0 : Wd} {S : En} {pos : Pos} {e e2 elt iter : Expr} {x : Str} {px : Pos} {scope : Scope} {own : List (Str × Nat)} {l l' : List D} {d0 : D} {Q : List D → Prop}
/-- [elt for x in a list or a tuple] -/
theorem fd_relS (G : D → D → Prop) (j : Nat) (hc : X.calm = true) (hN : X.N.Nodup) (ok : BlkOk X.N X.env.scope scope own) (hg : AllBlk X scope fun Y => PG Y (.Name x px) (gName j)) (sd : SeqD d0 l) (hl : l.length ≤ 50000) (hit : ED X B S iter fun d => d = d0) (hj : j ∈ own.map (·.2))
    (he : ∀ d ∈ l, AllBlk X scope fun Y => ED Y B (itE S own j d) elt (G d)) (hd : ∀ out, Paired G l out → Q out) (hs : ∀ x, foldedSetIterable iter X.env x = pure x := by intro _; rfl) : FD X B S (.ListComp elt [⟨.Name x px, iter, [], 0⟩] scope pos) Q := by
  have step : ∀ (i : Nat) d acc, l[i]? = some d → acc.length = i → Paired G (l.take i) acc → ∀ (s : Shared) (H0 : Hp) (C : Addr) (cl : List (Str × Addr)) (fp : List Addr), ED (X.blk s H0 scope (compEnvC scope cl C X.env) fp) B (itE S own j d) elt fun y => Paired G (l.take (i + 1)) (acc ++ [y]) := fun i d acc hi ha hp s H0 C cl fp => by
    intro σ W H r R k
    refine he d (List.mem_of_getElem? hi) s H0 C cl fp σ W H r R fun y v W' H' st ok n q => k y v W' H' st ok n ?_
    rw [List.take_add_one, hi]
    exact Paired.snoc q hp
  have fin : ∀ acc, acc.length = l.length → Paired G (l.take l.length) acc → Q acc := fun acc _ h => hd acc (by rw [List.take_length] at h; exact h)
  have start : ED X B S iter fun d => d = d0 ∧ l.length ≤ 50000 ∧ Paired G (l.take 0) [] := fun σ W H r R k => hit σ W H r R fun d v W' H' st ok n q => k d v W' H' st ok n ⟨q, hl, .nil⟩
  rcases sd with rfl | rfl
  · exact fd_lcL (fun i acc => Paired G (l.take i) acc) (fun d => itE S own j d) hc hN ok hg start (fun d _ => pat_name j hj) step fin hs
  · exact fd_lcT (fun i acc => Paired G (l.take i) acc) (fun d => itE S own j d) hc hN ok hg start (fun d _ => pat_name j hj) step fin hs
/-- what a range brings -/
def Outs (G : Nat → D → Prop) (n : Nat) (out : List D) : Prop := out.length = n ∧ ∀ i, i < n → ∃ y, out[i]? = some y ∧ G i y
theorem Outs.nil {G : Nat → D → Prop} : Outs G 0 [] := ⟨rfl, fun i h => absurd h (Nat.not_lt_zero _)⟩
theorem Outs.snoc {G : Nat → D → Prop} {n : Nat} {out : List D} {y : D} (h : Outs G n out) (g : G n y) : Outs G (n + 1) (out ++ [y]) := ⟨by simp [h.1], fun i hi => by
  by_cases c : i < n
  · obtain ⟨z, e, gz⟩ := h.2 i c
    exact ⟨z, by rw [List.getElem?_append_left (by rw [h.1]; exact c)]; exact e, gz⟩
  · have : i = n := by omega
    subst this
    exact ⟨y, by rw [List.getElem?_append_right (by rw [h.1]; exact Nat.le_refl _), h.1, Nat.sub_self]; rfl, g⟩⟩
/-- [elt for x in range(e)] -/
theorem fd_relR {p1 pos1 : Pos} {n : Nat} (G : Nat → D → Prop) (j : Nat) (hc : X.calm = true) (hN : X.N.Nodup) (hm : X.mg "range" = none) (ok : BlkOk X.N X.env.scope scope own) (hg : AllBlk X scope fun Y => PG Y (.Name x px) (gName j)) (hn : n ≤ 50000) (h : AD X B S [e] fun as => as = [.val (.int (n : Int))]) (hj : j ∈ own.map (·.2))
    (he : ∀ i, i < n → AllBlk X scope fun Y => ED Y B (itE S own j (.int (i : Int))) elt (G i)) (hd : ∀ out, Outs G n out → Q out) (hgl : Gl X "range" := by rfl) (hst : starEach [e] X.env = [(false, eval e X.env)] := by rfl)
    (hs : ∀ x, foldedSetIterable (.Call (.Name "range" p1) [e] [] pos1) X.env x = pure x := by intro _; rfl) : FD X B S (.ListComp elt [⟨.Name x px, .Call (.Name "range" p1) [e] [] pos1, [], 0⟩] scope pos) Q := by
  refine fd_lcR (n := (n : Int)) (fun i acc => Outs G i acc) (fun d => itE S own j d) hc hN hm ok hg ?_ (fun d => pat_name j hj) ?_ ?_ hgl hst hs
  · exact fun σ W H r R k => h σ W H r R fun as vs W' H' st ok n q => k as vs W' H' st ok n ⟨q, by omega, by omega, .nil⟩
  · intro i acc hi ha o s H0 C cl fp σ W H r R k
    exact he i (by omega) s H0 C cl fp σ W H r R fun y v W' H' st ok n q => k y v W' H' st ok n (o.snoc q)
  · intro acc _ o
    exact hd acc (by rw [Int.toNat_natCast] at o; exact o)
theorem td_chain {op op' : CmpOp} {a b c : Expr} {QB : Bool → Prop} (h : ED X B S a fun x => ED X B S b fun y => OD X (compareOp op) x y fun z => ∃ k, z = .bl k ∧ if k = true then ED X B S c fun w => OD X (compareOp op') y w fun z => ∃ k, z = .bl k ∧ QB k else QB false)
    (hm : lastMarks [op, op'] [b, c] = false := by rfl) : TD X B S (.Compare a [op, op'] [b, c] pos) QB := fun σ W H r R k => by
  refine PT.w (pt_chain wo_op wo_op we_pe we_pe we_pe hm) ?_
  refine h σ W H r _ fun d v W1 H1 s1 ok1 n1 q1 => ?_
  refine q1 σ W1 H1 (r.step s1 ok1) _ fun d2 u W2 H2 s2 ok2 n2 q2 => ?_
  refine q2 v u W2 H2 ok2 (n1.mono s2.I) n2 _ fun d3 z W3 H3 s3 ok3 n3 q3 => ?_
  obtain ⟨t, e, q3⟩ := q3
  subst e
  cases n3
  have k3 := ((k.step s1 ok1).step s2 ok2).step s3 ok3
  refine ⟨t, rfl, ?_⟩
  cases t with
  | false => exact iteF ⟨false, rfl, k3.now ok3 (by simpa using q3)⟩
  | true =>
    have q3 : ED X B S c fun w => OD X (compareOp op') d2 w fun z => ∃ k, z = .bl k ∧ QB k := by simpa using q3
    refine iteT (q3 σ W3 H3 (((r.step s1 ok1).step s2 ok2).step s3 ok3) _ fun d4 w' W4 H4 s4 ok4 n4 q4 => ?_)
    refine q4 u w' W4 H4 ok4 ((n2.mono s3.I).mono s4.I) n4 _ fun d5 z W5 H5 s5 ok5 n5 q5 => ?_
    obtain ⟨t, e, q5⟩ := q5
    subst e
    cases n5
    exact ⟨t, rfl, ((k3.step s4 ok4).step s5 ok5).now ok5 q5⟩
end
end DL

set_option Elab.async false
set_option linter.all false
set_option maxRecDepth 100000
set_option maxHeartbeats 4000000
/-! a name = [.. for x, y in zip(..)] -/
namespace DL
open PySem PySem.Spec PyProof.Rows L2
section
variable {X : Cx} {B : Hp} {W0 : Wd} {S : En} {pos : Pos} {e e2 : Expr} {x : Str} {px : Pos} {own : List (Str × Nat)} {scope : Scope} {elt : Expr} {l l' : List D} {d0 : D}
end
end DL

set_option Elab.async false
set_option linter.all false
set_option maxRecDepth 100000
set_option maxHeartbeats 4000000
/-! a text times an int -/
namespace DL
open PySem PySem.Spec PyProof.Rows L2
end DL

set_option Elab.async false
set_option linter.all false
set_option maxRecDepth 100000
set_option maxHeartbeats 4000000
/-! dicts whose keys are tuples: owned by one name while they grow, data from then on -/
namespace DL
open PySem PySem.Spec PyProof.Rows L2
def kD : Key → D
  | .inl i => .int i
  | .inr s => .str s
abbrev tD (k : List Key) : D := .tup (k.map kD)
def has {α : Type} (kvs : List (List Key × α)) (k : List Key) : Bool := kvs.any fun kv => decide (kv.1 = k)
def look {α : Type} (kvs : List (List Key × α)) (k : List Key) : Option α := (kvs.find? fun kv => decide (kv.1 = k)).map (·.2)
/-- what stands at k from now on: in its place, or at the end -/
def putE (kvs : List (List Key × D)) (k : List Key) (d : D) : List (List Key × D) := if has kvs k = true then kvs.map (fun kv => if kv.1 = k then (kv.1, d) else kv) else kvs ++ [(k, d)]
section
variable {K : PySem.W.Frag} {I : Hp}
end
/-! ### reading -/
section
variable {X : Cx} {B : Hp} {W0 : Wd} {S : En} {pos px p1 : Pos} {Q : D → Prop} {QB : Bool → Prop} {a b c e value key : Expr} {es : List Expr} {E : Ends'} {x : Str} {st : Stmt} {sts : List Stmt}
end
/-! ### owned -/
section
variable {K : PySem.W.Frag} {g : List Code} {B : Hp} {S : En} {σ : L2.St} {W : Wd} {H : Hp} {i : Nat} {kvs kvs' : List (List Key × D)} {p : Addr} {ws ws' : List (List Key × V)}
end
section
variable {X : Cx} {B : Hp} {W0 : Wd} {S : En} {pos px p1 : Pos} {Q : D → Prop} {a b c e value key : Expr} {E : Ends'} {x : Str} {st : Stmt} {sts : List Stmt}
/-- a new dict, not yet part of what never changes -/
def ContT (K : PySem.W.Frag) (g : List Code) (W : Wd) (H : Hp) (Q : List (List Key × D) → Prop) (R : VK) : Prop := ∀ kvs p ws W' H', Stp W H W' H' → Ok g W' H' → H p = none → ¬ W'.P p → W'.I p = none → H' p = some (.dT ws) → Dnt K W'.I kvs ws → Q kvs → R (.ref p) H'
def FT (X : Cx) (B : Hp) (S : En) (e : Expr) (Q : List (List Key × D) → Prop) : Prop := ∀ σ W H, Rep X.K (gOf X) B S σ W H → ∀ R, ContT X.K (gOf X) W H Q R → WE X e σ H R
end
end DL

set_option Elab.async false
set_option linter.all false
set_option maxRecDepth 100000
set_option maxHeartbeats 4000000
/-! dicts that are data: walked, told as lists, sorted -/
namespace DL
open PySem PySem.Spec PyProof.Rows L2
section
variable {g : List Code} {W : Wd} {H : Hp}
end
/-- the keys, as tuples -/
def keysD (kvs : List (List Key × D)) : List D := kvs.map fun p => tD p.1
section
variable {X : Cx} {B : Hp} {W0 : Wd} {S : En} {pos px p1 p : Pos} {Q : D → Prop} {a b c e : Expr} {E : Ends'} {x : Str} {st : Stmt} {sts : List Stmt} {kvs : List (List Key × D)}
end
end DL

set_option Elab.async false
set_option linter.all false
set_option maxRecDepth 100000
set_option maxHeartbeats 4000000
/-! {k: v for ..}, the keys tuples; lists of tuples of ints sorted -/
namespace DL
open PySem PySem.Spec PyProof.Rows L2
section
variable {X : Cx}
/-- {k: v for g in ..}: D the new dict -/
def tDcT (wi : TI) (g : TG) (tk tv : TE) (vs : List Nat) : TE := fun σ H Q => wi σ H fun Y H1 => ∀ D, H1 D = none → ∃ Z : Nat → Nat → Hp → Prop, (∃ m, Z 0 m (upd H1 D (.dT []))) ∧ ∀ i m G, Z i m G →
  (Y.stop i G ∧ Q (.ref D) G) ∨ (Y.go i G ∧ ∃ Nx : Hp → Prop, (∀ G', Nx G' → ∃ m', m' < m ∧ Z (i + 1) m' G') ∧ ∀ x G', Y.yld i G x G' → g x (wipe σ vs) G' fun τ G2 => wipe τ vs = wipe σ vs ∧
    tk τ G2 fun y G3 => tv τ G3 fun z G4 => ∃ ws ks b, y = .ref b ∧ G4 b = some (.tup (ks.map kV)) ∧ G4 D = some (.dT ws) ∧ ws.length < sizeLine ∧ Nx (upd G4 D (.dT (putK ws ks z))))
end
end DL

set_option Elab.async false
set_option linter.all false
set_option maxRecDepth 100000
set_option maxHeartbeats 4000000
/-! {k: v for .. in a list}; sorted of tuples of ints, as data -/
namespace DL
open PySem PySem.Spec PyProof.Rows L2
/-- at an address of one's own: the dict so far -/
structure MidT (K : PySem.W.Frag) (g : List Code) (W1 : Wd) (H1 : Hp) (p : Addr) (l : List (List Key × D)) (W : Wd) (H : Hp) : Prop where
  st : Stp W1 H1 W H
  ok : Ok g W H
  n : ¬ W.P p
  i : W.I p = none
  h : ∃ ws, H p = some (.dT ws) ∧ Dnt K W.I l ws
section
variable {X : Cx} {B : Hp} {W0 : Wd} {S : En} {pos px p1 p : Pos} {Q : D → Prop} {a b c e : Expr} {E : Ends'} {x : Str} {kvs : List (List Key × D)}
end
/-! ### sorted -/
abbrev tI (l : List Int) : D := .tup (l.map D.int)
abbrev ik (l : List Int) : List Key := l.map Sum.inl
section
variable {K : PySem.W.Frag} {I : Hp}
end
end DL

set_option Elab.async false
set_option linter.all false
set_option maxRecDepth 100000
set_option maxHeartbeats 4000000
/-! sorted(d), the keys tuples of ints -/
namespace DL
open PySem PySem.Spec PyProof.Rows L2
end DL

set_option Elab.async false
set_option linter.all false
set_option maxRecDepth 100000
set_option maxHeartbeats 4000000
/-! dict(l), l a list of pairs (tuple, value) -/
namespace DL
open PySem PySem.Spec PyProof.Rows L2
/-- one pair after another is put -/
def putAll (kvs more : List (List Key × D)) : List (List Key × D) := more.foldl (fun acc p => putE acc p.1 p.2) kvs
def putAllV (kvs more : List (List Key × V)) : List (List Key × V) := more.foldl (fun acc p => putK acc p.1 p.2) kvs
abbrev prD (p : List Key × D) : D := .tup [tD p.1, p.2]
section
variable {X : Cx} {B : Hp} {S : En} {pos p : Pos} {e : Expr}
end
end DL

set_option Elab.async false
set_option linter.all false
set_option maxRecDepth 100000
set_option maxHeartbeats 4000000
/-! == inside built-in sequences and dicts, by an own == where there is one: where all is equal -/
namespace DL
open PySem PySem.Spec PyProof.Rows L2
section
variable {prog : Program} {w : World} {A : Around} {E : Value → Shared → Prop}
end
/-- behind what is compared: later worlds -/
def Later (X : Cx) (pins : List (Addr × Obj)) (τ : L2.St) (W : Wd) (H : Hp) (t : Shared) : Prop := ∃ W' H', Inv X pins τ H' t ∧ Stp W H W' H' ∧ Ok (gOf X) W' H'
def EqR (X : Cx) (n : Nat) (x y : D) : Prop := ∀ (A : Around) (pins : List (Addr × Obj)) (t : Shared) (τ : L2.St) (W : Wd) (H : Hp) (v u : V) (v' u' : Value), L2.Sub X n A → A.guards = some (gOf X) → Inv X pins τ H t → Ok (gOf X) W H → Dn X.K W.I x v → Dn X.K W.I y u → RelV v v' → RelV u u' →
  wpAny (model X.prog X.w) A (eqBool v' u') (fun r t' => r = true ∧ Later X pins τ W H t') X.xe t
def RcR (X : Cx) (n : Nat) (x y : D) : Prop := ∀ (A : Around) (pins : List (Addr × Obj)) (t : Shared) (τ : L2.St) (W : Wd) (H : Hp) (v u : V) (v' u' : Value), L2.Sub X n A → A.guards = some (gOf X) → Inv X pins τ H t → Ok (gOf X) W H → Dn X.K W.I x v → Dn X.K W.I y u → RelV v v' → RelV u u' →
  wpAny (model X.prog X.w) A (richCompare .Eq v' u') (fun r t' => r = .bool true ∧ Later X pins τ W H t') X.xe t
section
variable {X : Cx} {n m : Nat} {x y : D}
def refD : D → Bool
  | .tup _ | .lst _ | .obj _ _ | .dcT _ => true
  | _ => false
end
section
variable {X : Cx} {n : Nat} {x y : D} {Q : D → Prop}
end
end DL

set_option Elab.async false
set_option linter.all false
set_option maxRecDepth 100000
set_option maxHeartbeats 4000000
/-! != of lists that are equal -/
namespace NQ
open PySem PySem.SeqAt
open AutoSeq1 (wpAny_loadPart')
open MeetsSeq MeetsSeq2 MeetsSeq3 SeqRoads2
section
variable {prog : Program} {w : World} {A : Around} {R : Result → Shared → Prop}
end
end NQ
namespace DL
open PySem PySem.Spec PyProof.Rows L2
section
variable {X : Cx} {n : Nat} {Q : D → Prop}
end
end DL

set_option Elab.async false
set_option linter.all false
set_option maxRecDepth 100000
set_option maxHeartbeats 4000000
/-! zip of two texts -/
namespace TZ
open PySem PySem.Spec PyProof.Rows
abbrev tio (x : Str) (t : Tok) : Obj := { cls := .type "str_ascii_iterator", data := .fields #[.str x t, .int 0 0] }
abbrev m1 (h : Heap) (x : Str) (t : Tok) : Heap := h.push (tio x t)
abbrev m2 (h : Heap) (x y : Str) (t u : Tok) : Heap := (m1 h x t).push (tio y u)
abbrev m3 (h : Heap) (x y : Str) (t u : Tok) : Heap := (m2 h x y t u).push { cls := .type "tuple", data := .seq #[.ref h.objs.size, .ref (m1 h x t).objs.size] }
abbrev m4 (h : Heap) (x y : Str) (t u : Tok) : Heap := (m3 h x y t u).push { cls := .type "tuple", data := .seq #[.none, .none] }
abbrev m5 (h : Heap) (x y : Str) (t u : Tok) : Heap := (m4 h x y t u).push { cls := .type "zip", data := .fields #[.none, .bool false, .bool false, .ref (m2 h x y t u).objs.size, .ref (m3 h x y t u).objs.size] }
section
variable {p : Program} {w : World} {A : Around} {E : Value → Shared → Prop} {s : Shared}
/-- how the zip stands ahead of turn i -/
structure St2 (x y : Str) (t u : Tok) (z TI TO i1 i2 : Addr) (i : Nat) (h : Heap) : Prop where
  z : IsZip h z TI TO .none
  ti : IsTupOf2 h TI (.ref i1) (.ref i2)
  to : ∃ a b, IsTupOf2 h TO a b
  f : h.IsStrIter i1 "str_ascii_iterator" x t i
  g : h.IsStrIter i2 "str_ascii_iterator" y u i
end
end TZ
namespace DL
open PySem PySem.Spec PyProof.Rows L2 TZ
/-- the signs of both, two by two -/
def Itss (x y : Str) : It := ⟨fun i _ => i < x.cps.size ∧ i < y.cps.size, fun i H v H' => ∃ T c d, x.cps[i]? = some c ∧ y.cps[i]? = some d ∧ v = .ref T ∧ H T = none ∧ H' = upd H T (.tup [.str ⟨#[c]⟩, .str ⟨#[d]⟩]),
  fun i _ => i ≤ x.cps.size ∧ i ≤ y.cps.size ∧ (i = x.cps.size ∨ i = y.cps.size)⟩
def iZss (ta : TA) : TI := fun σ H R => ta σ H fun vs H1 => ∃ x y, vs = [.str x, .str y] ∧ x.cps.all (· < 128) = true ∧ y.cps.all (· < 128) = true ∧ R (Itss x y) H1
end DL

set_option Elab.async false
set_option linter.all false
set_option maxRecDepth 100000
set_option maxHeartbeats 4000000
/-! texts, sign by sign -/
namespace DL
open PySem PySem.Spec PyProof.Rows L2
abbrev sg (c : Nat) : Str := ⟨#[c]⟩
def signs (s : Str) : List D := s.cps.toList.map fun c => .str (sg c)
section
variable {X : Cx} {B : Hp} {W0 : Wd} {S : En} {pos px p1 p apos cpos : Pos} {Q : D → Prop} {QB : Bool → Prop} {a b c e e2 o elt iter : Expr} {es : List Expr} {E : Ends'} {x : Str} {s : Str}
end
end DL

set_option Elab.async false
set_option linter.all false
set_option maxRecDepth 100000
set_option maxHeartbeats 4000000
/-! sum, min of tuples; factorial, perm; the signs of a text as a list, sorted -/
namespace DL
open PySem PySem.Spec PyProof.Rows L2
section
variable {prog : Program} {w : World} {A : Around} {E : Value → Shared → Prop} {s : Shared} {l : Addr}
end
section
variable {X : Cx} {Q : D → Prop}
/-- n! -/
def fac : Nat → Nat
  | 0 => 1
  | n + 1 => fac n * (n + 1)
/-! ### the signs of a text -/
end
end DL

set_option Elab.async false
set_option linter.all false
set_option maxRecDepth 100000
set_option maxHeartbeats 4000000
/-! enumerate(()); texts and enumerations walked -/
namespace EZ
open PySem PySem.Spec PyProof.Rows
open AutoSeq1 (wpAny_loadPart')
abbrev tit (l : Addr) : Obj := { cls := .type "tuple_iterator", data := .fields #[.ref l, .int 0 0] }
end EZ
namespace DL
open PySem PySem.Spec PyProof.Rows L2
/-- nothing to walk -/
def Itn (K : PySem.W.Frag) (a : Addr) : It := ⟨fun _ _ => False, fun _ _ _ _ => False, fun i H => i = 0 ∧ SqT K H a []⟩
def iEn (K : PySem.W.Frag) (ta : TA) : TI := fun σ H R => ta σ H fun vs H1 => ∃ a, vs = [.ref a] ∧ SqT K H1 a [] ∧ R (Itn K a) H1
section
variable {X : Cx} {B : Hp} {W0 : Wd} {S : En} {pos px p1 p apos cpos : Pos} {Q : D → Prop} {a b c e e2 o elt iter value : Expr} {es : List Expr} {E : Ends'} {x : Str}
/-- for i, x in enumerate(a list) -/
theorem sd_forE {elts : List Expr} {kk : Nat} {tpos : Pos} {body : List Stmt} {l : List D} (hp : PassesOwn (model X.prog X.w) X.A X.env X.xe) (hc : X.calm = true) (hm : X.mg "enumerate" = none) (Inv : Nat → En → Prop) (h : AD X B S [e] fun as => as = [.val (.lst l)] ∧ Inv 0 S)
    (hs : ∀ (i : Nat) d S', l[i]? = some d → Inv i S' → GD X B W0 S' (.Tuple elts kk tpos) (.tup [.int (i : Int), d]) fun S2 => SDs X B W0 S2 body { nx := Inv (i + 1), rt := E.rt, bk := E.nx, ct := Inv (i + 1) })
    (hd : ∀ S', Inv l.length S' → E.nx S') (hg : Gl X "enumerate" := by rfl) (hst : starEach [e] X.env = [(false, eval e X.env)] := by rfl) (hf : ∀ x, foldedSetIterable (.Call (.Name "enumerate" p) [e] [] p1) X.env x = pure x := by intro _; rfl) :
    SD X B W0 S (.For (.Tuple elts kk tpos) (.Call (.Name "enumerate" p) [e] [] p1) body [] pos) E := fun σ W H r z D' k => by
  refine PS.w (ps_for hp hc (pi_enum hg hm wa_pa hst) wg_pg wss_pss hf) ?_
  refine h σ W H r _ fun as vs W1 H1 s1 ok1 n1 q1 => ?_
  obtain ⟨rfl, i0⟩ := q1
  obtain ⟨v, rfl, m⟩ := one_arg n1
  cases m with
  | @lst _ a xs ha m =>
    refine ⟨a, xs, rfl, SqL.of (ok1.ex _ _ ha), for_it walk_enum (fun i σ' H' => ∃ S' W', Rep X.K (gOf X) B S' σ' W' H' ∧ Stp W0 B W' H' ∧ Ex W1.I W'.I ∧ Inv i S') ⟨S, W1, r.step s1 ok1, z.trans r.ok s1, Ex.refl _, i0⟩
      (fun i σ' H' _ ⟨S', W', r', _, e', _⟩ => SqL.of (r'.ok.ex _ _ (e' _ _ ha))) ?_ ?_⟩
    · rintro i y σ' H' H2 hi ⟨S', W', r', z', e', i'⟩ ⟨T, x1, x2, rfl, hT, rfl, ex1, ex2⟩
      obtain ⟨d, hd', nd⟩ := m.get ex2
      cases ex1
      have st := Stp.new (o := .tup [.int (i : Nat), x2]) r'.ok hT
      have ok2 := r'.ok.new (o := .tup [.int (i : Nat), x2]) hT
      refine hs i d S' hd' i' σ' _ _ _ (r'.step st ok2) (z'.trans r'.ok st) (.tup (show upd W'.I T _ T = _ from upd_same) (.cons (.int _) (.cons ((nd.mono e').mono st.I) .nil))) _ fun S3 σ3 W3 H3 r3 z3 e3 q3 => ?_
      have e4 := (e'.trans st.I).trans e3
      exact q3 σ3 W3 H3 r3 z3 _ ⟨fun S5 σ5 W5 H5 r5 z5 e5 q5 => ⟨S5, W5, r5, z5, e4.trans e5, q5⟩, fun d5 v5 W5 H5 r5 z5 e5 n5 q5 => k.rt d5 v5 W5 H5 r5 z5 ((s1.I.trans e4).trans e5) n5 q5,
        fun S5 σ5 W5 H5 r5 z5 e5 q5 => k.nx S5 σ5 W5 H5 r5 z5 ((s1.I.trans e4).trans e5) q5, fun S5 σ5 W5 H5 r5 z5 e5 q5 => ⟨S5, W5, r5, z5, e4.trans e5, q5⟩⟩
    · rintro σ' H' ⟨S', W', r', z', e', i'⟩
      rw [← m.length] at i'
      exact k.nx S' σ' W' H' r' z' (s1.I.trans e') (hd S' i')
end
end DL

set_option Elab.async false
set_option linter.all false
set_option maxRecDepth 100000
set_option maxHeartbeats 2000000
/-! the law's own call, of a def whose promise asks that the guards are known -/
namespace DL
open PySem PySem.Spec PyProof.Rows L2
/-- what is tracked when the law is called: the script alone, and that only where it is no object of the module -/
def given (K : PySem.W.Frag) (a : Addr) (o : Obj) (ns : List Int) : Hp := fun b => if b = a ∧ K.lookup a = none then some (.frz o (.lst (ns.map V.int))) else none
theorem given_is {K : PySem.W.Frag} {a b : Addr} {o : Obj} {ns : List Int} {u : HO} (h : given K a o ns b = some u) : b = a ∧ K.lookup a = none ∧ u = .frz o (.lst (ns.map V.int)) := by
  unfold given at h
  by_cases c : b = a ∧ K.lookup a = none
  · rw [if_pos c] at h
    exact ⟨c.1, c.2, (Option.some.inj h).symm⟩
  · rw [if_neg c] at h
    cases h
theorem law_gn {P : Program} {w : World} {K : PySem.W.Frag} {mg mb : Str → Option Value} {k : Nat} {fa a : Addr} {fd : FuncData} {x : Str} {sp : SpG} {t : Shared} {vs : List Value} {ns : List Int}
    (kin : K.In t.heap) (glob : t.heap.Ns mainGlobals mg) (bl : t.heap.Ns builtinsNs mb) (boot : ∀ x : Str, x ≠ "__name__" → mb x = bootBuiltins x) (lim : t.heap.NoLimit) (gens : t.gens = #[])
    (script : t.heap.get? a = some { cls := .type "list", data := .seq vs.toArray }) (iv : IntsAre vs ns) (len : ns.length ≤ sizeLine) (room : Room k callerA)
    (F : ∀ base : Heap, K.In base → base.Ns mainGlobals mg → GnOk P w K mg base k fa fd [x] sp) (bind : ∀ (s : Shared) (u : Value), BindsTo s fd ⟨[u], []⟩ [(x, u)])
    (q : ∀ H : Hp, SqL K H a (ns.map V.int) → sp [] [.ref a] H fun v _ => v = .bl true) :
    codeAny (model P w) callerA (.call (.ref fa) ⟨[.ref a], []⟩) (fun r s' => r = .ok (.ret (.bool true)) ∧ OldK t.heap s'.heap ∧ s'.os = t.os ∧ AllBare s'.gens) t := by
  have rel : Vals (ns.map V.int) vs := vals_ints iv
  obtain ⟨H, eH⟩ : ∃ H, H = given K a { cls := .type "list", data := .seq vs.toArray } ns := ⟨_, rfl⟩
  have one : ∀ {b : Addr} {u : HO}, H b = some u → b = a ∧ K.lookup a = none ∧ u = .frz { cls := .type "list", data := .seq vs.toArray } (.lst (ns.map V.int)) := fun {b u} e => given_is (by rw [← eH]; exact e)
  -- what is tracked is no dict and nothing of the module
  have untracked : ∀ {b : Addr}, (b = a → K.lookup a = none → False) → H b = none := fun {b} n => by
    cases e : H b with
    | none => rfl
    | some u => exact (n (one e).1 (one e).2.1).elim
  have inBase : ∀ {b : Addr} {o : Obj}, t.heap.get? b = some o → (b = a → K.lookup a = none → False) → (hidT t.heap H).get? b = some o := fun e n => hidT_get e (untracked n)
  have dict : ∀ {b : Addr} {m : Str → Option Value}, t.heap.Ns b m → (hidT t.heap H).Ns b m := fun {b m} ⟨o, es, n, e, d, r⟩ => ⟨o, es, n, inBase e (fun z _ => by
    rw [z, script] at e
    cases e
    exact nomatch (show Data.seq vs.toArray _ = Data.dict es n from d)), d, r⟩
  have kin' : K.In (hidT t.heap H) := fun b o e => inBase (kin b o e) fun z n => by rw [z, n] at e; cases e
  have hold : HOk P w H t.heap := fun b u e => by
    obtain ⟨rfl, _, rfl⟩ := one e
    exact ⟨script, by rw [List.length_map]; exact len, vs, _, rel, script⟩
  have seq : SqL K H a (ns.map V.int) := by
    cases c : K.lookup a with
    | none => exact .inl (.inr ⟨{ cls := .type "list", data := .seq vs.toArray }, by rw [eH]; exact if_pos ⟨rfl, c⟩⟩)
    | some o =>
      have e := kin a o c
      rw [script] at e
      cases e
      exact .inr ⟨_, vs.toArray, _, c, rfl, rfl, rfl, by rw [List.size_toArray, iv.length]; exact len, rel⟩
  have md : Mod K mg (hidT t.heap H) := ⟨kin', dict glob, ⟨mb, dict bl, boot⟩, let ⟨mc, h1, h2⟩ := lim; ⟨mc, dict h1, h2⟩⟩
  have env : Env0 P w K mg (hidT t.heap H) callerA [] t H := ⟨rfl, md, fun b o e => of_hidT e, Nat.le_of_eq (hidT_size _ _), trivial, fun b z => absurd (show b ∈ ([] : List Addr) from z) List.not_mem_nil, hold, .of_eq gens⟩
  refine codeAny_mono ((F _ kin' (dict glob)).run callerA [] [] t H ⟨[.ref a], []⟩ [.ref a] [.ref a] _ room rfl env (bind t (.ref a)) (.cons rfl .nil) (q H seq)) fun r s' back => ?_
  match r, back with
  | .error e, back => exact back.elim
  | .ok (.ret u), ⟨v, H', os, bare, un, hold', ru, ev⟩ =>
    have ev' : v = .bl true := ev
    subst ev'
    obtain rfl : u = Value.bool true := ru
    refine ⟨rfl, OldK.of_keep fun b o e => ?_, os, bare⟩
    cases c : H b with
    | none => exact un.keep b o e c (fun z => absurd (show b ∈ ([] : List Addr) from z) List.not_mem_nil) List.not_mem_nil
    | some u =>
      obtain ⟨rfl, _, rfl⟩ := one c
      have after := (hold' _ _ (un.frzs _ _ _ c)).1
      rw [script] at e
      cases e
      exact after
/-- the goal that the head of an open law leaves, from the law's promise -/
theorem walk_gn {l : PySem.W.OpenLaw} {n k : Nat} {q : Program} {loose : List Str} {XP : (Str → Option Value) → Heap → Prop} {YP : World → Heap → Prop} {d : DefRec} {K : Params → PySem.W.Frag} {sp : World → SpG} {x : Str}
    (hn : l.most = some n) (hn2 : n ≤ sizeLine) (hdf : d.params.defaults = []) (hr : Room k callerA) (hY : ∀ (w : World) (h : Heap), YP w h → (K w.params).In h)
    (F : ∀ (w : World) (mg : Str → Option Value) (fa : Addr) (h : Heap), (K w.params).In h → h.Ns mainGlobals mg → mg d.name = some (.ref fa) →
      ∃ fd : FuncData, (∀ (s : Shared) (u : Value), BindsTo s fd ⟨[u], []⟩ [(x, u)]) ∧ ∀ base : Heap, (K w.params).In base → base.Ns mainGlobals mg → GnOk l.prog w (K w.params) mg base k fa fd [x] (sp w))
    (hsp : ∀ (w : World) (H : Hp) (a : Addr) (ns : List Int), ns.length ≤ n → SqL (K w.params) H a (ns.map V.int) → sp w [] [.ref a] H fun v _ => v = .bl true) :
    PySem.W.WalkO q loose XP YP l.row.toRowW d [] (fun f vs => PySem.call f vs) :=
  Att.attach_call hn hdf fun w s₀ s₁ mg mb fa o pm cd doc a vs ns G Y ho hd hcd hmg hobj hints hlen hg =>
    let ⟨fd, hb, hF⟩ := F w mg fa _ (hY w _ Y) G.T.g hmg
    law_gn (hY w _ Y) G.T.g G.T.b G.T.builtins G.T.nolimit hg hobj hints (Nat.le_trans hlen hn2) hr hF hb fun H hS => hsp w H a ns hlen hS
end DL

set_option Elab.async false
set_option linter.all false
set_option maxRecDepth 100000
set_option maxHeartbeats 2000000
/-! k85: the text by places, the data, the promises -/
namespace K85
open PySem L2 DL
def top (i : Nat) : Stmt := PySem.Challenge.pw_onecrest_k85_whole_twins.main.body.getD i (.Pass ⟨0, 0, 0, 0⟩)
abbrev sIsInt : Stmt := top 3
abbrev sIsList : Stmt := top 5
abbrev sIsCount : Stmt := top 4
abbrev rat (j : Nat) : Stmt := inClass (top 13) j
abbrev sIsNumber : Stmt := top 14
abbrev sRatioOf : Stmt := top 17
/-! ### fractions -/
abbrev Fr := Int × Int
/-- the common part, with the sign of the bottom -/
def gs (t b : Int) : Int := if b > 0 then (Nat.gcd t.natAbs b.natAbs : Int) else -(Nat.gcd t.natAbs b.natAbs : Int)
def low (t b : Int) : Fr := (t.fdiv (gs t b), b.fdiv (gs t b))
/-- a fraction as it is held: below 2 ^ n, the bottom above 0 -/
structure Bd (n : Nat) (p : Fr) : Prop where
  t : p.1.natAbs < 2 ^ n
  b : p.2.natAbs < 2 ^ n
  pos : 0 < p.2
theorem gs_ne {t b : Int} (h : b ≠ 0) : gs t b ≠ 0 := by
  have g : 0 < Nat.gcd t.natAbs b.natAbs := Nat.gcd_pos_of_pos_right _ (by omega)
  unfold gs
  split <;> omega
theorem gs_dvd_t {t b : Int} : gs t b ∣ t := by
  have h : ((Nat.gcd t.natAbs b.natAbs : Nat) : Int) ∣ t := Int.ofNat_dvd_left.mpr (Nat.gcd_dvd_left _ _)
  unfold gs
  split
  · exact h
  · exact Int.neg_dvd.mpr h
theorem gs_dvd_b {t b : Int} : gs t b ∣ b := by
  have h : ((Nat.gcd t.natAbs b.natAbs : Nat) : Int) ∣ b := Int.ofNat_dvd_left.mpr (Nat.gcd_dvd_right _ _)
  unfold gs
  split
  · exact h
  · exact Int.neg_dvd.mpr h
theorem fdiv_small {x d : Int} (h : d ∣ x) : (x.fdiv d).natAbs ≤ x.natAbs := by
  rw [Int.fdiv_eq_ediv_of_dvd h]
  obtain ⟨c, rfl⟩ := h
  by_cases z : d = 0
  · subst z; simp
  · rw [Int.mul_ediv_cancel_left _ z, Int.natAbs_mul]
    exact Nat.le_mul_of_pos_left _ (by omega)
theorem low_pos {t b : Int} (h : b ≠ 0) : 0 < (low t b).2 := by
  show 0 < b.fdiv (gs t b)
  have d := gs_dvd_b (t := t) (b := b)
  have n := gs_ne (t := t) h
  rw [Int.fdiv_eq_ediv_of_dvd d]
  obtain ⟨c, hc⟩ := d
  have e : b / gs t b = c := by
    conv => lhs; lhs; rw [hc]
    exact Int.mul_ediv_cancel_left _ n
  rw [e]
  have g : 0 < Nat.gcd t.natAbs b.natAbs := Nat.gcd_pos_of_pos_right _ (by omega)
  by_cases p : b > 0
  · have e2 : gs t b = (Nat.gcd t.natAbs b.natAbs : Int) := by unfold gs; rw [if_pos p]
    rw [e2] at hc
    by_cases q : 0 < c
    · exact q
    · have : (Nat.gcd t.natAbs b.natAbs : Int) * c ≤ 0 := Int.mul_nonpos_of_nonneg_of_nonpos (by omega) (by omega)
      omega
  · have e2 : gs t b = -(Nat.gcd t.natAbs b.natAbs : Int) := by unfold gs; rw [if_neg p]
    rw [e2] at hc
    by_cases q : 0 < c
    · exact q
    · have : 0 ≤ -(Nat.gcd t.natAbs b.natAbs : Int) * c := Int.mul_nonneg_of_nonpos_of_nonpos (by omega) (by omega)
      omega
theorem low_bd {n : Nat} {t b : Int} (h : b ≠ 0) (ht : t.natAbs < 2 ^ n) (hb : b.natAbs < 2 ^ n) : Bd n (low t b) :=
  ⟨Nat.lt_of_le_of_lt (fdiv_small gs_dvd_t) ht, Nat.lt_of_le_of_lt (fdiv_small gs_dvd_b) hb, low_pos h⟩
theorem low_gcd {t b : Int} (h : b ≠ 0) : Nat.gcd (low t b).1.natAbs (low t b).2.natAbs = 1 := by
  show Nat.gcd (t.fdiv (gs t b)).natAbs (b.fdiv (gs t b)).natAbs = 1
  have g : 0 < Nat.gcd t.natAbs b.natAbs := Nat.gcd_pos_of_pos_right _ (by omega)
  have e : (gs t b).natAbs = Nat.gcd t.natAbs b.natAbs := by
    unfold gs
    split <;> omega
  have key : ∀ x : Int, gs t b ∣ x → (x.fdiv (gs t b)).natAbs = x.natAbs / Nat.gcd t.natAbs b.natAbs := fun x hx => by
    rw [Int.fdiv_eq_ediv_of_dvd hx, ← e]
    obtain ⟨c, rfl⟩ := hx
    have n := gs_ne (t := t) h
    rw [Int.mul_ediv_cancel_left _ n, Int.natAbs_mul, Nat.mul_div_cancel_left _ (by omega)]
  rw [key t gs_dvd_t, key b gs_dvd_b]
  rw [Nat.gcd_div (Nat.gcd_dvd_left _ _) (Nat.gcd_dvd_right _ _)]
  exact Nat.div_self g
/-- what is in lowest terms stays -/
theorem low_id {t b : Int} (hb : 0 < b) (h : Nat.gcd t.natAbs b.natAbs = 1) : low t b = (t, b) := by
  have e : gs t b = 1 := by unfold gs; rw [if_pos hb, h]; rfl
  unfold low
  rw [e, Int.fdiv_one, Int.fdiv_one]
theorem low_one (n : Int) : low n 1 = (n, 1) := low_id (by decide) (Nat.gcd_one_right _)
theorem mul_bd {a b : Int} {m n : Nat} (h : a.natAbs < 2 ^ m) (k : b.natAbs < 2 ^ n) : (a * b).natAbs < 2 ^ (m + n) := by
  rw [Int.natAbs_mul, Nat.pow_add]
  exact Nat.mul_lt_mul'' h k
theorem add_bd {a b : Int} {m : Nat} (h : a.natAbs < 2 ^ m) (k : b.natAbs < 2 ^ m) : (a + b).natAbs < 2 ^ (m + 1) := by
  have := Int.natAbs_add_le a b
  rw [Nat.pow_succ]
  omega
theorem sub_bd {a b : Int} {m : Nat} (h : a.natAbs < 2 ^ m) (k : b.natAbs < 2 ^ m) : (a - b).natAbs < 2 ^ (m + 1) := by
  have := Int.natAbs_sub_le a b
  rw [Nat.pow_succ]
  omega
theorem bd_mono {a : Int} {m n : Nat} (h : a.natAbs < 2 ^ m) (k : m ≤ n) : a.natAbs < 2 ^ n := Nat.lt_of_lt_of_le h (Nat.pow_le_pow_right (by decide) k)
theorem Bd.mono {p : Fr} {m n : Nat} (h : Bd m p) (k : m ≤ n) : Bd n p := ⟨bd_mono h.t k, bd_mono h.b k, h.pos⟩
theorem cmul {a b : Int} {m n : Nat} (h : a.natAbs < 2 ^ m) (k : b.natAbs < 2 ^ n) (hm : m ≤ 60000000) (hn : n ≤ 60000000) : CMulX a b := by
  have e1 := intBits_le_iff.mpr h
  have e2 := intBits_le_iff.mpr k
  show (Builtin.Int.intBits a : Int) + (Builtin.Int.intBits b : Int) ≤ 134217728
  omega
theorem cdivg {a b : Int} {n : Nat} (h : b ≠ 0) (k : b.natAbs < 2 ^ n) (hn : n ≤ 9000) : CDivG a b :=
  ⟨h, Nat.lt_of_lt_of_le ((Nat.log2_lt (by omega)).mpr k) hn⟩
theorem gs_bd {t b : Int} {n : Nat} (h : b ≠ 0) (hb : b.natAbs < 2 ^ n) : (gs t b).natAbs < 2 ^ n := by
  have e : (gs t b).natAbs = Nat.gcd t.natAbs b.natAbs := by
    unfold gs
    split <;> omega
  rw [e]
  exact Nat.lt_of_le_of_lt (Nat.gcd_le_right _ (by omega)) hb
end K85

set_option Elab.async false
set_option linter.all false
set_option maxRecDepth 100000
set_option maxHeartbeats 2000000
/-! k85: the promises, the checks, Ratio -/
namespace K85
open PySem L2 DL
section
variable {X : Cx} {B : Hp} {S : En} {pos : Pos} {Q : D → Prop} {x : Str} {d : D}
theorem nm (i : Nat) (q : Q d) (hN : X.N[i]? = some x := by rfl) (h : S[i]? = some (some (.val d)) := by rfl) (hv : Vis X.env.scope x := by first | exact Or.inl rfl | exact Or.inr (Or.inl rfl) | exact Or.inr (Or.inr rfl))
    (hd : (x == ("__debug__" : Str)) = false := by decide) (hcd : (x == ("__classdict__" : Str)) = false := by decide) : ED X B S (.Name x pos) Q := ed_name i hN h q hv hd hcd
theorem sd_post {W0 : Wd} {st : Stmt} {E : Ends'} (QS : En → Prop) (h : SD X B W0 S st { E with nx := QS }) (k : ∀ S', QS S' → E.nx S') : SD X B W0 S st E := fun σ W H r z D' q => h σ W H r z D' ⟨fun S' σ' W' H' r' z' x' y => q.nx S' σ' W' H' r' z' x' (k S' y), q.rt, q.bk, q.ct⟩
theorem kB {QB : Bool → Prop} {b : Bool} (q : QB b) : ∃ k, D.bl b = .bl k ∧ QB k := ⟨b, rfl, q⟩
end
/-! ### data -/
def rf (p : Fr) : List (Str × D) := [("_top", .int p.1), ("_bottom", .int p.2)]
abbrev Ra (C : Addr) (p : Fr) : D := .obj C (rf p)
def pr (p : Fr) : D := .tup [.int p.1, .int p.2]
/-- what may be handed to a check -/
inductive Kn (C : Addr) : D → Prop
  | non : Kn C .non
  | bl (b) : Kn C (.bl b)
  | int (i) : Kn C (.int i)
  | str (s) : Kn C (.str s)
  | tup (l) : Kn C (.tup l)
  | lst (l) : Kn C (.lst l)
  | dct : Kn C .dct
  | rat (p) : Kn C (Ra C p)
def isI : D → Bool
  | .int _ => true
  | _ => false
def isB : D → Bool
  | .bl _ => true
  | _ => false
def isO : D → Bool
  | .obj _ _ => true
  | _ => false
structure Txt (K : PySem.W.Frag) (mg : Str → Option Value) (C : Addr) : Prop where
  nu : Num K C
  is : Isi K C
  nT : NoAttr K C "_top"
  nB : NoAttr K C "_bottom"
  ne : PySem.W.findIn K (.ref C) "__ne__" = some (some (.builtin "object.__ne__"))
  mC : mg "Ratio" = some (.ref C)
  gcd : mg "gcd" = some (.builtin "math.gcd")
  isi : mg "isinstance" = none
  int : mg "int" = none
  bool : mg "bool" = none
  list : mg "list" = none
  tuple : mg "tuple" = none
  abs : mg "abs" = none
  len : mg "len" = none
  max : mg "max" = none
  divmod : mg "divmod" = none
  str : mg "str" = none
  repr : mg "repr" = none
  range : mg "range" = none
  k1 : PySem.W.kitOne K (.type "NoneType") (.type "int") = some false
  k2 : PySem.W.kitOne K (.type "bool") (.type "int") = some true
  k3 : PySem.W.kitOne K (.type "str") (.type "int") = some false
  k4 : PySem.W.kitOne K (.type "tuple") (.type "int") = some false
  k5 : PySem.W.kitOne K (.type "list") (.type "int") = some false
  k6 : PySem.W.kitOne K (.ref C) (.type "int") = some false
  k7 : PySem.W.kitOne K (.type "int") (.type "bool") = some false
  r1 : PySem.W.kitOne K (.type "NoneType") (.ref C) = some false
  r2 : PySem.W.kitOne K (.type "bool") (.ref C) = some false
  r3 : PySem.W.kitOne K (.type "str") (.ref C) = some false
  r4 : PySem.W.kitOne K (.type "tuple") (.ref C) = some false
  r5 : PySem.W.kitOne K (.type "list") (.ref C) = some false
  r7 : PySem.W.kitOne K (.type "int") (.ref C) = some false
  k8 : PySem.W.kitOne K (.type "dict") (.type "int") = some false
  r8 : PySem.W.kitOne K (.type "dict") (.ref C) = some false
  l0 : ∀ T : String, T = "NoneType" ∨ T = "bool" ∨ T = "str" ∨ T = "int" ∨ T = "dict" → PySem.W.kitAny K (.type T) [.type "list", .type "tuple"] = some false
  l3 : PySem.W.kitAny K (.ref C) [.type "list", .type "tuple"] = some false
  all : mg "all" = none
  zip : mg "zip" = none
  l1 : PySem.W.kitAny K (.type "list") [.type "list", .type "tuple"] = some true
  l2 : PySem.W.kitAny K (.type "tuple") [.type "list", .type "tuple"] = some true
theorem same {K : PySem.W.Frag} {t : Value} (h : (t == t) = true) : PySem.W.kitOne K t t = some true := by
  unfold PySem.W.kitOne
  rw [if_pos h]
theorem Kn.ty {K : PySem.W.Frag} {mg : Str → Option Value} {C : Addr} (T : Txt K mg C) {d : D} (h : Kn C d) : ∃ t, TyD K d t ∧ PySem.W.kitOne K t (.type "int") = some (isI d || isB d) ∧ ((isI d || isB d) = true → PySem.W.kitOne K t (.type "bool") = some (isB d)) ∧ PySem.W.kitOne K t (.ref C) = some (isO d) := by
  cases h with
  | non => exact ⟨_, .non, T.k1, fun z => Bool.noConfusion z, T.r1⟩
  | bl b => exact ⟨_, .bl b, T.k2, fun _ => same (by decide +kernel), T.r2⟩
  | int i => exact ⟨_, .int i, same (by decide +kernel), fun _ => T.k7, T.r7⟩
  | str s => exact ⟨_, .str s, T.k3, fun z => Bool.noConfusion z, T.r3⟩
  | tup l => exact ⟨_, .tup l, T.k4, fun z => Bool.noConfusion z, T.r4⟩
  | dct => exact ⟨_, .dct, T.k8, fun z => Bool.noConfusion z, T.r8⟩
  | lst l => exact ⟨_, .lst l, T.k5, fun z => Bool.noConfusion z, T.r5⟩
  | rat p => exact ⟨_, .obj _ T.is, T.k6, fun z => Bool.noConfusion z, same (beq_self_eq_true _)⟩
/-! ### promises -/
abbrev spB (C : Addr) (f : D → Bool) : SpD := fun as Q => ∃ d, as = [.val d] ∧ Kn C d ∧ Q (.bl (f d))
section
variable {P : Program} {w : World} {K : PySem.W.Frag} {mg : Str → Option Value} {base : Heap} {C : Addr}
theorem sc_isint : FnScope ["value"] ["value"] (defScope sIsInt) := ⟨rfl, rfl, rfl, by decide +kernel, rfl, by decide +kernel, by decide +kernel⟩
theorem ok_isint {f : Addr} {fd : FuncData} (F : FunS K "is_integer" "is_integer" sIsInt f fd) (T : Txt K mg C) : GnOk P w K mg base 1 f fd ["value"] (lift K (spB C isI)) := by
  refine gn_dl F sc_isint (fun as Q h => by obtain ⟨d, rfl, _⟩ := h; rfl) (fun cdv A outer s H hr hG W as Q h => ?_)
  obtain ⟨d, rfl, kn, q⟩ := h
  obtain ⟨t, ty, h1, h2, _⟩ := kn.ty T
  refine sds_cons (sd_ret (ed_and (ed_callB T.isi (ad_cons (nm 0 (ad_cons (ed_ty T.int (ad_nil (cd_isi ty (.ty _) h1 (kB ?_))))))))))
  have e : isI d = ((isI d || isB d) && !isB d) := by cases d <;> rfl
  rw [e] at q
  cases c : (isI d || isB d) with
  | false =>
    rw [c] at q
    exact q
  | true =>
    rw [c] at q
    show ED _ _ _ _ _
    exact ed_one (ed_not (ed_callB T.isi (ad_cons (nm 0 (ad_cons (ed_ty T.bool (ad_nil (cd_isi ty (.ty _) (h2 c) (kB q)))))))))

/-- is_count: an int from 0 on -/
def isC : D → Bool
  | .int i => decide (0 ≤ i)
  | _ => false
theorem sc_iscount : FnScope ["value"] ["value"] (defScope sIsCount) := ⟨rfl, rfl, rfl, by decide +kernel, rfl, by decide +kernel, by decide +kernel⟩
theorem ok_iscount {f : Addr} {fd : FuncData} (F : FunS K "is_count" "is_count" sIsCount f fd) (T : Txt K mg C) (G : Df P w K mg base "is_integer" 1 1 (spB C isI)) : GnOk P w K mg base 2 f fd ["value"] (lift K (spB C isC)) := by
  refine gn_dl F sc_iscount (fun as Q h => by obtain ⟨d, rfl, _⟩ := h; rfl) (fun cdv A outer s H hr hG W as Q h => ?_)
  obtain ⟨d, rfl, kn, q⟩ := h
  refine sds_cons (sd_ret (ed_and (ed_call G hr hG (ad_cons (nm 0 (ad_nil ⟨d, rfl, kn, kB ?_⟩))))))
  cases kn with
  | int i => exact ed_one (show ED _ _ _ _ _ from ed_cmp (nm 0 (ed_int (od_ge q))))
  | _ => exact q
abbrev spL : SpD := fun as Q => ∃ d l, as = [.val d] ∧ (d = .lst l ∨ d = .tup l) ∧ Q (.bl true)
theorem sc_islist : FnScope ["value"] ["value"] (defScope sIsList) := ⟨rfl, rfl, rfl, by decide +kernel, rfl, by decide +kernel, by decide +kernel⟩
def isN (d : D) : Bool := isI d || isO d
theorem sc_isnumber : FnScope ["value"] ["value"] (defScope sIsNumber) := ⟨rfl, rfl, rfl, by decide +kernel, rfl, by decide +kernel, by decide +kernel⟩
theorem ok_isnumber {f : Addr} {fd : FuncData} (F : FunS K "is_number" "is_number" sIsNumber f fd) (T : Txt K mg C) (G : Df P w K mg base "is_integer" 1 1 (spB C isI)) : GnOk P w K mg base 2 f fd ["value"] (lift K (spB C isN)) := by
  refine gn_dl F sc_isnumber (fun as Q h => by obtain ⟨d, rfl, _⟩ := h; rfl) (fun cdv A outer s H hr hG W as Q h => ?_)
  obtain ⟨d, rfl, kn, q⟩ := h
  obtain ⟨t, ty, _, _, h3⟩ := kn.ty T
  refine sds_cons (sd_ret (ed_or (ed_call G hr hG (ad_cons (nm 0 (ad_nil ⟨d, rfl, kn, kB ?_⟩))))))
  unfold isN at q
  cases c : isI d with
  | true =>
    simp only [c, Bool.true_or] at q
    exact q
  | false =>
    simp only [c, Bool.false_or] at q
    exact ed_one (show ED _ _ _ _ _ from ed_callB T.isi (ad_cons (nm 0 (ad_cons (ed_cls T.mC (ad_nil (cd_isi ty (.cls _) h3 q)))))))
/-! ### Ratio(top, bottom) -/
abbrev sInit : Stmt := rat 0
abbrev spInit : SpI := fun as Q => ∃ t b, as = [.val (.int t), .val (.int b)] ∧ b ≠ 0 ∧ t.natAbs < 2 ^ 8000 ∧ b.natAbs < 2 ^ 8000 ∧ Q (rf (low t b))
theorem sc_init : FnScope ["self", "top", "bottom", "value", "shared"] ["self", "top", "bottom"] (defScope sInit) := ⟨rfl, rfl, rfl, by decide +kernel, rfl, by decide +kernel, by decide +kernel⟩
theorem ok_init {f : Addr} {fd : FuncData} (F : FunS K "__init__" "Ratio.__init__" sInit f fd) (T : Txt K mg C) (G : Df P w K mg base "is_integer" 1 1 (spB C isI)) : GnOk P w K mg base 2 f fd ["self", "top", "bottom"] (liftI K C spInit) := by
  refine init_dl F sc_init (fun as Q h => by obtain ⟨t, b, rfl, _⟩ := h; rfl) (fun cdv A outer s H hr hG W B as Q p dx h => ?_)
  obtain ⟨t, b, rfl, hb, bt, bb, q⟩ := h
  have nd := sc_init.nd
  refine sds_cons (sd_forT (l := [.int t, .int b]) PassesOwn.never rfl (fun _ S' => ∃ v, notInst v = true ∧ S' = [some (.inst C p dx []), some (.val (.int t)), some (.val (.int b)), v, none]) (ed_tup (ad_cons (nm 1 (ad_cons (nm 2 (ad_nil ⟨[.int t, .int b], rfl, by simp, rfl, none, rfl, rfl⟩)))))) ?_ ?_)
  · rintro i d S' hi ⟨v, nv, rfl⟩
    refine gd_name 3 nd rfl ?_
    refine sds_cons (sd_if (td_not (td_val (ed_call G hr hG (ad_cons (nm 3 (ad_nil ⟨d, rfl, ?_, kB ?_⟩)))))))
    · rcases i with _ | _ | i
      · cases hi; exact .int _
      · cases hi; exact .int _
      · simp at hi
    · have e : isI d = true := by
        rcases i with _ | _ | i
        · cases hi; rfl
        · cases hi; rfl
        · simp at hi
      rw [e]
      exact sds_nil (sds_nil ⟨_, rfl, rfl⟩)
  · rintro S' ⟨v, nv, rfl⟩
    refine sds_cons (sd_if (td_cmp (nm 2 (ed_int (od_eqi (kB ?_))))))
    rw [decide_eq_false hb]
    refine sds_nil ?_
    refine sds_cons (sd_set 4 nd rfl (ed_callM T.gcd (ad_cons (nm 1 (ad_cons (nm 2 (ad_nil (cd_gcd ?_))))))))
    refine sds_cons (sd_post (fun S' => S' = [some (.inst C p dx []), some (.val (.int t)), some (.val (.int b)), v, some (.val (.int (gs t b)))]) (sd_if (td_cmp (nm 2 (ed_int (od_lt (kB ?_)))))) ?_)
    · by_cases c : b < 0
      · rw [decide_eq_true c]
        refine sds_cons (sd_set 4 nd rfl (ed_neg (nm 4 ⟨_, rfl, sds_nil ?_⟩)))
        have e : gs t b = -(Nat.gcd t.natAbs b.natAbs : Int) := by unfold gs; rw [if_neg (by omega)]
        rw [e]
        rfl
      · rw [decide_eq_false c]
        refine sds_nil ?_
        have e : gs t b = (Nat.gcd t.natAbs b.natAbs : Int) := by unfold gs; rw [if_pos (by omega)]
        rw [e]
        rfl
    · rintro S' rfl
      have gb := gs_bd (t := t) hb bb
      have g0 := gs_ne (t := t) hb
      refine sds_cons (sd_fld 0 [] T.nu.cl T.nT rfl rfl (by decide) (by simp [notInst]; exact nv) (ed_bin (nm 1 (nm 4 (od_fdiv (cdivg g0 gb (by decide)) ?_)))))
      refine sds_cons (sd_fld 0 _ T.nu.cl T.nB rfl rfl (by simp [putD]) (by simp [notInst]; exact nv) (ed_bin (nm 2 (nm 4 (od_fdiv (cdivg g0 gb (by decide)) ?_)))))
      refine sds_nil ⟨_, rfl, ?_⟩
      have e : putD "_bottom" (D.int (b.fdiv (gs t b))) (putD "_top" (D.int (t.fdiv (gs t b))) []) = rf (low t b) := by
        show (if ("_top" : Str) = "_bottom" then _ else (("_top" : Str), D.int _) :: [(("_bottom" : Str), D.int _)]) = _
        rw [if_neg (by decide +kernel)]
        rfl
      rw [e]
      exact q
end
end K85

set_option Elab.async false
set_option linter.all false
set_option maxRecDepth 100000
set_option maxHeartbeats 2000000
/-! k85: what a Ratio does -/
namespace K85
open PySem L2 DL
theorem lookT (p : Fr) : (rf p).lookup ("_top" : Str) = some (.int p.1) := rfl
theorem lookB (p : Fr) : (rf p).lookup ("_bottom" : Str) = some (.int p.2) := by
  unfold rf
  rw [List.lookup_cons, show (("_bottom" : Str) == ("_top" : Str)) = false by decide +kernel]
  rfl
/-- a Ratio or an int, and the fraction it is -/
inductive Nr (C : Addr) (n : Nat) : D → Fr → Prop
  | rat (p) (h : Bd n p) : Nr C n (Ra C p) p
  | int (i : Int) (h : i.natAbs < 2 ^ n) (h1 : 1 < 2 ^ n) : Nr C n (.int i) (i, 1)
theorem Nr.bd {C : Addr} {n : Nat} {x : D} {p : Fr} (h : Nr C n x p) : Bd n p := by
  cases h with
  | rat p h => exact h
  | int i h h1 => exact ⟨h, h1, Int.one_pos⟩
def addF (p q : Fr) : Fr := low (p.1 * q.2 + q.1 * p.2) (p.2 * q.2)
def subF (p q : Fr) : Fr := low (p.1 * q.2 - q.1 * p.2) (p.2 * q.2)
def mulF (p q : Fr) : Fr := low (p.1 * q.1) (p.2 * q.2)
def overF (p q : Fr) : Fr := low (p.1 * q.2) (p.2 * q.1)
def sgF (p : Fr) : Int := if p.1 > 0 then 1 else if p.1 < 0 then -1 else 0
abbrev sp1 (C : Addr) (f : Fr → D) : SpD := fun as Q => ∃ p, as = [.val (Ra C p)] ∧ Q (f p)
/-- .. of a fraction that is not great -/
abbrev sp1b (C : Addr) (n : Nat) (f : Fr → D) : SpD := fun as Q => ∃ p, as = [.val (Ra C p)] ∧ Bd n p ∧ Q (f p)
abbrev spRat (C : Addr) : SpD := fun as Q => ∃ x p, as = [.val x] ∧ Nr C 3000 x p ∧ Q (Ra C p)
abbrev spOp (C : Addr) (f : Fr → Fr → D) : SpD := fun as Q => ∃ p x q, as = [.val (Ra C p), .val x] ∧ Bd 3000 p ∧ Nr C 3000 x q ∧ Q (f p q)
/-- what a Ratio's method stands on -/
structure Rt (P : Program) (w : World) (K : PySem.W.Frag) (mg : Str → Option Value) (base : Heap) (C : Addr) : Prop where
  T : Txt K mg C
  mk2 : Kl P w K mg base "Ratio" C 2 [] spInit
  mk1 : Kl P w K mg base "Ratio" C 2 [.int 1] spInit
  top : Pr P w K mg base C "top" 1 (sp1 C fun p => .int p.1)
  bot : Pr P w K mg base C "bottom" 1 (sp1 C fun p => .int p.2)
section
variable {P : Program} {w : World} {K : PySem.W.Frag} {mg : Str → Option Value} {base : Heap} {C : Addr}
section
variable {X : Cx} {B : Hp} {S : En} {pos : Pos} {Q : D → Prop} {o : Expr}
/-- o._top, o._bottom -/
theorem fT {p : Fr} (T : Txt X.K X.mg C) (h : ED X B S o fun x => x = Ra C p ∧ Q (.int p.1)) (hb : attributeBase o "_top" X.env (eval o X.env) = eval o X.env := by rfl) : ED X B S (.Attribute o "_top" pos) Q :=
  ed_fld T.nu.cl T.nT (fun σ W H r R c => h σ W H r R fun d v W' H' s ok n ⟨e, q⟩ => c d v W' H' s ok n ⟨rf p, .int p.1, e, lookT p, q⟩) hb
theorem fB {p : Fr} (T : Txt X.K X.mg C) (h : ED X B S o fun x => x = Ra C p ∧ Q (.int p.2)) (hb : attributeBase o "_bottom" X.env (eval o X.env) = eval o X.env := by rfl) : ED X B S (.Attribute o "_bottom" pos) Q :=
  ed_fld T.nu.cl T.nB (fun σ W H r R c => h σ W H r R fun d v W' H' s ok n ⟨e, q⟩ => c d v W' H' s ok n ⟨rf p, .int p.2, e, lookB p, q⟩) hb
/-- o.top, o.bottom -/
theorem pT {p : Fr} (V : Rt X.prog X.w X.K X.mg X.base C) (hr : Room 2 X.A) (hG : X.A.guards = some (gOf X)) (h : ED X B S o fun x => x = Ra C p ∧ Q (.int p.1)) (hb : attributeBase o "top" X.env (eval o X.env) = eval o X.env := by rfl) : ED X B S (.Attribute o "top" pos) Q :=
  ed_prop V.T.nu.cl V.top hr hG (fun σ W H r R c => h σ W H r R fun d v W' H' s ok n ⟨e, q⟩ => c d v W' H' s ok n ⟨rf p, e, p, by rw [e], q⟩) hb
theorem pB {p : Fr} (V : Rt X.prog X.w X.K X.mg X.base C) (hr : Room 2 X.A) (hG : X.A.guards = some (gOf X)) (h : ED X B S o fun x => x = Ra C p ∧ Q (.int p.2)) (hb : attributeBase o "bottom" X.env (eval o X.env) = eval o X.env := by rfl) : ED X B S (.Attribute o "bottom" pos) Q :=
  ed_prop V.T.nu.cl V.bot hr hG (fun σ W H r R c => h σ W H r R fun d v W' H' s ok n ⟨e, q⟩ => c d v W' H' s ok n ⟨rf p, e, p, by rw [e], q⟩) hb
end
theorem sc_top : FnScope ["self"] ["self"] (defScope (rat 1)) := ⟨rfl, rfl, rfl, by decide +kernel, rfl, by decide +kernel, by decide +kernel⟩
theorem ok_top {f : Addr} {fd : FuncData} (F : FunS K "top" "Ratio.top" (rat 1) f fd) (T : Txt K mg C) : GnOk P w K mg base 1 f fd ["self"] (lift K (sp1 C fun p => .int p.1)) := by
  refine gn_dl F sc_top (fun as Q h => by obtain ⟨d, rfl, _⟩ := h; rfl) (fun cdv A outer s H hr hG W as Q h => ?_)
  obtain ⟨p, rfl, q⟩ := h
  exact sds_cons (sd_ret (fT T (nm 0 ⟨rfl, q⟩)))
theorem sc_bot : FnScope ["self"] ["self"] (defScope (rat 2)) := ⟨rfl, rfl, rfl, by decide +kernel, rfl, by decide +kernel, by decide +kernel⟩
theorem ok_bot {f : Addr} {fd : FuncData} (F : FunS K "bottom" "Ratio.bottom" (rat 2) f fd) (T : Txt K mg C) : GnOk P w K mg base 1 f fd ["self"] (lift K (sp1 C fun p => .int p.2)) := by
  refine gn_dl F sc_bot (fun as Q h => by obtain ⟨d, rfl, _⟩ := h; rfl) (fun cdv A outer s H hr hG W as Q h => ?_)
  obtain ⟨p, rfl, q⟩ := h
  exact sds_cons (sd_ret (fB T (nm 0 ⟨rfl, q⟩)))
theorem sc_sign : FnScope ["self"] ["self"] (defScope (rat 3)) := ⟨rfl, rfl, rfl, by decide +kernel, rfl, by decide +kernel, by decide +kernel⟩
theorem ok_sign {f : Addr} {fd : FuncData} (F : FunS K "sign" "Ratio.sign" (rat 3) f fd) (T : Txt K mg C) : GnOk P w K mg base 1 f fd ["self"] (lift K (sp1 C fun p => .int (sgF p))) := by
  refine gn_dl F sc_sign (fun as Q h => by obtain ⟨d, rfl, _⟩ := h; rfl) (fun cdv A outer s H hr hG W as Q h => ?_)
  obtain ⟨p, rfl, q⟩ := h
  refine sds_cons (sd_if (td_cmp (fT T (nm 0 ⟨rfl, ed_int (od_gt (kB ?_))⟩))))
  have q : Q (.int (sgF p)) := q
  unfold sgF at q
  by_cases c : p.1 > 0
  · rw [if_pos c] at q
    rw [decide_eq_true (show 0 < p.1 from c)]
    exact sds_cons (sd_ret (ed_int q))
  · rw [if_neg c] at q
    rw [decide_eq_false (show ¬ 0 < p.1 from c)]
    refine sds_nil (sds_cons (sd_ret (ed_ifx (td_cmp (fT T (nm 0 ⟨rfl, ed_int (od_lt (kB ?_))⟩))))))
    by_cases e : p.1 < 0
    · rw [if_pos e] at q
      rw [decide_eq_true e]
      exact ed_neg (ed_int ⟨_, rfl, q⟩)
    · rw [if_neg e] at q
      rw [decide_eq_false e]
      exact ed_int q
theorem sc_ratof : FnScope ["value"] ["value"] (defScope sRatioOf) := ⟨rfl, rfl, rfl, by decide +kernel, rfl, by decide +kernel, by decide +kernel⟩
theorem ok_ratof {f : Addr} {fd : FuncData} (F : FunS K "ratio_of" "ratio_of" sRatioOf f fd) (V : Rt P w K mg base C) : GnOk P w K mg base 4 f fd ["value"] (lift K (spRat C)) := by
  refine gn_dl F sc_ratof (fun as Q h => by obtain ⟨d, _, rfl, _⟩ := h; rfl) (fun cdv A outer s H hr hG W as Q h => ?_)
  obtain ⟨x, p, rfl, n, q⟩ := h
  have T := V.T
  cases n with
  | rat p h =>
    obtain ⟨t, ty, _, _, h3⟩ := (Kn.rat (C := C) p).ty T
    refine sds_cons (sd_ret (ed_ifx (td_val (ed_callB T.isi (ad_cons (nm 0 (ad_cons (ed_cls T.mC (ad_nil (cd_isi ty (.cls _) h3 (kB ?_)))))))))))
    exact nm 0 q
  | int i h h1 =>
    obtain ⟨t, ty, _, _, h3⟩ := (Kn.int (C := C) i).ty T
    refine sds_cons (sd_ret (ed_ifx (td_val (ed_callB T.isi (ad_cons (nm 0 (ad_cons (ed_cls T.mC (ad_nil (cd_isi ty (.cls _) h3 (kB ?_)))))))))))
    refine ed_make V.mk1 hr hG (ad_cons (nm 0 (ad_nil ⟨i, 1, rfl, by decide, bd_mono h (by decide), bd_mono (m := 1) (by decide) (by decide), ?_⟩)))
    rw [low_one]
    exact q
end
end K85

set_option Elab.async false
set_option linter.all false
set_option maxRecDepth 100000
set_option maxHeartbeats 2000000
/-! k85: the operators, the comparisons, the texts of a Ratio -/
namespace K85
open PySem L2 DL
section
variable {P : Program} {w : World} {K : PySem.W.Frag} {mg : Str → Option Value} {base : Heap} {C : Addr}
theorem mk_ok {n : Nat} {t b : Int} {Q : List (Str × D) → Prop} (hb : b ≠ 0) (h1 : t.natAbs < 2 ^ n) (h2 : b.natAbs < 2 ^ n) (hn : n ≤ 8000) (q : Q (rf (low t b))) : spInit [.val (.int t), .val (.int b)] Q :=
  ⟨t, b, rfl, hb, bd_mono h1 hn, bd_mono h2 hn, q⟩
theorem mul_ne {a b : Int} (h : a ≠ 0) (k : b ≠ 0) : a * b ≠ 0 := Int.mul_ne_zero h k
theorem Bd.ne {n : Nat} {p : Fr} (h : Bd n p) : p.2 ≠ 0 := by have := h.pos; omega
theorem cm {m n : Nat} {a b : Int} (h : a.natAbs < 2 ^ m) (k : b.natAbs < 2 ^ n) (hm : m ≤ 3000 := by decide) (hn : n ≤ 3000 := by decide) : CMulX a b := cmul h k (by omega) (by omega)
theorem sc_add : FnScope ["self", "other", "right", "top"] ["self", "other"] (defScope (rat 5)) := ⟨rfl, rfl, rfl, by decide +kernel, rfl, by decide +kernel, by decide +kernel⟩
theorem ok_add {f : Addr} {fd : FuncData} (F : FunS K "__add__" "Ratio.__add__" (rat 5) f fd) (V : Rt P w K mg base C) (G : Df P w K mg base "ratio_of" 4 1 (spRat C)) : GnOk P w K mg base 5 f fd ["self", "other"] (lift K (spOp C fun p q => Ra C (addF p q))) := by
  refine gn_dl F sc_add (fun as Q h => by obtain ⟨_, _, _, rfl, _⟩ := h; rfl) (fun cdv A outer s H hr hG W as Q h => ?_)
  obtain ⟨p, x, q, rfl, hp, hx, k⟩ := h
  have T := V.T
  have hq := hx.bd
  have r2 := hr.mono (j := 2) (by decide)
  have nd := sc_add.nd
  refine sds_cons (sd_set 2 nd rfl (ed_call G hr hG (ad_cons (nm 1 (ad_nil ⟨x, q, rfl, hx, ?_⟩)))))
  refine sds_cons (sd_set 3 nd rfl (ed_bin (ed_bin (fT T (nm 0 ⟨rfl, pB V r2 hG (nm 2 ⟨rfl, od_mul (cm hp.t hq.b) (ed_bin (pT V r2 hG (nm 2 ⟨rfl, fB T (nm 0 ⟨rfl, od_mul (cm hq.t hp.b) (od_add ?_)⟩)⟩)))⟩)⟩)))))
  refine sds_cons (sd_ret (ed_makeA V.mk2 (hr.mono (by decide)) hG (ad_cons (nm 3 (ad_cons (ed_bin (fB T (nm 0 ⟨rfl, pB V r2 hG (nm 2 ⟨rfl, od_mul (cm hp.b hq.b) (ad_nil (mk_ok (n := 6001) (mul_ne hp.ne hq.ne) (add_bd (mul_bd hp.t hq.b) (mul_bd hq.t hp.b)) (bd_mono (mul_bd hp.b hq.b) (by decide)) (by decide) ?_))⟩)⟩))))))))
  exact k
theorem sc_sub : FnScope ["self", "other", "right", "top"] ["self", "other"] (defScope (rat 7)) := ⟨rfl, rfl, rfl, by decide +kernel, rfl, by decide +kernel, by decide +kernel⟩
theorem ok_sub {f : Addr} {fd : FuncData} (F : FunS K "__sub__" "Ratio.__sub__" (rat 7) f fd) (V : Rt P w K mg base C) (G : Df P w K mg base "ratio_of" 4 1 (spRat C)) : GnOk P w K mg base 5 f fd ["self", "other"] (lift K (spOp C fun p q => Ra C (subF p q))) := by
  refine gn_dl F sc_sub (fun as Q h => by obtain ⟨_, _, _, rfl, _⟩ := h; rfl) (fun cdv A outer s H hr hG W as Q h => ?_)
  obtain ⟨p, x, q, rfl, hp, hx, k⟩ := h
  have T := V.T
  have hq := hx.bd
  have r2 := hr.mono (j := 2) (by decide)
  have nd := sc_sub.nd
  refine sds_cons (sd_set 2 nd rfl (ed_call G hr hG (ad_cons (nm 1 (ad_nil ⟨x, q, rfl, hx, ?_⟩)))))
  refine sds_cons (sd_set 3 nd rfl (ed_bin (ed_bin (fT T (nm 0 ⟨rfl, pB V r2 hG (nm 2 ⟨rfl, od_mul (cm hp.t hq.b) (ed_bin (pT V r2 hG (nm 2 ⟨rfl, fB T (nm 0 ⟨rfl, od_mul (cm hq.t hp.b) (od_sub ?_)⟩)⟩)))⟩)⟩)))))
  refine sds_cons (sd_ret (ed_makeA V.mk2 (hr.mono (by decide)) hG (ad_cons (nm 3 (ad_cons (ed_bin (fB T (nm 0 ⟨rfl, pB V r2 hG (nm 2 ⟨rfl, od_mul (cm hp.b hq.b) (ad_nil (mk_ok (n := 6001) (mul_ne hp.ne hq.ne) (sub_bd (mul_bd hp.t hq.b) (mul_bd hq.t hp.b)) (bd_mono (mul_bd hp.b hq.b) (by decide)) (by decide) ?_))⟩)⟩))))))))
  exact k
theorem sc_mul : FnScope ["self", "other", "right"] ["self", "other"] (defScope (rat 9)) := ⟨rfl, rfl, rfl, by decide +kernel, rfl, by decide +kernel, by decide +kernel⟩
theorem ok_mul {f : Addr} {fd : FuncData} (F : FunS K "__mul__" "Ratio.__mul__" (rat 9) f fd) (V : Rt P w K mg base C) (G : Df P w K mg base "ratio_of" 4 1 (spRat C)) : GnOk P w K mg base 5 f fd ["self", "other"] (lift K (spOp C fun p q => Ra C (mulF p q))) := by
  refine gn_dl F sc_mul (fun as Q h => by obtain ⟨_, _, _, rfl, _⟩ := h; rfl) (fun cdv A outer s H hr hG W as Q h => ?_)
  obtain ⟨p, x, q, rfl, hp, hx, k⟩ := h
  have T := V.T
  have hq := hx.bd
  have r2 := hr.mono (j := 2) (by decide)
  have nd := sc_mul.nd
  refine sds_cons (sd_set 2 nd rfl (ed_call G hr hG (ad_cons (nm 1 (ad_nil ⟨x, q, rfl, hx, ?_⟩)))))
  refine sds_cons (sd_ret (ed_makeA V.mk2 (hr.mono (by decide)) hG (ad_cons (ed_bin (fT T (nm 0 ⟨rfl, pT V r2 hG (nm 2 ⟨rfl, od_mul (cm hp.t hq.t) (ad_cons (ed_bin (fB T (nm 0 ⟨rfl, pB V r2 hG (nm 2 ⟨rfl, od_mul (cm hp.b hq.b) (ad_nil (mk_ok (n := 6000) (mul_ne hp.ne hq.ne) (mul_bd hp.t hq.t) (mul_bd hp.b hq.b) (by decide) ?_))⟩)⟩))))⟩)⟩))))))
  exact k
/-! an int on the left -/
theorem sc_radd : FnScope ["self", "other"] ["self", "other"] (defScope (rat 6)) := ⟨rfl, rfl, rfl, by decide +kernel, rfl, by decide +kernel, by decide +kernel⟩
theorem ok_radd {f : Addr} {fd : FuncData} (F : FunS K "__radd__" "Ratio.__radd__" (rat 6) f fd) (V : Rt P w K mg base C) (G : Df P w K mg base "ratio_of" 4 1 (spRat C)) (M : Sm P w K mg base C "__add__" 5 (spOp C fun p q => Ra C (addF p q))) : GnOk P w K mg base 6 f fd ["self", "other"] (lift K (spOp C fun p q => Ra C (addF q p))) := by
  refine gn_dl F sc_radd (fun as Q h => by obtain ⟨_, _, _, rfl, _⟩ := h; rfl) (fun cdv A outer s H hr hG W as Q h => ?_)
  obtain ⟨p, x, q, rfl, hp, hx, k⟩ := h
  exact sds_cons (sd_ret (ed_bin (ed_call G (hr.mono (by decide)) hG (ad_cons (nm 1 (ad_nil ⟨x, q, rfl, hx, nm 0 (od_oo V.T.nu M hr hG ⟨q, _, p, rfl, hx.bd, .rat p hp, k⟩)⟩))))))
theorem sc_rsub : FnScope ["self", "other"] ["self", "other"] (defScope (rat 8)) := ⟨rfl, rfl, rfl, by decide +kernel, rfl, by decide +kernel, by decide +kernel⟩
theorem ok_rsub {f : Addr} {fd : FuncData} (F : FunS K "__rsub__" "Ratio.__rsub__" (rat 8) f fd) (V : Rt P w K mg base C) (G : Df P w K mg base "ratio_of" 4 1 (spRat C)) (M : Sm P w K mg base C "__sub__" 5 (spOp C fun p q => Ra C (subF p q))) : GnOk P w K mg base 6 f fd ["self", "other"] (lift K (spOp C fun p q => Ra C (subF q p))) := by
  refine gn_dl F sc_rsub (fun as Q h => by obtain ⟨_, _, _, rfl, _⟩ := h; rfl) (fun cdv A outer s H hr hG W as Q h => ?_)
  obtain ⟨p, x, q, rfl, hp, hx, k⟩ := h
  exact sds_cons (sd_ret (ed_bin (ed_call G (hr.mono (by decide)) hG (ad_cons (nm 1 (ad_nil ⟨x, q, rfl, hx, nm 0 (od_oo V.T.nu M hr hG ⟨q, _, p, rfl, hx.bd, .rat p hp, k⟩)⟩))))))
theorem sc_rmul : FnScope ["self", "other"] ["self", "other"] (defScope (rat 10)) := ⟨rfl, rfl, rfl, by decide +kernel, rfl, by decide +kernel, by decide +kernel⟩
theorem ok_rmul {f : Addr} {fd : FuncData} (F : FunS K "__rmul__" "Ratio.__rmul__" (rat 10) f fd) (V : Rt P w K mg base C) (G : Df P w K mg base "ratio_of" 4 1 (spRat C)) (M : Sm P w K mg base C "__mul__" 5 (spOp C fun p q => Ra C (mulF p q))) : GnOk P w K mg base 6 f fd ["self", "other"] (lift K (spOp C fun p q => Ra C (mulF q p))) := by
  refine gn_dl F sc_rmul (fun as Q h => by obtain ⟨_, _, _, rfl, _⟩ := h; rfl) (fun cdv A outer s H hr hG W as Q h => ?_)
  obtain ⟨p, x, q, rfl, hp, hx, k⟩ := h
  exact sds_cons (sd_ret (ed_bin (ed_call G (hr.mono (by decide)) hG (ad_cons (nm 1 (ad_nil ⟨x, q, rfl, hx, nm 0 (od_oo V.T.nu M hr hG ⟨q, _, p, rfl, hx.bd, .rat p hp, k⟩)⟩))))))
/-! of one -/
def ab (i : Int) : Int := if i < 0 then -i else i
end
end K85

set_option Elab.async false
set_option linter.all false
set_option maxRecDepth 100000
set_option maxHeartbeats 2000000
/-! k85: Ratio.total, ==, the texts, the shares -/
namespace K85
open PySem L2 DL
section
variable {P : Program} {w : World} {K : PySem.W.Frag} {mg : Str → Option Value} {base : Heap} {C : Addr}
theorem addF_bd {m n : Nat} {p q : Fr} (hp : Bd m p) (hq : Bd n q) : Bd (m + n + 1) (addF p q) :=
  low_bd (mul_ne hp.ne hq.ne) (add_bd (mul_bd hp.t hq.b) (bd_mono (mul_bd hq.t hp.b) (by omega))) (bd_mono (mul_bd hp.b hq.b) (by omega))
/-- data that are fractions -/
structure Nrs (C : Addr) (n : Nat) (l : List D) (ps : List Fr) : Prop where
  len : l.length = ps.length
  at_ : ∀ (i : Nat) d, l[i]? = some d → ∃ p, ps[i]? = some p ∧ Nr C n d p
abbrev spTotal (C : Addr) : SpD := fun as Q => ∃ x l ps, as = [.val (.cls C), .val x] ∧ (x = .lst l ∨ x = .tup l) ∧ Nrs C 150 l ps ∧ l.length ≤ 15 ∧ Q (Ra C (ps.foldl addF (0, 1)))
theorem sc_total : FnScope ["cls", "numbers", "result", "number"] ["cls", "numbers"] (defScope (rat 16)) := ⟨rfl, rfl, rfl, by decide +kernel, rfl, by decide +kernel, by decide +kernel⟩
/-! == -/
abbrev spEq (C : Addr) : SpD := fun as Q => ∃ p x, as = [.val (Ra C p), .val x] ∧ ((∃ q, x = Ra C q ∧ Q (.bl (decide (p.1 = q.1) && decide (p.2 = q.2)))) ∨ (∃ i, x = .int i ∧ Q (.bl false)))
theorem sc_eq : FnScope ["self", "other"] ["self", "other"] (defScope (rat 17)) := ⟨rfl, rfl, rfl, by decide +kernel, rfl, by decide +kernel, by decide +kernel⟩
theorem ok_eq {f : Addr} {fd : FuncData} (F : FunS K "__eq__" "Ratio.__eq__" (rat 17) f fd) (T : Txt K mg C) : GnOk P w K mg base 1 f fd ["self", "other"] (lift K (spEq C)) := by
  refine gn_dl F sc_eq (fun as Q h => by obtain ⟨_, _, rfl, _⟩ := h; rfl) (fun cdv A outer s H hr hG W as Q h => ?_)
  obtain ⟨p, x, rfl, h⟩ := h
  rcases h with ⟨q, rfl, k⟩ | ⟨i, rfl, k⟩
  · obtain ⟨t, ty, _, _, h3⟩ := (Kn.rat (C := C) q).ty T
    refine sds_cons (sd_ret (ed_and (ed_callB T.isi (ad_cons (nm 1 (ad_cons (ed_cls T.mC (ad_nil (cd_isi ty (.cls _) h3 (kB ?_))))))))))
    show ED _ _ _ _ _
    refine ed_and (ed_cmp (fT T (nm 0 ⟨rfl, fT T (nm 1 ⟨rfl, od_eqi (kB ?_)⟩)⟩)))
    by_cases c : p.1 = q.1
    · rw [decide_eq_true c] at k ⊢
      rw [Bool.true_and] at k
      show ED _ _ _ _ _
      exact ed_one (ed_cmp (fB T (nm 0 ⟨rfl, fB T (nm 1 ⟨rfl, od_eqi k⟩)⟩)))
    · rw [decide_eq_false c] at k ⊢
      exact k
  · obtain ⟨t, ty, _, _, h3⟩ := (Kn.int (C := C) i).ty T
    refine sds_cons (sd_ret (ed_and (ed_callB T.isi (ad_cons (nm 1 (ad_cons (ed_cls T.mC (ad_nil (cd_isi ty (.cls _) h3 (kB ?_))))))))))
    exact k
/-! texts -/
theorem tl {i : Int} (h : i.natAbs < 2 ^ 1900) : i.natAbs.log2 < 1920 := by
  by_cases z : i.natAbs = 0
  · rw [z]; decide
  · exact Nat.lt_of_lt_of_le ((Nat.log2_lt z).mpr h) (by decide)
theorem tlen {i : Int} (h : i.natAbs < 2 ^ 1900) : (PySem.Str.ofString (toString i)).length ≤ 1921 := PyProof.Rows.int_text_len_1921 (tl h)
/-- what a fraction is shown as -/
def shown (p : Fr) : Str := if p.2 = 1 then (toString p.1 : String) else Str.ofString (toString p.1) ++ "/" ++ Str.ofString (toString p.2)
def reprF (p : Fr) : Str := "Ratio(" ++ Str.ofString (toString p.1) ++ ", " ++ Str.ofString (toString p.2) ++ ")"
theorem fit {x : Str} {n : Nat} (h : x.length ≤ n) (k : n ≤ 100000) : x.length ≤ sizeLine := Nat.le_trans h (Nat.le_trans k (by decide))
theorem app_len {x y : Str} {m n : Nat} (h : x.length ≤ m) (k : y.length ≤ n) : (x ++ y).length ≤ m + n := by
  rw [Str.length_append]
  omega
theorem emp_app (x : Str) : Str.empty ++ x = x := by
  show Str.mk _ = x
  cases x
  simp [Str.empty]
theorem sc_repr : FnScope ["self"] ["self"] (defScope (rat 19)) := ⟨rfl, rfl, rfl, by decide +kernel, rfl, by decide +kernel, by decide +kernel⟩
theorem ok_repr {f : Addr} {fd : FuncData} (F : FunS K "__repr__" "Ratio.__repr__" (rat 19) f fd) (T : Txt K mg C) : GnOk P w K mg base 1 f fd ["self"] (lift K (sp1b C 1900 fun p => .str (reprF p))) := by
  refine gn_dl F sc_repr (fun as Q h => by obtain ⟨_, rfl, _⟩ := h; rfl) (fun cdv A outer s H hr hG W as Q h => ?_)
  obtain ⟨p, rfl, hp, k⟩ := h
  have k : Q (.str (reprF p)) := k
  unfold reprF at k
  have l1 := tlen hp.t
  have l2 := tlen hp.b
  have l3 : (("Ratio(" : Str)).length ≤ 6 := by decide +kernel
  have l4 : ((", " : Str)).length ≤ 2 := by decide +kernel
  have l5 : ((")" : Str)).length ≤ 1 := by decide +kernel
  refine sds_cons (sd_ret (ed_join (ed_str ⟨_, rfl, ?_, ed_fmt (fT T (nm 0 ⟨rfl, .inr ⟨_, rfl, tl hp.t, _, rfl, ?_, ed_str ⟨_, rfl, ?_, ed_fmt (fB T (nm 0 ⟨rfl, .inr ⟨_, rfl, tl hp.b, _, rfl, ?_, ed_str ⟨_, rfl, ?_, ?_⟩⟩⟩))⟩⟩⟩))⟩)))
  · rw [emp_app]; exact fit l3 (by decide)
  · rw [emp_app]; exact fit (app_len l3 l1) (by decide)
  · rw [emp_app]; exact fit (app_len (app_len l3 l1) l4) (by decide)
  · rw [emp_app]; exact fit (app_len (app_len (app_len l3 l1) l4) l2) (by decide)
  · rw [emp_app]; exact fit (app_len (app_len (app_len (app_len l3 l1) l4) l2) l5) (by decide)
  · show Q _
    rw [emp_app]
    exact k
/-! shares -/
end
end K85

set_option Elab.async false
set_option linter.all false
set_option maxRecDepth 100000
set_option maxHeartbeats 4000000
/-! k85: fractions told by rational numbers -/
namespace K85
open PySem L2 DL
def fr (r : Rat) : Fr := (r.num, (r.den : Int))
theorem low_fr {t b : Int} (h : b ≠ 0) : low t b = fr (Rat.divInt t b) := by
  have dt := gs_dvd_t (t := t) (b := b)
  have db := gs_dvd_b (t := t) (b := b)
  have g0 := gs_ne (t := t) h
  obtain ⟨x, y, e⟩ : ∃ x y, low t b = (x, y) := ⟨_, _, rfl⟩
  have hp := low_pos (t := t) h
  have hg := low_gcd (t := t) h
  rw [e] at hp hg
  have ex : t.fdiv (gs t b) = x := congrArg Prod.fst e
  have ey : b.fdiv (gs t b) = y := congrArg Prod.snd e
  have tx : t = gs t b * x := by rw [← ex, Int.fdiv_eq_ediv_of_dvd dt, Int.mul_ediv_cancel' dt]
  have bx : b = gs t b * y := by rw [← ey, Int.fdiv_eq_ediv_of_dvd db, Int.mul_ediv_cancel' db]
  have hy : (y.natAbs : Int) = y := Int.natAbs_of_nonneg (Int.le_of_lt hp)
  have q : Rat.divInt t b = Rat.divInt x y := (Rat.divInt_eq_divInt_iff h (Int.ne_of_gt hp)).mpr (by
    generalize gs t b = k at tx bx
    rw [tx, bx, Int.mul_assoc, Int.mul_comm x (k * y), Int.mul_assoc, Int.mul_comm x y])
  have nz : y.natAbs ≠ 0 := by have : 0 < y := hp; omega
  have r := Rat.mk_eq_divInt (num := x) (den := y.natAbs) (nz := nz) (c := hg)
  rw [hy] at r
  rw [e, q, ← r]
  show (x, y) = (x, (y.natAbs : Int))
  rw [hy]
theorem fr_ne (r : Rat) : (fr r).2 ≠ 0 := by have := r.den_nz; show (r.den : Int) ≠ 0; omega
theorem fr_val (r : Rat) : Rat.divInt (fr r).1 (fr r).2 = r := Rat.num_divInt_den r
theorem addF_fr (r s : Rat) : addF (fr r) (fr s) = fr (r + s) := by
  unfold addF
  rw [low_fr (Int.mul_ne_zero (fr_ne r) (fr_ne s)), ← Rat.divInt_add_divInt _ _ (fr_ne r) (fr_ne s), fr_val, fr_val]
theorem subF_fr (r s : Rat) : subF (fr r) (fr s) = fr (r - s) := by
  unfold subF
  rw [low_fr (Int.mul_ne_zero (fr_ne r) (fr_ne s)), ← Rat.divInt_sub_divInt _ _ (fr_ne r) (fr_ne s), fr_val, fr_val]
theorem mulF_fr (r s : Rat) : mulF (fr r) (fr s) = fr (r * s) := by
  unfold mulF
  rw [low_fr (Int.mul_ne_zero (fr_ne r) (fr_ne s)), ← Rat.divInt_mul_divInt, fr_val, fr_val]
theorem fr_inj {r s : Rat} : (decide ((fr r).1 = (fr s).1) && decide ((fr r).2 = (fr s).2)) = decide (r = s) := by
  by_cases h : r = s
  · subst h
    simp
  · rw [decide_eq_false h]
    have : ¬ ((fr r).1 = (fr s).1 ∧ (fr r).2 = (fr s).2) := fun ⟨a, b⟩ => h (Rat.ext a (Int.ofNat_inj.mp b))
    by_cases a : (fr r).1 = (fr s).1
    · rw [decide_eq_true a, Bool.true_and, decide_eq_false fun b => this ⟨a, b⟩]
    · rw [decide_eq_false a, Bool.false_and]
theorem mulF_bd {m n : Nat} {p q : Fr} (hp : Bd m p) (hq : Bd n q) : Bd (m + n) (mulF p q) := low_bd (mul_ne hp.ne hq.ne) (mul_bd hp.t hq.t) (mul_bd hp.b hq.b)
abbrev Bq (n : Nat) (r : Rat) : Prop := Bd n (fr r)
theorem Bq.add {m n : Nat} {r s : Rat} (a : Bq m r) (b : Bq n s) : Bq (m + n + 1) (r + s) := by have := addF_bd a b; rw [addF_fr] at this; exact this
theorem Bq.mul {m n : Nat} {r s : Rat} (a : Bq m r) (b : Bq n s) : Bq (m + n) (r * s) := by have := mulF_bd a b; rw [mulF_fr] at this; exact this
theorem Bq.le {m n : Nat} {r : Rat} (a : Bq m r) (k : m ≤ n) : Bq n r := Bd.mono a k
theorem Bq.int {n : Nat} {i : Int} (h : i.natAbs < 2 ^ n) (h1 : 1 ≤ n) : Bq n (i : Rat) := ⟨h, by show (1 : Int).natAbs < 2 ^ n; exact Nat.lt_of_lt_of_le (by decide : 1 < 2 ^ 1) (Nat.pow_le_pow_right (by decide) h1), by show (0 : Int) < 1; decide⟩
/-- a Ratio or an int that is this number -/
inductive Nq (C : Addr) (n : Nat) : D → Rat → Prop
  | rat (r : Rat) (h : Bq n r) : Nq C n (Ra C (fr r)) r
  | int (i : Int) (h : Bq n (i : Rat)) : Nq C n (.int i) (i : Rat)
section
variable {C : Addr} {n m : Nat} {d : D} {r : Rat}
theorem Nq.b (h : Nq C n d r) : Bq n r := by cases h <;> assumption
theorem Nq.nr (h : Nq C n d r) : Nr C n d (fr r) := by
  cases h with
  | rat r h => exact .rat _ h
  | int i h => exact .int i h.t h.b
theorem Nq.mono (h : Nq C n d r) (k : n ≤ m) : Nq C m d r := by
  cases h with
  | rat r h => exact .rat _ (h.le k)
  | int i h => exact .int i (h.le k)
theorem Nq.kn (h : Nq C n d r) : Kn C d := by
  cases h with
  | rat r h => exact .rat _
  | int i h => exact .int i
theorem Nq.num (h : Nq C n d r) : isN d = true := by cases h <;> rfl
end
/-- numbers, each its own -/
def Nqs (C : Addr) (n : Nat) (l : List D) (rs : List Rat) : Prop := Paired (Nq C n) l rs
def sumQ (rs : List Rat) : Rat := rs.foldl (· + ·) 0
end K85

set_option Elab.async false
set_option linter.all false
set_option maxRecDepth 100000
set_option maxHeartbeats 4000000
/-! k85: the operators in rational numbers; totals; lists of numbers -/
namespace K85
open PySem L2 DL
section
variable {P : Program} {w : World} {K : PySem.W.Frag} {mg : Str → Option Value} {base : Heap} {C : Addr}
/-- what stands under the tables -/
structure Lv (P : Program) (w : World) (K : PySem.W.Frag) (mg : Str → Option Value) (base : Heap) (C : Addr) : Prop where
  V : Rt P w K mg base C
  ratof : Df P w K mg base "ratio_of" 4 1 (spRat C)
  isnum : Df P w K mg base "is_number" 2 1 (spB C isN)
  add : Sm P w K mg base C "__add__" 5 (spOp C fun p q => Ra C (addF p q))
  radd : Sm P w K mg base C "__radd__" 6 (spOp C fun p q => Ra C (addF q p))
  sub : Sm P w K mg base C "__sub__" 5 (spOp C fun p q => Ra C (subF p q))
  rsub : Sm P w K mg base C "__rsub__" 6 (spOp C fun p q => Ra C (subF q p))
  mul : Sm P w K mg base C "__mul__" 5 (spOp C fun p q => Ra C (mulF p q))
  rmul : Sm P w K mg base C "__rmul__" 6 (spOp C fun p q => Ra C (mulF q p))
  eq : Sm P w K mg base C "__eq__" 1 (spEq C)
  repr : Sm P w K mg base C "__repr__" 1 (sp1b C 1900 fun p => .str (reprF p))
  la : ∃ r, PySem.W.findIn K (.type "int") "__radd__" = some r
  lm : ∃ r, PySem.W.findIn K (.type "int") "__rmul__" = some r
  ls : ∃ r, PySem.W.findIn K (.type "int") "__rsub__" = some r
section
variable {X : Cx} {Q : D → Prop} {x y : D} {r s : Rat} {m n : Nat} {i : Int}
theorem od_addQ (L : Lv X.prog X.w X.K X.mg X.base C) (hr : Room 6 X.A) (hG : X.A.guards = some (gOf X)) (hx : Bq 3000 r) (hy : Nq C 3000 y s) (k : Q (Ra C (fr (r + s)))) : OD X (binaryOp .Add) (Ra C (fr r)) y Q := by
  have r5 := hr.mono (j := 5) (by decide)
  rw [← addF_fr] at k
  cases hy with
  | rat s h => exact od_oo (op := .Add) L.V.T.nu L.add r5 hG ⟨_, _, _, rfl, hx, .rat _ h, k⟩
  | int i h => exact od_oi (op := .Add) L.V.T.nu L.add L.radd r5 hG ⟨_, _, _, rfl, hx, .int i h.t h.b, k⟩ PySem.F.fills_int_add L.la
theorem od_subQ (L : Lv X.prog X.w X.K X.mg X.base C) (hr : Room 6 X.A) (hG : X.A.guards = some (gOf X)) (hx : Bq 3000 r) (hy : Nq C 3000 y s) (k : Q (Ra C (fr (r - s)))) : OD X (binaryOp .Sub) (Ra C (fr r)) y Q := by
  have r5 := hr.mono (j := 5) (by decide)
  rw [← subF_fr] at k
  cases hy with
  | rat s h => exact od_oo (op := .Sub) L.V.T.nu L.sub r5 hG ⟨_, _, _, rfl, hx, .rat _ h, k⟩
  | int i h => exact od_oi (op := .Sub) L.V.T.nu L.sub L.rsub r5 hG ⟨_, _, _, rfl, hx, .int i h.t h.b, k⟩ PySem.F.fills_int_sub L.ls
theorem od_eqQ (L : Lv X.prog X.w X.K X.mg X.base C) (hr : Room 1 X.A) (hG : X.A.guards = some (gOf X)) (k : Q (.bl (decide (r = s)))) : OD X (compareOp .Eq) (Ra C (fr r)) (Ra C (fr s)) Q :=
  od_eqO L.V.T.nu L.eq hr hG ⟨_, _, rfl, .inl ⟨_, rfl, by rw [fr_inj]; exact k⟩⟩
theorem od_neQ (L : Lv X.prog X.w X.K X.mg X.base C) (hr : Room 2 X.A) (hG : X.A.guards = some (gOf X)) (k : Q (.bl (!decide (r = s)))) : OD X (compareOp .NotEq) (Ra C (fr r)) (Ra C (fr s)) Q :=
  od_neO L.V.T.nu L.V.T.ne L.eq hr hG ⟨_, _, rfl, .inl ⟨_, rfl, _, rfl, by rw [fr_inj]; exact k⟩⟩
end
/-! is_list of any value -/
def isL : D → Bool
  | .lst _ => true
  | .tup _ => true
  | _ => false
theorem Kn.tl {T : Txt K mg C} {d : D} (h : Kn C d) : ∃ t, TyD K d t ∧ PySem.W.kitAny K t [.type "list", .type "tuple"] = some (isL d) := by
  cases h with
  | non => exact ⟨_, .non, T.l0 _ (.inl rfl)⟩
  | bl b => exact ⟨_, .bl b, T.l0 _ (.inr (.inl rfl))⟩
  | str s => exact ⟨_, .str s, T.l0 _ (.inr (.inr (.inl rfl)))⟩
  | int i => exact ⟨_, .int i, T.l0 _ (.inr (.inr (.inr (.inl rfl))))⟩
  | dct => exact ⟨_, .dct, T.l0 _ (.inr (.inr (.inr (.inr rfl))))⟩
  | tup l => exact ⟨_, .tup l, T.l2⟩
  | lst l => exact ⟨_, .lst l, T.l1⟩
  | rat p => exact ⟨_, .obj _ T.is, T.l3⟩
theorem ok_islist2 {f : Addr} {fd : FuncData} (F : FunS K "is_list" "is_list" sIsList f fd) (T : Txt K mg C) : GnOk P w K mg base 1 f fd ["value"] (lift K (spB C isL)) := by
  refine gn_dl F sc_islist (fun as Q h => by obtain ⟨d, rfl, _⟩ := h; rfl) (fun cdv A outer s H hr hG W as Q h => ?_)
  obtain ⟨d, rfl, kn, q⟩ := h
  obtain ⟨t, ty, ka⟩ := kn.tl (T := T)
  exact sds_cons (sd_ret (ed_callB T.isi (ad_cons (nm 0 (ad_cons (ed_tup (ad_cons (ed_ty T.list (ad_cons (ed_ty T.tuple (ad_nil ⟨[.ty "list", .ty "tuple"], rfl, by decide, ad_nil (cd_isi2 ty (.ty _) (.ty _) ka q)⟩)))))))))))
/-! totals -/
theorem sumQ_snoc (rs : List Rat) (r : Rat) : sumQ (rs ++ [r]) = sumQ rs + r := by unfold sumQ; rw [List.foldl_append]; rfl
theorem sumQ_bd {n : Nat} {rs : List Rat} (h : ∀ r ∈ rs, Bq n r) : ∀ i, i ≤ rs.length → Bq (1 + (n + 1) * i) (sumQ (rs.take i))
  | 0, _ => ⟨by show 0 < 2 ^ (1 + (n + 1) * 0); exact Nat.pow_pos (by decide), by show 1 < 2 ^ (1 + (n + 1) * 0); rw [Nat.mul_zero]; decide, by show (0 : Int) < 1; decide⟩
  | i + 1, hi => by
    have e : rs[i]? = some rs[i] := List.getElem?_eq_getElem (by omega)
    rw [List.take_add_one, e]
    show Bq _ (sumQ (rs.take i ++ [rs[i]]))
    rw [sumQ_snoc]
    exact ((sumQ_bd h i (by omega)).add (h _ (List.getElem_mem _))).le (by rw [Nat.mul_succ]; omega)
theorem Nqs.get {n : Nat} : ∀ {l : List D} {rs : List Rat} {i : Nat} {d : D}, Nqs C n l rs → l[i]? = some d → ∃ r, rs[i]? = some r ∧ Nq C n d r
  | _, _, _, _, .nil, e => by simp at e
  | _, _, 0, _, .cons h _, e => by cases e; exact ⟨_, rfl, h⟩
  | _, _, i + 1, _, .cons _ t, e => Nqs.get (i := i) t e
theorem Nqs.get' {n : Nat} : ∀ {l : List D} {rs : List Rat} {i : Nat} {r : Rat}, Nqs C n l rs → rs[i]? = some r → ∃ d, l[i]? = some d ∧ Nq C n d r
  | _, _, _, _, .nil, e => by simp at e
  | _, _, 0, _, .cons h _, e => by cases e; exact ⟨_, rfl, h⟩
  | _, _, i + 1, _, .cons _ t, e => Nqs.get' (i := i) t e
theorem Nqs.len {n : Nat} {l : List D} {rs : List Rat} (h : Nqs C n l rs) : l.length = rs.length := Paired.length h
theorem Nqs.bd {n : Nat} {l : List D} {rs : List Rat} (h : Nqs C n l rs) : ∀ r ∈ rs, Bq n r := fun r hr => by
  obtain ⟨i, hi, rfl⟩ := List.getElem_of_mem hr
  obtain ⟨d, _, q⟩ := h.get' (List.getElem?_eq_getElem hi)
  exact q.b
theorem Nqs.mono {n m : Nat} (k : n ≤ m) : ∀ {l : List D} {rs : List Rat}, Nqs C n l rs → Nqs C m l rs
  | _, _, .nil => .nil
  | _, _, .cons h t => .cons (h.mono k) (Nqs.mono k t)
theorem Nqs.rats {n : Nat} : ∀ {rs : List Rat}, (∀ r ∈ rs, Bq n r) → Nqs C n (rs.map fun r => Ra C (fr r)) rs
  | [], _ => .nil
  | r :: rs, h => .cons (.rat r (h r (by simp))) (Nqs.rats fun r hr => h r (by simp [hr]))
abbrev spTot (C : Addr) : SpD := fun as Q => ∃ x l rs n, as = [.val (.cls C), .val x] ∧ SeqD x l ∧ Nqs C n l rs ∧ 1 + (n + 1) * l.length ≤ 2900 ∧ Q (Ra C (fr (sumQ rs)))
theorem ok_total2 {f : Addr} {fd : FuncData} (F : FunS K "total" "Ratio.total" (rat 16) f fd) (L : Lv P w K mg base C) (G : Df P w K mg base "is_list" 1 1 (spB C isL)) : GnOk P w K mg base 7 f fd ["cls", "numbers"] (lift K (spTot C)) := by
  refine gn_dl F sc_total (fun as Q h => by obtain ⟨_, _, _, _, rfl, _⟩ := h; rfl) (fun cdv A outer s H hr hG W as Q h => ?_)
  obtain ⟨x, l, rs, n, rfl, hx, hn, hm, k⟩ := h
  have nd := sc_total.nd
  have bd := hn.bd
  have len := hn.len
  have V := L.V
  have kx : Kn C x ∧ isL x = true := by rcases hx with rfl | rfl <;> exact ⟨by constructor, rfl⟩
  have small : ∀ i, i < l.length → Bq 3000 (sumQ (rs.take i)) := fun i hi => (sumQ_bd bd i (by omega)).le (by
    have : (n + 1) * i ≤ (n + 1) * l.length := Nat.mul_le_mul_left _ (by omega)
    omega)
  have n1 : l.length = 0 ∨ n ≤ 2900 := by
    rcases Nat.eq_zero_or_pos l.length with z | z
    · exact .inl z
    · have : (n + 1) * 1 ≤ (n + 1) * l.length := Nat.mul_le_mul_left _ z
      exact .inr (by omega)
  refine sds_cons (sd_if (td_not (td_val (ed_call G (hr.mono (by decide)) hG (ad_cons (nm 1 (ad_nil ⟨x, rfl, kx.1, kB ?_⟩)))))))
  rw [kx.2]
  refine sds_nil (sds_cons (sd_set 2 nd rfl (ed_makeL 0 V.mk1 (hr.mono (by decide)) hG rfl rfl (ad_cons (ed_int (ad_nil (mk_ok (n := 1) (by decide) (by decide) (by decide) (by decide) ?_)))))))
  rw [low_one]
  have inv0 : ∃ v, (startE ["cls", "numbers", "result", "number"] [.val (.cls C), .val x]).set 2 (some (.val (.obj C (rf (0, 1))))) = [some (.val (.cls C)), some (.val x), some (.val (Ra C (fr (sumQ (rs.take 0))))), v] := ⟨none, rfl⟩
  rcases hx with rfl | rfl
  · refine sds_cons (sd_forL (l := l) PassesOwn.never rfl (fun i S' => ∃ v, S' = [some (.val (.cls C)), some (.val (.lst l)), some (.val (Ra C (fr (sumQ (rs.take i))))), v]) (nm 1 ⟨rfl, inv0⟩) ?_ ?_)
    · rintro i d S' hi ⟨v, rfl⟩
      obtain ⟨r, e, q⟩ := hn.get hi
      have hi2 : i < l.length := (List.getElem?_eq_some_iff.mp hi).1
      refine gd_name 3 nd rfl (sds_cons (sd_set 2 nd rfl (ed_bin (nm 2 (nm 3 (od_addQ L hr hG (small i hi2) (q.mono (by omega)) ?_))))))
      have es : sumQ (rs.take (i + 1)) = sumQ (rs.take i) + r := by rw [List.take_add_one, e]; exact sumQ_snoc _ _
      refine sds_nil ⟨some (.val d), ?_⟩
      rw [es]
      rfl
    · rintro S' ⟨v, rfl⟩
      rw [show rs.take l.length = rs by rw [len]; exact List.take_length]
      exact sds_cons (sd_ret (nm 2 k))
  · refine sds_cons (sd_forT (l := l) PassesOwn.never rfl (fun i S' => ∃ v, S' = [some (.val (.cls C)), some (.val (.tup l)), some (.val (Ra C (fr (sumQ (rs.take i))))), v]) (nm 1 ⟨rfl, inv0⟩) ?_ ?_)
    · rintro i d S' hi ⟨v, rfl⟩
      obtain ⟨r, e, q⟩ := hn.get hi
      have hi2 : i < l.length := (List.getElem?_eq_some_iff.mp hi).1
      refine gd_name 3 nd rfl (sds_cons (sd_set 2 nd rfl (ed_bin (nm 2 (nm 3 (od_addQ L hr hG (small i hi2) (q.mono (by omega)) ?_))))))
      have es : sumQ (rs.take (i + 1)) = sumQ (rs.take i) + r := by rw [List.take_add_one, e]; exact sumQ_snoc _ _
      refine sds_nil ⟨some (.val d), ?_⟩
      rw [es]
      rfl
    · rintro S' ⟨v, rfl⟩
      rw [show rs.take l.length = rs by rw [len]; exact List.take_length]
      exact sds_cons (sd_ret (nm 2 k))
end
end K85

set_option Elab.async false
set_option linter.all false
set_option maxRecDepth 100000
set_option maxHeartbeats 4000000
/-! k85: the program's own defs over tables -/
namespace K85
open PySem L2 DL
abbrev sIsNumbers : Stmt := top 15
abbrev sRatiosOf : Stmt := top 18
abbrev sRatioRows : Stmt := top 23
section
variable {P : Program} {w : World} {K : PySem.W.Frag} {mg : Str → Option Value} {base : Heap} {C : Addr}
theorem map_isN {l : List D} : (l.map fun d => D.bl (isN d)) = (l.map isN).map D.bl := by rw [List.map_map]; rfl
theorem all_id {l : List D} {f : D → Bool} : (l.map f).all id = l.all f := by rw [List.all_map]; rfl
theorem seq_kn {d : D} {l : List D} (h : SeqD d l) : Kn C d ∧ isL d = true := by rcases h with rfl | rfl <;> exact ⟨by constructor, rfl⟩
abbrev spNums (C : Addr) : SpD := fun as Q => ∃ d, ∃ m : Int, as = [.val d, .val (.int m)] ∧ ((isL d = false ∧ Kn C d ∧ Q (.bl false)) ∨ ∃ l, SeqD d l ∧ (∀ e ∈ l, Kn C e) ∧ l.length ≤ 50000 ∧ Q (.bl (decide ((l.length : Int) = m) && l.all isN)))
theorem sc_nums : FnScope ["value", "many", "number"] ["value", "many"] (defScope sIsNumbers) := ⟨rfl, rfl, rfl, by decide +kernel, rfl, by decide +kernel, by decide +kernel⟩
theorem ok_nums {f : Addr} {fd : FuncData} (F : FunS K "is_numbers" "is_numbers" sIsNumbers f fd) (L : Lv P w K mg base C) (G : Df P w K mg base "is_list" 1 1 (spB C isL)) : GnOk P w K mg base 3 f fd ["value", "many"] (lift K (spNums C)) := by
  refine gn_dl F sc_nums (fun as Q h => by obtain ⟨_, _, rfl, _⟩ := h; rfl) (fun cdv A outer s H hr hG W as Q h => ?_)
  obtain ⟨d, m, rfl, h⟩ := h
  have nd := sc_nums.nd
  have T := L.V.T
  have r1 := hr.mono (j := 1) (by decide)
  rcases h with ⟨nl, kn, q⟩ | ⟨l, sd, kl, hl, q⟩
  · refine sds_cons (sd_ret (ed_and (ed_call G r1 hG (ad_cons (nm 0 (ad_nil ⟨d, rfl, kn, kB ?_⟩))))))
    rw [nl]
    exact q
  · obtain ⟨kn, il⟩ := seq_kn (C := C) sd
    refine sds_cons (sd_ret (ed_and (ed_call G r1 hG (ad_cons (nm 0 (ad_nil ⟨d, rfl, kn, kB ?_⟩))))))
    rw [il]
    refine ed_and (ed_cmp (ed_callB T.len (ad_cons (nm 0 (ad_nil (cd_len sd (nm 1 (od_eqi (kB ?_)))))))))
    by_cases c : (l.length : Int) = m
    · rw [decide_eq_true c] at q ⊢
      rw [Bool.true_and] at q
      refine ed_one (ed_callB T.all (ad_cons (ed_fd (fd_relS (fun d y => y = .bl (isN d)) 2 (own := [("number", 2)]) rfl nd (blkOk_by (by show blkC ["value", "many", "number"] (defScope sIsNumbers) _ _ = true; decide +kernel)) (fun _ _ _ _ _ => pg_name (i := 2) nd rfl (Or.inl rfl)) sd hl (nm 0 rfl) (by simp) ?_ ?_))))
      · intro d hd s2 H0 C2 cl fp
        exact ed_call L.isnum (hr.mono (by decide)) hG (ad_cons (nm 2 (ad_nil ⟨d, rfl, kl d hd, rfl⟩)))
      · intro out ho
        rw [paired_map ho, map_isN]
        refine ad_nil (cd_all rfl ?_)
        rw [all_id]
        exact q
    · rw [decide_eq_false c] at q ⊢
      exact q
abbrev spRatios (C : Addr) : SpD := fun as Q => ∃ d l rs, as = [.val d] ∧ SeqD d l ∧ Nqs C 3000 l rs ∧ l.length ≤ 1000 ∧ Q (.lst (rs.map fun r => Ra C (fr r)))
theorem sc_ratios : FnScope ["numbers", "number"] ["numbers"] (defScope sRatiosOf) := ⟨rfl, rfl, rfl, by decide +kernel, rfl, by decide +kernel, by decide +kernel⟩
theorem paired_nqs {n : Nat} : ∀ {l : List D} {rs : List Rat} {out : List D}, Nqs C n l rs → Paired (fun d y => ∀ r, Nq C n d r → y = Ra C (fr r)) l out → out = rs.map fun r => Ra C (fr r)
  | _, _, _, .nil, .nil => rfl
  | _, _, _, .cons h t, .cons g s => by rw [List.map_cons, g _ h, paired_nqs t s]
theorem Nq.uniq {n m : Nat} {d : D} {r s : Rat} (h : Nq C n d r) (k : Nq C m d s) : fr r = fr s := by
  cases h with
  | rat r h =>
    generalize e : Ra C (fr r) = x at k
    cases k with
    | rat s h' =>
      have e1 : (fr r).1 = (fr s).1 := by injection e with _ e; injection e with e _; injection e with _ e; injection e
      have e2 : (fr r).2 = (fr s).2 := by injection e with _ e; injection e with _ e; injection e with e _; injection e with _ e; injection e
      exact Prod.ext e1 e2
    | int i h' => cases e
  | int i h =>
    cases k with
    | int j h' => rfl
theorem ok_ratios {f : Addr} {fd : FuncData} (F : FunS K "ratios_of" "ratios_of" sRatiosOf f fd) (L : Lv P w K mg base C) : GnOk P w K mg base 5 f fd ["numbers"] (lift K (spRatios C)) := by
  refine gn_dl F sc_ratios (fun as Q h => by obtain ⟨_, _, _, rfl, _⟩ := h; rfl) (fun cdv A outer s H hr hG W as Q h => ?_)
  obtain ⟨d, l, rs, rfl, sd, hn, hl, q⟩ := h
  have nd := sc_ratios.nd
  refine sds_cons (sd_ret (ed_fd (fd_relS (fun d y => ∀ r, Nq C 3000 d r → y = Ra C (fr r)) 1 (own := [("number", 1)]) rfl nd (blkOk_by (by show blkC ["numbers", "number"] (defScope sRatiosOf) _ _ = true; decide +kernel)) (fun _ _ _ _ _ => pg_name (i := 1) nd rfl (Or.inl rfl)) sd (by omega) (nm 0 rfl) (by simp) ?_ ?_)))
  · intro d hd s2 H0 C2 cl fp
    obtain ⟨i, hi, e⟩ := List.getElem_of_mem hd
    obtain ⟨r, _, nq⟩ := hn.get (List.getElem?_eq_getElem hi)
    rw [e] at nq
    exact ed_call L.ratof hr hG (ad_cons (nm 1 (ad_nil ⟨d, fr r, rfl, nq.nr, fun s hs => by rw [nq.uniq hs]⟩)))
  · intro out ho
    rw [paired_nqs hn ho]
    exact q
theorem Nqs.kn {n : Nat} {l : List D} {rs : List Rat} (h : Nqs C n l rs) : (∀ e ∈ l, Kn C e) ∧ l.all isN = true := by
  have key : ∀ e ∈ l, ∃ r, Nq C n e r := fun e he => by
    obtain ⟨i, hi, rfl⟩ := List.getElem_of_mem he
    obtain ⟨r, _, q⟩ := h.get (List.getElem?_eq_getElem hi)
    exact ⟨r, q⟩
  exact ⟨fun e he => let ⟨r, q⟩ := key e he; q.kn, List.all_eq_true.mpr fun e he => let ⟨r, q⟩ := key e he; q.num⟩
end
end K85

set_option Elab.async false
set_option linter.all false
set_option maxRecDepth 100000
set_option maxHeartbeats 8000000
/-! k85: is_table, value_at -/
namespace K85
open PySem L2 DL
def rowD (C : Addr) (rs : List Rat) : D := .lst (rs.map fun r => Ra C (fr r))
def matD (C : Addr) (M : List (List Rat)) : D := .lst (M.map (rowD C))
/-- the rows that are handed are these -/
def RowsAre (C : Addr) (n : Nat) (l : List D) (M : List (List Rat)) : Prop := Paired (fun e rs => ∃ le, SeqD e le ∧ Nqs C n le rs ∧ le.length ≤ 1000) l M
theorem RowsAre.mono {C : Addr} {n m : Nat} (k : n ≤ m) : ∀ {l : List D} {M : List (List Rat)}, RowsAre C n l M → RowsAre C m l M
  | _, _, .nil => .nil
  | _, _, .cons ⟨le, a, b, c⟩ t => .cons ⟨le, a, Nqs.mono k b, c⟩ (RowsAre.mono k t)
theorem RowsAre.get {C : Addr} {n : Nat} : ∀ {l : List D} {M : List (List Rat)} {i : Nat} {e : D}, RowsAre C n l M → l[i]? = some e → ∃ rs le, M[i]? = some rs ∧ SeqD e le ∧ Nqs C n le rs ∧ le.length ≤ 1000
  | _, _, _, _, .nil, e => by simp at e
  | _, _, 0, _, .cons ⟨le, a, b, c⟩ _, e => by cases e; exact ⟨_, le, rfl, a, b, c⟩
  | _, _, i + 1, _, .cons _ t, e => RowsAre.get (i := i) t e
/-- the number at a place -/
def at2 (M : List (List Rat)) (i j : Nat) : Rat := ((M[i]?.getD [])[j]?).getD 0
def Sym (M : List (List Rat)) : Prop := ∀ i j, i < M.length → j < i → at2 M i j = at2 M j i
def Square (M : List (List Rat)) : Prop := ∀ rs ∈ M, rs.length = M.length
section
variable {P : Program} {w : World} {K : PySem.W.Frag} {mg : Str → Option Value} {base : Heap} {C : Addr}
abbrev spRows (C : Addr) : SpD := fun as Q => ∃ d l M, as = [.val d] ∧ SeqD d l ∧ RowsAre C 3000 l M ∧ l.length ≤ 1000 ∧ Q (matD C M)
theorem sc_rows : FnScope ["rows", "row"] ["rows"] (defScope sRatioRows) := ⟨rfl, rfl, rfl, by decide +kernel, rfl, by decide +kernel, by decide +kernel⟩
theorem fr_inj' {r s : Rat} (h : fr r = fr s) : r = s := Rat.ext (congrArg Prod.fst h) (Int.ofNat_inj.mp (congrArg Prod.snd h))
theorem nqs_uniq {m n : Nat} : ∀ {l : List D} {rs ss : List Rat}, Nqs C m l rs → Nqs C n l ss → rs = ss
  | _, _, _, .nil, .nil => rfl
  | _, _, _, .cons h t, .cons h' t' => by rw [fr_inj' (h.uniq h'), nqs_uniq t t']
theorem paired_rows {n : Nat} : ∀ {l : List D} {M : List (List Rat)} {out : List D}, RowsAre C n l M → Paired (fun d y => ∀ le rs, SeqD d le → Nqs C n le rs → y = rowD C rs) l out → out = M.map (rowD C)
  | _, _, _, .nil, .nil => rfl
  | _, _, _, .cons ⟨le, a, b, c⟩ t, .cons g s => by rw [List.map_cons, g le _ a b, paired_rows t s]
theorem seq_uniq {d : D} {l m : List D} (h : SeqD d l) (k : SeqD d m) : l = m := by
  rcases h with rfl | rfl <;> rcases k with e | e <;> cases e <;> rfl
theorem ok_rows {f : Addr} {fd : FuncData} (F : FunS K "ratio_rows" "ratio_rows" sRatioRows f fd) (G : Df P w K mg base "ratios_of" 5 1 (spRatios C)) : GnOk P w K mg base 6 f fd ["rows"] (lift K (spRows C)) := by
  refine gn_dl F sc_rows (fun as Q h => by obtain ⟨_, _, _, rfl, _⟩ := h; rfl) (fun cdv A outer s H hr hG W as Q h => ?_)
  obtain ⟨d, l, M, rfl, sd, hn, hl, q⟩ := h
  have nd := sc_rows.nd
  refine sds_cons (sd_ret (ed_fd (fd_relS (fun d y => ∀ le rs, SeqD d le → Nqs C 3000 le rs → y = rowD C rs) 1 (own := [("row", 1)]) rfl nd (blkOk_by (by show blkC ["rows", "row"] (defScope sRatioRows) _ _ = true; decide +kernel)) (fun _ _ _ _ _ => pg_name (i := 1) nd rfl (Or.inl rfl)) sd (by omega) (nm 0 rfl) (by simp) ?_ ?_)))
  · intro e he s2 H0 C2 cl fp
    obtain ⟨i, hi, ee⟩ := List.getElem_of_mem he
    obtain ⟨rs, le, _, se, nq, lle⟩ := hn.get (List.getElem?_eq_getElem hi)
    rw [ee] at se
    exact ed_call G hr hG (ad_cons (nm 1 (ad_nil ⟨e, le, rs, rfl, se, nq, lle, fun le' rs' s' n' => by
      have := seq_uniq se s'
      subst this
      rw [nqs_uniq n' nq]
      rfl⟩)))
  · intro out ho
    rw [paired_rows hn ho]
    exact q
end
end K85

set_option Elab.async false
set_option linter.all false
set_option maxRecDepth 100000
set_option maxHeartbeats 2000000
/-! slices of tuples and texts; methods of texts; x[i] += j; tuple(tuple) -/
namespace DL
open PySem L2 PyProof.Rows
section
variable {X : Cx} {B : Hp} {W0 : Wd} {S : En} {pos p2 px p1 p apos cpos tpos : Pos} {Q : D → Prop} {a b c e e2 o : Expr} {es : List Expr} {E : Ends'} {x : Str}
/-! methods of texts -/
section
variable {k0 : Nat}
end
/-! x[i] += j, x the owner of its list -/
def rGetL (K : PySem.W.Frag) : V → V → Hp → VK → Prop := fun x y H Q => ∃ p xs, ∃ j : Nat, ∃ v, x = .ref p ∧ y = .int (j : Int) ∧ H p = some (.lst xs) ∧ j < 100000 ∧ xs[j]? = some v ∧ Q v H
end
end DL

set_option Elab.async false
set_option linter.all false
set_option maxRecDepth 100000
set_option maxHeartbeats 2000000
/-! for x, y in zip(a, b) -/
namespace DL
open PySem L2 PyProof.Rows
section
variable {X : Cx} {B : Hp} {W0 : Wd} {S : En} {pos p p1 : Pos} {e e2 : Expr} {E : Ends'}
end
end DL

set_option Elab.async false
set_option linter.all false
set_option maxRecDepth 100000
set_option maxHeartbeats 2000000
/-! the empty tuple that a def has as a default: known by its address -/
namespace DL
open PySem L2 PyProof.Rows
def EmpT (K : PySem.W.Frag) (a : Addr) : Prop := ∃ (o : Obj) (n : Nat), K.lookup a = some o ∧ o.cls = .type "tuple" ∧ o.data = .seq #[] n
section
variable {X : Cx} {B : Hp} {W0 : Wd} {S : En} {pos p p1 : Pos} {Q : D → Prop} {e : Expr} {E : Ends'}
end
end DL

set_option Elab.async false
set_option linter.all false
set_option maxRecDepth 100000
set_option maxHeartbeats 2000000
/-! name = [elt for x in a text]; texts that are the same -/
namespace DL
open PySem L2 PyProof.Rows
section
variable {X : Cx} {B : Hp} {S : En} {elt iter : Expr}
end
end DL

set_option Elab.async false
set_option linter.all false
set_option maxRecDepth 100000
set_option maxHeartbeats 2000000
/-! [..] * n of one's own; a loop over a range that is not empty -/
namespace DL
open PySem L2 PyProof.Rows
section
variable {X : Cx} {B : Hp} {W0 : Wd} {S : En} {pos : Pos} {a b : Expr}
end
section
variable {X : Cx} {B : Hp} {W0 : Wd} {S : En} {pos : Pos}
end
end DL

set_option Elab.async false
set_option linter.all false
set_option maxRecDepth 100000
set_option maxHeartbeats 2000000
/-! d.get(k, x) of a dict that is data -/
namespace DL
open PySem L2 PyProof.Rows
section
variable {X : Cx} {B : Hp} {S : En} {Q : D → Prop} {o e f : Expr} {apos cpos : Pos}
end
end DL

set_option Elab.async false
set_option linter.all false
set_option maxRecDepth 100000
set_option maxHeartbeats 2000000
/-! sorted of a list or a tuple of data, by itself -/
namespace SRT
open PySem PySem.W PySem.Calls PyProof.Rows
section
variable {prog : Program} {w : World} {A : Around} {E : Value → Shared → Prop} {s : Shared}
end
end SRT
namespace DL
open PySem PySem.Spec PySem.W PyProof.Rows L2
section
variable {X : Cx} {α : Type} {f : α → D} {enc : α → PyData} {bs : List α} {Q : D → Prop}
end
end DL

set_option Elab.async false
set_option linter.all false
set_option maxRecDepth 100000
set_option maxHeartbeats 2000000
/-! sorted(.., key=f), f a def of the text -/
namespace SRT
open PySem PySem.W PySem.Calls PyProof.Rows
section
variable {prog : Program} {w : World} {A : Around} {E : Value → Shared → Prop} {s : Shared} {a kS : Addr} {vs : List Value} {keys : Array Value} {e e1 : Nat} {P : PySem.Fin → Shared → Prop}
/-- the heap behind the sort: the keys' list emptied, the items put back -/
def endHeap (h : Heap) (kS a : Addr) (out : List Value) : Heap := (h.update kS (Obj.mapSeq fun _ => (#[] : Array Value))).update a (Obj.mapSeq fun _ => out.toArray)
end
end SRT
namespace DL
open PySem PySem.Spec PySem.W PyProof.Rows L2
section
variable {X : Cx} {α : Type} {f kD : α → D} {enc : α → PyData} {bs : List α} {Q : D → Prop} {B : Hp} {S : En}
theorem ed_imp {Q Q' : D → Prop} {e : Expr} (h : ED X B S e Q) (k : ∀ d, Q d → Q' d) : ED X B S e Q' := fun σ W H r R c => h σ W H r R fun d v W' H' st ok n q => c d v W' H' st ok n (k d q)
end
end DL

set_option Elab.async false
set_option linter.all false
set_option maxRecDepth 100000
set_option maxHeartbeats 2000000
/-! tuples and lists of ints: added, cut, looked into; comprehensions with a test, of two fors; enumerate of a tuple -/
namespace DL
open PySem PySem.Spec PyProof.Rows L2
section
variable {X : Cx} {B : Hp} {W0 : Wd} {S : En} {pos px p1 p p2 : Pos} {Q : D → Prop} {a b c e : Expr} {E : Ends'} {x : Str}
/-! ### + of tuples -/
/-! ### slices of lists -/
theorem ed_slLF (h : ED X B S e fun d => ED X B S b fun y => ∃ l, ∃ j : Nat, d = .lst l ∧ y = .int (j : Int) ∧ l.length ≤ 100000 ∧ Q (.lst (l.drop j))) : ED X B S (.Subscript e (.Slice (some b) none none p2) pos) Q := fun σ W H r R k => by
  refine PE.w (pe_slice L2.sl_list we_pe (po_some we_pe) po_none) ?_
  refine h σ W H r _ fun d v W1 H1 s1 ok1 n1 q1 => ?_
  show WE X b σ H1 _
  refine q1 σ W1 H1 (r.step s1 ok1) _ fun d2 u W2 H2 s2 ok2 n2 q2 => ?_
  obtain ⟨l, j, rfl, rfl, hj, q2⟩ := q2
  cases n2
  have k2 := (k.step s1 ok1).step s2 ok2
  cases n1.mono s2.I with
  | @lst _ a xs ha m =>
    refine ⟨_, rfl, a, xs, rfl, SqL.of (ok2.ex _ _ ha), fun p hp => ?_⟩
    have e : cutV xs (some (j : Int)) none = xs.drop j := by
      unfold cutV
      rw [HT.sIx_nat, HT.sIx_none]
      rcases Nat.le_total j xs.length with z | z
      · rw [Nat.min_eq_left z]
        exact List.take_of_length_le (by rw [List.length_drop]; omega)
      · rw [Nat.min_eq_right z, List.drop_eq_nil_of_le (Nat.le_refl _), List.drop_eq_nil_of_le z, List.take_nil]
    rw [e]
    have st := Stp.new (o := .lst (xs.drop j)) ok2 hp
    exact k2 (.lst (l.drop j)) (.ref p) _ _ st (ok2.new hp) (.lst (show upd W2.I p _ p = _ from upd_same) ((dns_drop j m).mono st.I)) q2
theorem ed_slLT (h : ED X B S e fun d => ED X B S b fun y => ∃ l, ∃ j : Int, d = .lst l ∧ y = .int j ∧ ((∃ k : Nat, j = (k : Int) ∧ Q (.lst (l.take k))) ∨ (j = -1 ∧ Q (.lst l.dropLast)))) : ED X B S (.Subscript e (.Slice none (some b) none p2) pos) Q := fun σ W H r R k => by
  refine PE.w (pe_slice L2.sl_list we_pe po_none (po_some we_pe)) ?_
  refine h σ W H r _ fun d v W1 H1 s1 ok1 n1 q1 => ?_
  show WE X b σ H1 _
  refine q1 σ W1 H1 (r.step s1 ok1) _ fun d2 u W2 H2 s2 ok2 n2 q2 => ?_
  obtain ⟨l, j, rfl, rfl, q2⟩ := q2
  cases n2
  have k2 := (k.step s1 ok1).step s2 ok2
  cases n1.mono s2.I with
  | @lst _ a xs ha m =>
    refine ⟨_, rfl, a, xs, rfl, SqL.of (ok2.ex _ _ ha), fun p hp => ?_⟩
    rcases q2 with ⟨i, rfl, q2⟩ | ⟨rfl, q2⟩
    · have e : cutV xs none (some (i : Int)) = xs.take i := by
        unfold cutV
        rw [HT.sIx_nat, HT.sIx_none, List.drop_zero, Nat.sub_zero]
        rcases Nat.le_total i xs.length with z | z
        · rw [Nat.min_eq_left z]
        · rw [Nat.min_eq_right z, List.take_of_length_le (Nat.le_refl _), List.take_of_length_le z]
      rw [e]
      have st := Stp.new (o := .lst (xs.take i)) ok2 hp
      exact k2 (.lst (l.take i)) (.ref p) _ _ st (ok2.new hp) (.lst (show upd W2.I p _ p = _ from upd_same) ((dns_take i m).mono st.I)) q2
    · have e : cutV xs none (some (-1)) = xs.take (xs.length - 1) := by
        unfold cutV
        rw [HT.sIx_none, List.drop_zero, Nat.sub_zero]
        have : HT.sIx xs.length xs.length (some (-1)) = xs.length - 1 := by
          show (if (-1 : Int) < 0 then ((-1 : Int) + (xs.length : Int)).toNat else min (-1 : Int).toNat xs.length) = _
          rw [if_pos (by decide)]
          omega
        rw [this]
      rw [e]
      have st := Stp.new (o := .lst (xs.take (xs.length - 1))) ok2 hp
      have ml : l.dropLast = l.take (xs.length - 1) := by rw [List.dropLast_eq_take, m.length]
      rw [ml] at q2
      exact k2 (.lst (l.take (xs.length - 1))) (.ref p) _ _ st (ok2.new hp) (.lst (show upd W2.I p _ p = _ from upd_same) ((dns_take (xs.length - 1) m).mono st.I)) q2
/-! ### in -/
abbrev pI (l : List Int) : PyData := .tuple (l.map .int)
theorem pyd_ints : ∀ l : List Int, PyDs (l.map D.int) (l.map .int)
  | [] => .nil
  | i :: l => .cons (.int i) (pyd_ints l)
theorem pyd_tI (l : List Int) : PyD (tI l) (pI l) := .tup (pyd_ints l)
theorem pyd_tIs : ∀ ls : List (List Int), PyDs (ls.map tI) (ls.map pI)
  | [] => .nil
  | l :: ls => .cons (pyd_tI l) (pyd_tIs ls)
theorem can_ints : ∀ l : List Int, PyData.canLayAll0 (l.map .int) = true
  | [] => rfl
  | i :: l => by
    rw [List.map_cons, PyData.canLayAll0, can_ints l]
    rfl
theorem can_pIs : ∀ ls : List (List Int), PyData.canLayAll0 (ls.map pI) = true
  | [] => rfl
  | l :: ls => by
    rw [List.map_cons, PyData.canLayAll0, can_pIs ls, Bool.and_true]
    exact can_ints l
theorem dep_pIs : ∀ ls : List (List Int), PyData.depthAll (ls.map pI) ≤ 1
  | [] => Nat.zero_le _
  | l :: ls => by
    rw [List.map_cons, PyData.depthAll]
    have := dep_pIs ls
    have h : (pI l).depth = 1 := by
      show PyData.depthAll _ + 1 = 1
      rw [PySem.W.depth_ints]
    omega
end
end DL

set_option Elab.async false
set_option linter.all false
set_option maxRecDepth 100000
set_option maxHeartbeats 2000000
/-! comprehensions told by functions: what each item becomes, which are kept -/
namespace DL
open PySem PySem.Spec PyProof.Rows L2
theorem take1 {α β : Type} (u : α → β) {l : List α} {i : Nat} {a : α} (h : l[i]? = some a) : (l.take (i + 1)).map u = (l.take i).map u ++ [u a] := by
  rw [List.take_add_one, h]
  simp
section
variable {X : Cx} {B : Hp} {W0 : Wd} {S : En} {pos : Pos} {e elt iter c : Expr} {x : Str} {px : Pos} {scope : Scope} {own : List (Str × Nat)} {d0 : D} {Q : List D → Prop} {E : Ends'} {α : Type} {f u : α → D} {t : α → Bool} {l : List α}
/-- [elt for x in a list or a tuple] -/
theorem fd_mp (j : Nat) (hc : X.calm = true) (hN : X.N.Nodup) (ok : BlkOk X.N X.env.scope scope own) (hg : AllBlk X scope fun Y => PG Y (.Name x px) (gName j)) (hj : j ∈ own.map (·.2)) (hl : l.length ≤ 50000) (sd : SeqD d0 (l.map f)) (hit : ED X B S iter fun d => d = d0)
    (he : ∀ a ∈ l, AllBlk X scope fun Y => ED Y B (itE S own j (f a)) elt fun y => y = u a) (q : Q (l.map u)) (hs : ∀ x, foldedSetIterable iter X.env x = pure x := by intro _; rfl) : FD X B S (.ListComp elt [⟨.Name x px, iter, [], 0⟩] scope pos) Q := by
  have step : ∀ (i : Nat) d acc, (l.map f)[i]? = some d → acc.length = i → acc = (l.take i).map u → AllBlk X scope fun Y => ED Y B (itE S own j d) elt fun y => acc ++ [y] = (l.take (i + 1)).map u := by
    intro i d acc hi _ ha s H0 C cl fp
    rw [List.getElem?_map] at hi
    obtain ⟨a, h1, rfl⟩ := Option.map_eq_some_iff.mp hi
    refine ed_imp (he a (List.mem_of_getElem? h1) s H0 C cl fp) fun y ey => ?_
    rw [take1 u h1, ha, ey]
  have fin : ∀ acc : List D, acc.length = (l.map f).length → acc = (l.take (l.map f).length).map u → Q acc := by
    intro acc _ e
    rw [List.length_map, List.take_length] at e
    rw [e]
    exact q
  have hl' : (l.map f).length ≤ 50000 := by rw [List.length_map]; exact hl
  rcases sd with rfl | rfl
  · exact fd_lcL (fun i acc => acc = (l.take i).map u) (fun d => itE S own j d) hc hN ok hg (ed_imp hit fun d e => ⟨e, hl', rfl⟩) (fun d _ => pat_name j hj) step fin hs
  · exact fd_lcT (fun i acc => acc = (l.take i).map u) (fun d => itE S own j d) hc hN ok hg (ed_imp hit fun d e => ⟨e, hl', rfl⟩) (fun d _ => pat_name j hj) step fin hs
end
end DL

set_option Elab.async false
set_option linter.all false
set_option maxRecDepth 100000
set_option maxHeartbeats 2000000
/-! a new dict that a name owns -/
namespace DL
open PySem PySem.Spec PyProof.Rows L2
section
variable {X : Cx} {B : Hp} {W0 : Wd} {S : En} {pos px : Pos} {e : Expr} {E : Ends'} {x : Str}
end
end DL

set_option Elab.async false
set_option linter.all false
set_option maxRecDepth 100000
set_option maxHeartbeats 2000000
/-! dicts of unlike lengths; {} as data -/
namespace DL
open PySem PySem.Spec PyProof.Rows L2 PySem.W
section
variable {X : Cx} {B : Hp} {S : En} {Q : D → Prop} {kvs kvs' : List (List Key × D)}
end
end DL

set_option Elab.async false
set_option linter.all false
set_option maxRecDepth 100000
set_option maxHeartbeats 2000000
/-! a dict != {} -/
namespace DL
open PySem PySem.Spec PyProof.Rows L2 PySem.W
section
variable {X : Cx} {Q : D → Prop} {kvs kvs' : List (List Key × D)}
end
end DL

set_option Elab.async false
set_option linter.all false
set_option maxRecDepth 100000
set_option maxHeartbeats 4000000
/-! dicts that a def hands back new; a dict of one entry; what a name owns, compared, asked, sorted; x, y = e, {} -/
namespace DL
open PySem PySem.Spec PyProof.Rows L2 PySem.W
/-- {k: v}, k a tuple -/
def tOneT (trs : List (TE × TE)) : TE := fun σ H Q => ∀ p, H p = none → tPairs trs σ (upd H p (.dT [])) fun ps H2 => H2 p = some (.dT []) ∧ ∃ ks b y, ps = [(.ref b, y)] ∧ H2 b = some (.tup (ks.map kV)) ∧ Q (.ref p) (upd H2 p (.dT [(ks, y)]))
/-! a new dict handed back -/
abbrev SpT := List Sl → (List (List Key × D) → Prop) → Prop
def liftT (K : PySem.W.Frag) (sp : SpT) : SpG := fun g vs H R => ∃ as W Q, Ok g W H ∧ Args K W as vs ∧ sp as Q ∧ ContT K g W H Q R
structure NfT (P : Program) (w : World) (K : PySem.W.Frag) (mg : Str → Option Value) (base : Heap) (x : Str) (k : Nat) (sp : SpT) : Prop where
  ex : ∃ f fd ps, GnOk P w K mg base k f fd ps (liftT K sp) ∧ mg x = some (.ref f) ∧ PySem.W.keepIn K (.ref f) = true ∧ Binds K fd ps []
section
variable {X : Cx} {B : Hp} {W0 : Wd} {S : En} {pos p apos : Pos} {e o : Expr} {es : List Expr} {x : Str} {k : Nat}
end
/-- a block that ends by handing a new dict back -/
def ST (X : Cx) (B : Hp) (W0 : Wd) (S : En) (sts : List Stmt) (Q : List (List Key × D) → Prop) : Prop := ∀ σ W H, Rep X.K (gOf X) B S σ W H → Stp W0 B W H → ∀ R, ContT X.K (gOf X) W0 B Q R → WSs X sts { nx := fun _ H' => R .non H', rt := R } σ H
section
variable {X : Cx} {B : Hp} {W0 : Wd} {S : En} {pos px : Pos} {x : Str} {st : Stmt} {sts : List Stmt} {Q : List (List Key × D) → Prop}
end
section
variable {P : Program} {w : World} {K : PySem.W.Frag} {mg : Str → Option Value} {base : Heap}
end
section
variable {X : Cx} {B : Hp} {W0 : Wd} {S : En} {pos px py p p1 : Pos} {Q : D → Prop} {QB : Bool → Prop} {a b e f key value : Expr} {x y : Str} {E : Ends'}
abbrev RSortK (X : Cx) (dd : Nat) (Bb : Int) : List V → Hp → VK → Prop := fun xs H Q => ∃ d kvs, xs = [V.ref d] ∧ Rd H d (.dT kvs) ∧ kvs.length < 64 ∧ (∀ p ∈ kvs, ∃ l : List Int, p.1 = ik l ∧ l.length = dd ∧ TS.Bd Bb l) ∧
    ∀ bs ys p, IsKeys H kvs bs → ys.Perm (bs.map V.ref) → ys.Pairwise (fun x y => ∀ n m, TupI X.K H x n → TupI X.K H y m → TS.code Bb n ≤ TS.code Bb m) → H p = none → Q (.ref p) (upd H p (.lst ys))
end
end DL

set_option Elab.async false
set_option linter.all false
set_option maxRecDepth 100000
set_option maxHeartbeats 4000000
/-! sorted(d), keys tuples of ints, of any number -/
namespace TSB
open PySem PySem.W PySem.Calls PyProof.Rows DL
section
variable {prog : Program} {w : World} {A : Around} {E : Value → Shared → Prop} {s : Shared}
end
end TSB
namespace DL
open PySem PySem.Spec PyProof.Rows L2
end DL
namespace DL
open PySem L2 PyProof.Rows
end DL

set_option Elab.async false
set_option linter.all false
set_option maxRecDepth 100000
set_option maxHeartbeats 4000000
/-! enumerate of a tuple; dict comprehensions told by functions; list(range(n)) -/
namespace DL
open PySem PySem.Spec PyProof.Rows L2
def Ite2 (K : PySem.W.Frag) (a : Addr) : It :=
  ⟨fun i H => ∃ (xs : List V) (x : V), SqT K H a xs ∧ xs[i]? = some x, fun i H v H' => ∃ T x, v = .ref T ∧ H T = none ∧ H' = upd H T (.tup [.int (i : Nat), x]) ∧ ∀ xs, SqT K H a xs → xs[i]? = some x, fun i H => ∃ xs : List V, SqT K H a xs ∧ xs.length ≤ i⟩
def iEnumT (K : PySem.W.Frag) (ta : TA) : TI := fun σ H R => ta σ H fun vs H1 => ∃ a xs, vs = [.ref a] ∧ SqT K H1 a xs ∧ R (Ite2 K a) H1
section
variable {X : Cx} {B : Hp} {W0 : Wd} {S : En} {pos px p1 p apos cpos : Pos} {Q : D → Prop} {a b c e e2 o elt iter value : Expr} {es : List Expr} {E : Ends'} {x : Str}
end
end DL

set_option Elab.async false
set_option linter.all false
set_option maxRecDepth 100000
set_option maxHeartbeats 4000000
/-! small rules: x[e] of an owned list; s[:i]; min of two; an if whose branches want little; dict != dict, both the same -/
namespace DL
open PySem PySem.Spec PyProof.Rows L2
section
variable {X : Cx} {B : Hp} {W0 : Wd} {S : En} {pos px p2 : Pos} {Q : D → Prop} {e b : Expr} {x : Str}
/-- x[e], x the owner of its list -/
theorem ed_ixOwn (i : Nat) (l : List D) (hN : X.N[i]? = some x) (h : S[i]? = some (some (.own l))) (he : ED X B S b fun y => ∃ (j : Nat) (d : D), y = .int (j : Int) ∧ l[j]? = some d ∧ Q d) (hs : PlainIx b := by exact fun _ _ => rfl)
    (hv : Vis X.env.scope x := by first | exact Or.inl rfl | exact Or.inr (Or.inl rfl) | exact Or.inr (Or.inr rfl)) (hd : (x == ("__debug__" : Str)) = false := by decide) (hcd : (x == ("__classdict__" : Str)) = false := by decide) : ED X B S (.Subscript (.Name x px) b pos) Q := fun σ W H r R k => by
  refine PE.w (pe_ix ix_list (pe_var hN hv hd hcd) we_pe hs) ?_
  obtain ⟨v, e1, p, xs, rfl, hB, n, hI, hH, d0⟩ := r.sl i _ h
  refine ⟨_, e1, he σ W H r _ fun y u W2 H2 s2 ok2 n2 q2 => ?_⟩
  obtain ⟨j, d, rfl, e, q⟩ := q2
  cases n2
  obtain ⟨z, ez, nz⟩ := (d0.mono s2.I).get' e
  exact ⟨p, xs, (j : Int), z, rfl, rfl, SqL.of (s2.keep _ _ hH n), atI_nat ez, (k.step s2 ok2).now ok2 nz q⟩
end
end DL

namespace DL
open PySem PySem.Spec PyProof.Rows L2
section
variable {X : Cx} {Q : D → Prop} {C : Addr} {k : Nat} {sp : SpD} {fs : List (Str × D)}
end
section
variable {X : Cx} {B : Hp} {W0 : Wd} {S : En} {pos : Pos}
end
end DL

set_option Elab.async false
set_option linter.all false
set_option maxRecDepth 100000
set_option maxHeartbeats 4000000
/-! name = [comprehension], told by functions; dict comprehensions told by functions -/
namespace DL
open PySem PySem.Spec PyProof.Rows L2
section
variable {X : Cx} {B : Hp} {W0 : Wd} {S : En} {pos : Pos} {E : Ends'}
end
section
variable {X : Cx} {B : Hp} {W0 : Wd} {S : En} {pos : Pos} {e elt iter c : Expr} {x : Str} {px : Pos} {scope : Scope} {own : List (Str × Nat)} {d0 : D} {Q : List D → Prop} {E : Ends'} {α : Type} {f u : α → D} {t : α → Bool} {l : List α}
/-- [elt for x in a list or a tuple] -/
theorem sd_mpL {y : Str} {py spos : Pos} (i0 : Nat) (hy : X.N[i0]? = some y) (hyl : X.env.scope.names.lookup y = some .local) (j : Nat) (hc : X.calm = true) (hN : X.N.Nodup) (ok : BlkOk X.N X.env.scope scope own) (hg : AllBlk X scope fun Y => PG Y (.Name x px) (gName j)) (hj : j ∈ own.map (·.2)) (hl : l.length ≤ 50000) (hit : ED X B S iter fun d => d = .lst (l.map f))
    (he : ∀ a ∈ l, AllBlk X scope fun Y => ED Y B (itE S own j (f a)) elt fun y => y = u a) (q : E.nx (S.set i0 (some (.own (l.map u))))) (hsw : swapsWith (.ListComp elt [⟨.Name x px, iter, [], 0⟩] scope pos) (some (.Name y py)) spos.line X.env = pure true := by exact sw_true rfl rfl rfl rfl) (hs : ∀ x, foldedSetIterable iter X.env x = pure x := by intro _; rfl) : SD X B W0 S (.Assign [.Name y py] (.ListComp elt [⟨.Name x px, iter, [], 0⟩] scope pos) spos) E := by
  have step : ∀ (i : Nat) d acc, (l.map f)[i]? = some d → acc.length = i → acc = (l.take i).map u → AllBlk X scope fun Y => ED Y B (itE S own j d) elt fun y => acc ++ [y] = (l.take (i + 1)).map u := by
    intro i d acc hi _ ha s H0 C cl fp
    rw [List.getElem?_map] at hi
    obtain ⟨a, h1, rfl⟩ := Option.map_eq_some_iff.mp hi
    refine ed_imp (he a (List.mem_of_getElem? h1) s H0 C cl fp) fun y ey => ?_
    rw [take1 u h1, ha, ey]
  have fin : ∀ acc : List D, acc.length = (l.map f).length → acc = (l.take (l.map f).length).map u → E.nx (S.set i0 (some (.own acc))) := by
    intro acc _ e
    rw [List.length_map, List.take_length] at e
    rw [e]
    exact q
  have hl' : (l.map f).length ≤ 50000 := by rw [List.length_map]; exact hl
  exact sd_ownLc hc hN hy hyl (pi_list we_pe) ok hg (lc_L (fun i acc => acc = (l.take i).map u) (fun d => itE S own j d) (ed_imp hit fun d e => ⟨e, hl', rfl⟩) (fun d _ => pat_name j hj) step fin) hsw hs
end
end DL

set_option Elab.async false
set_option linter.all false
set_option maxRecDepth 100000
set_option maxHeartbeats 4000000
/-! two owned lists at once; what is popped of one goes to the other; len of an owned list; list(range(n)) -/
namespace DL
open PySem PySem.Spec PyProof.Rows L2
section
variable {X : Cx} {B : Hp} {W0 : Wd} {S : En} {pos px py p : Pos} {e a b : Expr} {x y : Str} {Q : D → Prop} {E : Ends'}
theorem ed_lenOwn (i : Nat) (l : List D) (hm : X.mg "len" = none) (hN : X.N[i]? = some x) (h : S[i]? = some (some (.own l))) (q : Q (.int (l.length : Int))) (hg : Gl X "len" := by rfl) (hv : Vis X.env.scope x := by first | exact Or.inl rfl | exact Or.inr (Or.inl rfl) | exact Or.inr (Or.inr rfl))
    (hd : (x == ("__debug__" : Str)) = false := by decide) (hcd : (x == ("__classdict__" : Str)) = false := by decide) (hbv : bootBuiltins "len" = some (.builtin "len") := by first | rfl | decide +kernel)
    (hps : X.mg "len" = none → PE X (.Call (.Name "len" p) [.Name x px] [] pos) (tCB (fun vs H Q => ∃ a xs, vs = [V.ref a] ∧ (SqL X.K H a xs ∨ SqT X.K H a xs) ∧ Q (.int (xs.length : Int)) H) (tCons (tVar i) tNil)) := by exact fun hm => pe_callB call_len_seq rfl hm (by first | rfl | decide +kernel) (pa_cons (pe_var (by rfl) (by first | exact Or.inl rfl | exact Or.inr (Or.inl rfl) | exact Or.inr (Or.inr rfl))) pa_nil)) : ED X B S (.Call (.Name "len" p) [.Name x px] [] pos) Q := fun σ W H r R k => by
  refine PE.w (hps hm) ?_
  obtain ⟨v, e1, p, xs, rfl, hB, n, hI, hH, d0⟩ := r.sl i _ h
  refine ⟨_, e1, p, xs, rfl, .inl (SqL.of hH), ?_⟩
  rw [← d0.length]
  exact k.now r.ok (.int _) q
theorem sd_parOwn {pt : Pos} {kt k2 pt2} (i j : Nat) (hij : i ≠ j) (h : FD X B S a fun l => FD X B S b fun m => E.nx ((S.set i (some (.own l))).set j (some (.own m))))
    (hps : PS X (.Assign [.Tuple [.Name x px, .Name y py] kt pt] (.Tuple [a, b] k2 pt2) pos) (tPar i j (tCons (WE X a) (tCons (WE X b) tNil)))) :
    SD X B W0 S (.Assign [.Tuple [.Name x px, .Name y py] kt pt] (.Tuple [a, b] k2 pt2) pos) E := fun σ W H r z D' k => by
  refine PS.w hps ?_
  refine h σ W H r _ fun l p xs W1 H1 s1 ok1 hp n i1 hl d q1 => ?_
  refine q1 σ W1 H1 (r.step s1 ok1) _ fun m p' ys W2 H2 s2 ok2 hp' n' i2 hl' d' q2 => ?_
  have ne : p ≠ p' := fun e => by rw [e, hp'] at hl; cases hl
  have r1 := r.step s1 ok1
  have r2 := r1.step s2 ok2
  have new1 : ∀ (j : Nat) (m : List D), S[j]? = some (some (.own m)) → σ[j]? ≠ some (some (.ref p)) := fun j m e1 e2 => by
    obtain ⟨v, e3, p2, zs, e4, _, _, _, h4, _⟩ := r.sl j _ e1
    rw [e2] at e3
    cases e3
    cases e4
    rw [hp] at h4
    cases h4
  have r3 := r2.setOwn (i := i) (z.free r.ok hp) (fun y => n (s2.oldP p _ hl y)) (s2.old p _ hl (fun _ y => by cases y) i1) (s2.keep p _ hl n) (d.mono s2.I) new1
  have new2 : ∀ (j' : Nat) (m : List D), (S.set i (some (.own l)))[j']? = some (some (.own m)) → (σ.set i (some (.ref p)))[j']? ≠ some (some (.ref p')) := fun j' m e1 e2 => by
    by_cases c : i = j'
    · subst c
      by_cases lt : i < σ.length
      · rw [List.getElem?_set_self lt] at e2
        cases e2
        exact ne rfl
      · rw [List.getElem?_eq_none (by rw [List.length_set]; omega)] at e2
        cases e2
    · rw [List.getElem?_set_ne c] at e1 e2
      obtain ⟨v, e3, p2, zs, e4, _, _, _, h4, _⟩ := r1.sl j' _ e1
      rw [e2] at e3
      cases e3
      cases e4
      rw [hp'] at h4
      cases h4
  have zz := z.trans r.ok s1
  exact ⟨.ref p, .ref p', rfl, k.nx _ _ W2 H2 (r3.setOwn (i := j) (zz.free ok1 hp') n' i2 hl' d' new2) (zz.trans ok1 s2) (s1.I.trans s2.I) q2⟩
/-- x.append(y.pop(e)) -/
theorem sd_appPop {ap ap2 cp cp2 : Pos} (i j : Nat) (l m : List D) (hij : i ≠ j) (hS : S[i]? = some (some (.own l))) (hT : S[j]? = some (some (.own m))) (hl : l.length < 50000) (he : ED X B S e fun d => ∃ (k : Nat) (a : D), d = .int (k : Int) ∧ m[k]? = some a ∧ m.length < 50000 ∧ E.nx ((S.set j (some (.own (m.eraseIdx k)))).set i (some (.own (l ++ [a])))))
    (hps : PE X (.Call (.Attribute (.Name x px) "append" ap) [.Call (.Attribute (.Name y py) "pop" ap2) [e] [] cp2] [] cp) (tBM X.K "list" rAppend (tVar i) (tCons (tBM X.K "list" rPopAt (tVar j) (tCons (WE X e) tNil)) tNil)))
    (hs : swapsWith (.Call (.Attribute (.Name x px) "append" ap) [.Call (.Attribute (.Name y py) "pop" ap2) [e] [] cp2] [] cp) none pos.line X.env = pure false) : SD X B W0 S (.Expr (.Call (.Attribute (.Name x px) "append" ap) [.Call (.Attribute (.Name y py) "pop" ap2) [e] [] cp2] [] cp) pos) E := fun σ W H r z D' k => by
  refine PS.w (ps_expr hps hs) ?_
  obtain ⟨v, e1, p, xs, ev, hB, n, hI, hH, d0⟩ := r.sl i _ hS
  subst ev
  obtain ⟨v', e1', p', ys, ev', hB', n', hI', hH', d0'⟩ := r.sl j _ hT
  subst ev'
  have ne : p ≠ p' := fun q => r.dist i j l m p hij hS hT e1 (by rw [q]; exact e1')
  refine ⟨_, e1, .inl ⟨rfl, _, SqL.of hH⟩, ?_⟩
  refine ⟨_, e1', .inl ⟨rfl, _, SqL.of hH'⟩, ?_⟩
  refine he σ W H r _ fun d v W1 H1 s1 ok1 n1 q1 => ?_
  obtain ⟨k1, a, rfl, hk, hm, q1⟩ := q1
  cases n1
  have hH1 : H1 p = some (.lst xs) := s1.keep _ _ hH n
  have nP : ¬ W1.P p := fun q => n (s1.oldP p _ hH q)
  have hI1 : W1.I p = none := s1.old p _ hH (fun _ z => by cases z) hI
  have hH1' : H1 p' = some (.lst ys) := s1.keep _ _ hH' n'
  have nP' : ¬ W1.P p' := fun q => n' (s1.oldP p' _ hH' q)
  have hI1' : W1.I p' = none := s1.old p' _ hH' (fun _ z => by cases z) hI'
  have d1 := d0.mono s1.I
  have d1' := d0'.mono s1.I
  obtain ⟨u, hu, na⟩ := d1'.get' hk
  have hkx : k1 < ys.length := (List.getElem?_eq_some_iff.mp hu).1
  have ly := d0'.length
  refine ⟨p', ys, k1, k1, u, rfl, rfl, hH1', by omega, by omega, (ixN_seq (ixN_lt hkx)).1, hu, ?_⟩
  have de : Dns X.K W1.I (m.eraseIdx k1) (ys.eraseIdx k1) := by
    rw [List.eraseIdx_eq_take_drop_succ, List.eraseIdx_eq_take_drop_succ]
    exact (dns_take k1 d1').append (dns_drop (k1 + 1) d1')
  have r2 := (r.step s1 ok1).putOwn hT e1' hB' nP' hI1' hH1' de
  have hH2 : upd H1 p' (.lst (ys.eraseIdx k1)) p = some (.lst xs) := by rw [upd_ne ne]; exact hH1
  refine ⟨p, xs, u, rfl, rfl, hH2, Nat.lt_of_lt_of_le (d0.length ▸ hl) (by decide), ?_⟩
  have r3 := r2.putOwn (i := i) (l := l) (by rw [List.getElem?_set_ne (Ne.symm hij)]; exact hS) e1 hB nP hI1 hH2 (d1.append (.cons na .nil))
  exact k.nx _ σ W1 _ r3 (stp_upd (stp_upd (z.trans r.ok s1) hB') hB) s1.I q1
end
end DL

set_option Elab.async false
set_option linter.all false
set_option maxRecDepth 100000
set_option maxHeartbeats 8000000
/-! an owned list of ints against [] -/
namespace DL
open PySem L2
section
variable {X : Cx} {B : Hp} {S : En} {pos : Pos} {x : Str} {p lp : Pos} {QB : Bool → Prop}
theorem shaped_ints (l : List Int) : SeqAt.shaped (.list (l.map .int)) = true := by
  unfold SeqAt.shaped
  rw [Bool.and_eq_true, decide_eq_true_eq]
  refine ⟨can_ints l, ?_⟩
  show PyData.depthAll _ + 1 ≤ 64
  rw [PySem.W.depth_ints]
  decide
/-- x != [], x the owner of a list of ints -/
theorem td_neOwn0 (i : Nat) (l : List Int) (hu : X.A.units + 64 < cLine) (hN : X.N[i]? = some x) (h : S[i]? = some (some (.own (l.map D.int)))) (q : QB (!l.isEmpty))
    (hm : behindInMarks .NotEq (.List [] lp) = false := by rfl) (hv : Vis X.env.scope x := by first | exact Or.inl rfl | exact Or.inr (Or.inl rfl) | exact Or.inr (Or.inr rfl)) (hd : (x == ("__debug__" : Str)) = false := by decide) (hcd : (x == ("__classdict__" : Str)) = false := by decide) : TD X B S (.Compare (.Name x p) [.NotEq] [.List [] lp] pos) QB := fun σ W H r R k0 => by
  refine PT.w (pt_cmpR (op_neD hu) (pe_var hN hv hd hcd) (pe_lst pa_nil) hm) ?_
  obtain ⟨v, e1, p1, xs, rfl, hB, n, hI, hH, d0⟩ := r.sl i _ h
  refine ⟨_, e1, Nat.zero_le _, fun p2 hp => ?_⟩
  have s1 : Stp W H W (upd H p2 (.lst [])) := Stp.own hp
  have ok1 := r.ok.own (o := .lst []) hp
  refine ⟨.list (l.map .int), .list [], .lst (SqL.of (s1.keep _ _ hH n)) (PyDs.dp ok1 (pyd_ints l) (d0.mono s1.I)), .lst (SqL.of upd_same) .nil, shaped_ints l, by decide, ?_⟩
  have e : (!PyData.eqv (.list (l.map .int)) (.list [])) = !l.isEmpty := by cases l <;> rfl
  rw [e]
  exact ⟨_, rfl, (k0.step s1 ok1).now ok1 q⟩
end
end DL

set_option linter.all false
/-! permanents along columns; two rows' twins -/
namespace M85
abbrev Row := Nat → Rat
def perI : List Row → List Nat → Rat
  | [], _ => 1
  | f :: fs, cs => (cs.map fun c => f c * perI fs (cs.erase c)).sum
theorem sum_perm {l m : List Rat} (h : l.Perm m) : l.sum = m.sum := by
  induction h with
  | nil => rfl
  | cons x _ ih => rw [List.sum_cons, List.sum_cons, ih]
  | swap x y l => simp only [List.sum_cons]; grind
  | trans _ _ a b => exact a.trans b
theorem perI_cols : ∀ (fs : List Row) {cs ds : List Nat}, cs.Perm ds → perI fs cs = perI fs ds
  | [], _, _, _ => rfl
  | f :: fs, cs, ds, h => by
    show (cs.map _).sum = (ds.map _).sum
    have e : (cs.map fun c => f c * perI fs (cs.erase c)) = cs.map fun c => f c * perI fs (ds.erase c) :=
      List.map_congr_left fun c _ => by rw [perI_cols fs (h.erase c)]
    rw [e]
    exact sum_perm (h.map _)
theorem sum_add {α : Type} {f g : α → Rat} : ∀ l : List α, (l.map fun a => f a + g a).sum = (l.map f).sum + (l.map g).sum
  | [] => by simp only [List.map_nil, List.sum_nil]; grind
  | a :: l => by simp only [List.map_cons, List.sum_cons, sum_add l]; grind
theorem sum_sub {α : Type} {f g : α → Rat} : ∀ l : List α, (l.map fun a => f a - g a).sum = (l.map f).sum - (l.map g).sum
  | [] => by simp only [List.map_nil, List.sum_nil]; grind
  | a :: l => by simp only [List.map_cons, List.sum_cons, sum_sub l]; grind
theorem sum_zero {α : Type} : ∀ l : List α, (l.map fun _ => (0 : Rat)).sum = 0
  | [] => rfl
  | a :: l => by simp only [List.map_cons, List.sum_cons, sum_zero l]; grind
theorem sum_mul {α : Type} {f : α → Rat} (k : Rat) : ∀ l : List α, (l.map fun a => k * f a).sum = k * (l.map f).sum
  | [] => by simp
  | a :: l => by simp only [List.map_cons, List.sum_cons, sum_mul k l]; grind
theorem sum_swap {α β : Type} {f : α → β → Rat} (m : List β) : ∀ l : List α, (l.map fun a => (m.map fun b => f a b).sum).sum = (m.map fun b => (l.map fun a => f a b).sum).sum
  | [] => by simp only [List.map_nil, List.sum_nil]; exact (sum_zero m).symm
  | a :: l => by
    simp only [List.map_cons, List.sum_cons, sum_swap m l]
    rw [← sum_add]
theorem sum_erase {f : Nat → Rat} {l : List Nat} {a : Nat} (h : a ∈ l) : ((l.erase a).map f).sum = (l.map f).sum - f a := by
  have p := (List.perm_cons_erase h).map f
  have := sum_perm p
  rw [List.map_cons, List.sum_cons] at this
  grind
theorem perI_swap (f g : Row) (fs : List Row) (cs : List Nat) : perI (f :: g :: fs) cs = perI (g :: f :: fs) cs := by
  have key : ∀ f g : Row, perI (f :: g :: fs) cs = (cs.map fun c => (cs.map fun d => f c * g d * perI fs ((cs.erase c).erase d)).sum).sum - (cs.map fun c => f c * g c * perI fs ((cs.erase c).erase c)).sum := fun f g => by
    rw [← sum_sub]
    show (cs.map fun c => f c * ((cs.erase c).map fun d => g d * perI fs ((cs.erase c).erase d)).sum).sum = _
    refine congrArg List.sum (List.map_congr_left fun c hc => ?_)
    rw [sum_erase hc, show ∀ a b c : Rat, a * (b - c) = a * b - a * c from fun a b c => by grind, ← sum_mul]
    congr 1
    · refine congrArg List.sum (List.map_congr_left fun d _ => ?_)
      rw [Rat.mul_assoc]
    · rw [Rat.mul_assoc]
  rw [key f g, key g f, sum_swap]
  congr 1
  · refine congrArg List.sum (List.map_congr_left fun c _ => congrArg List.sum (List.map_congr_left fun d _ => ?_))
    rw [List.erase_comm, Rat.mul_comm (f d)]
  · refine congrArg List.sum (List.map_congr_left fun c _ => ?_)
    rw [Rat.mul_comm (f c)]
theorem perI_cons {f : Row} {fs gs : List Row} {cs : List Nat} (h : ∀ cs, perI fs cs = perI gs cs) : perI (f :: fs) cs = perI (f :: gs) cs := by
  show (cs.map _).sum = (cs.map _).sum
  exact congrArg List.sum (List.map_congr_left fun c _ => by rw [h])
theorem perI_rows {fs gs : List Row} (p : fs.Perm gs) : ∀ cs, perI fs cs = perI gs cs := by
  induction p with
  | nil => exact fun _ => rfl
  | cons x _ ih => exact fun cs => perI_cons ih
  | swap x y l => exact fun cs => perI_swap y x l cs
  | trans _ _ a b => exact fun cs => (a cs).trans (b cs)
theorem perI_scale (k : Rat) (f : Row) (fs : List Row) (cs : List Nat) : perI ((fun c => f c * k) :: fs) cs = k * perI (f :: fs) cs := by
  show (cs.map _).sum = k * (cs.map _).sum
  rw [← sum_mul]
  exact congrArg List.sum (List.map_congr_left fun c _ => by grind)
/-! two rows -/
theorem sq0 (a : Rat) : 0 ≤ a * a := by
  rcases Rat.le_total (a := 0) (b := a) with h | h
  · exact Rat.mul_nonneg h h
  · have : 0 ≤ -a := by grind
    have := Rat.mul_nonneg this this
    grind
theorem nn0 {a b : Rat} (h : 0 < a) (k : 0 ≤ a * b) : 0 ≤ b := by
  rcases Rat.le_total (a := 0) (b := b) with z | z
  · exact z
  · have : 0 ≤ -b := by grind
    have := Rat.mul_nonneg (Rat.le_of_lt h) this
    have e : a * b = 0 := by grind
    rcases Rat.mul_eq_zero.mp e with e | e
    · rw [e] at h; exact absurd h (by decide)
    · rw [e]; exact Rat.le_refl
theorem pos_of {a : Rat} (h : 0 ≤ a) (k : a ≠ 0) : 0 < a := by grind
/-- middles: where u v is at most m m whatever the factors -/
theorem mid {l k u v m : Rat} (hl : 0 < l) (hk : 0 < k) (hu : 0 ≤ u) (hv : 0 ≤ v) (hm : 0 ≤ m) (h : k * k * u + l * l * v ≤ 2 * (l * k * m)) : u * v ≤ m * m := by
  have s := sq0 (k * k * u - l * l * v)
  have a : 0 ≤ k * k * u := Rat.mul_nonneg (sq0 k) hu
  have b : 0 ≤ l * l * v := Rat.mul_nonneg (sq0 l) hv
  have c : 0 ≤ 2 * (l * k * m) - (k * k * u + l * l * v) := by grind
  have d : 0 ≤ 2 * (l * k * m) + (k * k * u + l * l * v) := by
    have := Rat.mul_nonneg (Rat.mul_nonneg (Rat.le_of_lt hl) (Rat.le_of_lt hk)) hm
    grind
  have e := Rat.mul_nonneg c d
  have f : 0 ≤ (l * l * (k * k)) * (m * m - u * v) := by grind
  have g : 0 < l * l * (k * k) := Rat.mul_pos (Rat.mul_pos hl hl) (Rat.mul_pos hk hk)
  have := nn0 g f
  grind
/-- a form of three weights -/
def q3 (a b c x y z u v w : Rat) : Rat := a * (x * v + y * u) + b * (x * w + z * u) + c * (y * w + z * v)
theorem q2_le (c y z v w : Rat) : (c * (y * z + z * y)) * (c * (v * w + w * v)) ≤ (c * (y * w + z * v)) * (c * (y * w + z * v)) := by
  have := sq0 (c * (y * w - z * v))
  grind
theorem q3_nn {a b c x y z u v w : Rat} (ha : 0 ≤ a) (hb : 0 ≤ b) (hc : 0 ≤ c) (hx : 0 ≤ x) (hy : 0 ≤ y) (hz : 0 ≤ z) (hu : 0 ≤ u) (hv : 0 ≤ v) (hw : 0 ≤ w) : 0 ≤ q3 a b c x y z u v w := by
  unfold q3
  have := Rat.mul_nonneg ha (Rat.add_nonneg (Rat.mul_nonneg hx hv) (Rat.mul_nonneg hy hu))
  have := Rat.mul_nonneg hb (Rat.add_nonneg (Rat.mul_nonneg hx hw) (Rat.mul_nonneg hz hu))
  have := Rat.mul_nonneg hc (Rat.add_nonneg (Rat.mul_nonneg hy hw) (Rat.mul_nonneg hz hv))
  grind
theorem zero_add {a b : Rat} (ha : 0 ≤ a) (hb : 0 ≤ b) (h : a + b = 0) : a = 0 ∧ b = 0 := by constructor <;> grind
theorem q3_le {a b c x y z u v w : Rat} (ha : 0 ≤ a) (hb : 0 ≤ b) (hc : 0 ≤ c) (hx : 0 ≤ x) (hy : 0 ≤ y) (hz : 0 ≤ z) (hu : 0 ≤ u) (hv : 0 ≤ v) (hw : 0 ≤ w) :
    q3 a b c x y z x y z * q3 a b c u v w u v w ≤ q3 a b c x y z u v w * q3 a b c x y z u v w := by
  have l0 : 0 ≤ a * y + b * z := Rat.add_nonneg (Rat.mul_nonneg ha hy) (Rat.mul_nonneg hb hz)
  have k0 : 0 ≤ a * v + b * w := Rat.add_nonneg (Rat.mul_nonneg ha hv) (Rat.mul_nonneg hb hw)
  have m0 := q3_nn ha hb hc hx hy hz hu hv hw
  have u0 := q3_nn ha hb hc hx hy hz hx hy hz
  have v0 := q3_nn ha hb hc hu hv hw hu hv hw
  by_cases l1 : a * y + b * z = 0
  · obtain ⟨e1, e2⟩ := zero_add (Rat.mul_nonneg ha hy) (Rat.mul_nonneg hb hz) l1
    by_cases k1 : a * v + b * w = 0
    · obtain ⟨e3, e4⟩ := zero_add (Rat.mul_nonneg ha hv) (Rat.mul_nonneg hb hw) k1
      have i1 : q3 a b c x y z x y z = c * (y * z + z * y) := by unfold q3; grind
      have i2 : q3 a b c u v w u v w = c * (v * w + w * v) := by unfold q3; grind
      have i3 : q3 a b c x y z u v w = c * (y * w + z * v) := by unfold q3; grind
      rw [i1, i2, i3]
      exact q2_le c y z v w
    · -- then c y z = 0
      have : q3 a b c x y z x y z = 2 * (c * (y * z)) := by unfold q3; grind
      have z0 : c * (y * z) = 0 := by
        rcases Rat.mul_eq_zero.mp e1 with h | h
        · rcases Rat.mul_eq_zero.mp e2 with h2 | h2
          · exact absurd (by rw [h, h2]; grind) k1
          · rw [h2]; grind
        · rw [h]; grind
      rw [this, z0]
      have := sq0 (q3 a b c x y z u v w)
      grind
  · by_cases k1 : a * v + b * w = 0
    · obtain ⟨e3, e4⟩ := zero_add (Rat.mul_nonneg ha hv) (Rat.mul_nonneg hb hw) k1
      have : q3 a b c u v w u v w = 2 * (c * (v * w)) := by unfold q3; grind
      have z0 : c * (v * w) = 0 := by
        rcases Rat.mul_eq_zero.mp e3 with h | h
        · rcases Rat.mul_eq_zero.mp e4 with h2 | h2
          · exact absurd (by rw [h, h2]; grind) l1
          · rw [h2]; grind
        · rw [h]; grind
      rw [this, z0]
      have := sq0 (q3 a b c x y z u v w)
      grind
    · have lp := pos_of l0 l1
      have kp := pos_of k0 k1
      refine mid lp kp u0 v0 m0 ?_
      -- the form at k p - l q
      have id1 : ∀ l k : Rat, k * k * q3 a b c x y z x y z + l * l * q3 a b c u v w u v w - 2 * (l * k * q3 a b c x y z u v w) = q3 a b c (k * x - l * u) (k * y - l * v) (k * z - l * w) (k * x - l * u) (k * y - l * v) (k * z - l * w) := fun l k => by unfold q3; grind
      have id2 := id1 (a * y + b * z) (a * v + b * w)
      generalize hX : (a * v + b * w) * x - (a * y + b * z) * u = X at id2
      generalize hY : (a * v + b * w) * y - (a * y + b * z) * v = Y at id2
      generalize hZ : (a * v + b * w) * z - (a * y + b * z) * w = Z at id2
      have o : a * Y + b * Z = 0 := by rw [← hY, ← hZ]; grind
      have f : q3 a b c X Y Z X Y Z = 2 * (c * (Y * Z)) := by unfold q3; grind
      have neg : c * (Y * Z) ≤ 0 := by
        have n1 : a * (c * (Y * Z)) = -(c * b * (Z * Z)) := by grind
        have n2 : b * (c * (Y * Z)) = -(c * a * (Y * Y)) := by grind
        have g1 := Rat.mul_nonneg (Rat.mul_nonneg hc hb) (sq0 Z)
        have g2 := Rat.mul_nonneg (Rat.mul_nonneg hc ha) (sq0 Y)
        by_cases a0 : a = 0
        · have bp : b ≠ 0 := fun h => l1 (by rw [a0, h]; grind)
          have := nn0 (pos_of hb bp) (b := -(c * (Y * Z))) (by grind)
          grind
        · have := nn0 (pos_of ha a0) (b := -(c * (Y * Z))) (by grind)
          grind
      grind

theorem psd {a b c X Y : Rat} (ha : 0 ≤ a) (hc : 0 ≤ c) (h : b * b ≤ 4 * (a * c)) : 0 ≤ a * (X * X) + b * (X * Y) + c * (Y * Y) := by
  by_cases a0 : a = 0
  · subst a0
    have : b * b = 0 := by have := sq0 b; grind
    have b0 : b = 0 := by rcases Rat.mul_eq_zero.mp this with h | h <;> exact h
    have := Rat.mul_nonneg hc (sq0 Y)
    subst b0
    grind
  · have ap := pos_of ha a0
    have s := sq0 (2 * a * X + b * Y)
    have d := Rat.mul_nonneg (show 0 ≤ 4 * (a * c) - b * b by grind) (sq0 Y)
    have := nn0 (a := 4 * a) (b := a * (X * X) + b * (X * Y) + c * (Y * Y)) (by grind) (by grind)
    exact this
/-- the law of the weights -/
def cnd (p q r a b c : Rat) : Prop := 0 ≤ 2 * (p * c * (q * b)) + 2 * (q * b * (r * a)) + 2 * (r * a * (p * c)) - p * c * (p * c) - q * b * (q * b) - r * a * (r * a)
theorem neg4 {p q r a b c X Y Z : Rat} (hp : 0 ≤ p) (hq : 0 ≤ q) (hr : 0 ≤ r) (ha : 0 ≤ a) (hb : 0 ≤ b) (hc : 0 ≤ c) (h : cnd p q r a b c) (o : p * X + q * Y + r * Z = 0) (n : ¬ (p = 0 ∧ q = 0 ∧ r = 0)) : a * (X * Y) + b * (X * Z) + c * (Y * Z) ≤ 0 := by
  unfold cnd at h
  by_cases p0 : p = 0
  · by_cases q0 : q = 0
    · have r0 : r ≠ 0 := fun z => n ⟨p0, q0, z⟩
      have := psd (a := b * p) (b := b * q + c * p - a * r) (c := c * q) (X := X) (Y := Y) (Rat.mul_nonneg hb hp) (Rat.mul_nonneg hc hq) (by grind)
      have := nn0 (pos_of hr r0) (b := -(a * (X * Y) + b * (X * Z) + c * (Y * Z))) (by
        have e : r * -(a * (X * Y) + b * (X * Z) + c * (Y * Z)) = b * p * (X * X) + (b * q + c * p - a * r) * (X * Y) + c * q * (Y * Y) := by
          have z : r * Z = -(p * X + q * Y) := by grind
          have : r * -(a * (X * Y) + b * (X * Z) + c * (Y * Z)) = -(a * r * (X * Y)) - (b * X + c * Y) * (r * Z) := by grind
          rw [this, z]; grind
        rw [e]; exact this)
      grind
    · have := psd (a := a * p) (b := a * r + c * p - b * q) (c := c * r) (X := X) (Y := Z) (Rat.mul_nonneg ha hp) (Rat.mul_nonneg hc hr) (by grind)
      have := nn0 (pos_of hq q0) (b := -(a * (X * Y) + b * (X * Z) + c * (Y * Z))) (by
        have e : q * -(a * (X * Y) + b * (X * Z) + c * (Y * Z)) = a * p * (X * X) + (a * r + c * p - b * q) * (X * Z) + c * r * (Z * Z) := by
          have z : q * Y = -(p * X + r * Z) := by grind
          have : q * -(a * (X * Y) + b * (X * Z) + c * (Y * Z)) = -(b * q * (X * Z)) - (a * X + c * Z) * (q * Y) := by grind
          rw [this, z]; grind
        rw [e]; exact this)
      grind
  · have := psd (a := a * q) (b := a * r + b * q - c * p) (c := b * r) (X := Y) (Y := Z) (Rat.mul_nonneg ha hq) (Rat.mul_nonneg hb hr) (by grind)
    have := nn0 (pos_of hp p0) (b := -(a * (X * Y) + b * (X * Z) + c * (Y * Z))) (by
      have e : p * -(a * (X * Y) + b * (X * Z) + c * (Y * Z)) = a * q * (Y * Y) + (a * r + b * q - c * p) * (Y * Z) + b * r * (Z * Z) := by
        have z : p * X = -(q * Y + r * Z) := by grind
        have : p * -(a * (X * Y) + b * (X * Z) + c * (Y * Z)) = -(c * p * (Y * Z)) - (a * Y + b * Z) * (p * X) := by grind
        rw [this, z]; grind
      rw [e]; exact this)
    grind
def q4 (p q r a b c s x y z t u v w : Rat) : Rat := s * (p * u + q * v + r * w) + t * (p * x + q * y + r * z) + q3 a b c x y z u v w
theorem lin0 {p q r x y z : Rat} (hp : 0 ≤ p) (hq : 0 ≤ q) (hr : 0 ≤ r) (hx : 0 ≤ x) (hy : 0 ≤ y) (hz : 0 ≤ z) : 0 ≤ p * x + q * y + r * z := by
  have := Rat.mul_nonneg hp hx
  have := Rat.mul_nonneg hq hy
  have := Rat.mul_nonneg hr hz
  grind
theorem q4_nn {p q r a b c s x y z t u v w : Rat} (hp : 0 ≤ p) (hq : 0 ≤ q) (hr : 0 ≤ r) (ha : 0 ≤ a) (hb : 0 ≤ b) (hc : 0 ≤ c) (hs : 0 ≤ s) (hx : 0 ≤ x) (hy : 0 ≤ y) (hz : 0 ≤ z) (ht : 0 ≤ t) (hu : 0 ≤ u) (hv : 0 ≤ v) (hw : 0 ≤ w) : 0 ≤ q4 p q r a b c s x y z t u v w := by
  unfold q4
  have := Rat.mul_nonneg hs (lin0 hp hq hr hu hv hw)
  have := Rat.mul_nonneg ht (lin0 hp hq hr hx hy hz)
  have := q3_nn ha hb hc hx hy hz hu hv hw
  grind
theorem q4_le {p q r a b c s x y z t u v w : Rat} (hp : 0 ≤ p) (hq : 0 ≤ q) (hr : 0 ≤ r) (ha : 0 ≤ a) (hb : 0 ≤ b) (hc : 0 ≤ c) (hs : 0 ≤ s) (hx : 0 ≤ x) (hy : 0 ≤ y) (hz : 0 ≤ z) (ht : 0 ≤ t) (hu : 0 ≤ u) (hv : 0 ≤ v) (hw : 0 ≤ w) (h : cnd p q r a b c) :
    q4 p q r a b c s x y z s x y z * q4 p q r a b c t u v w t u v w ≤ q4 p q r a b c s x y z t u v w * q4 p q r a b c s x y z t u v w := by
  have l0 := lin0 hp hq hr hx hy hz
  have k0 := lin0 hp hq hr hu hv hw
  have m0 := q4_nn hp hq hr ha hb hc hs hx hy hz ht hu hv hw
  have u0 := q4_nn hp hq hr ha hb hc hs hx hy hz hs hx hy hz
  have v0 := q4_nn hp hq hr ha hb hc ht hu hv hw ht hu hv hw
  have id1 : ∀ l k : Rat, k * k * q4 p q r a b c s x y z s x y z + l * l * q4 p q r a b c t u v w t u v w - 2 * (l * k * q4 p q r a b c s x y z t u v w) = q4 p q r a b c (k * s - l * t) (k * x - l * u) (k * y - l * v) (k * z - l * w) (k * s - l * t) (k * x - l * u) (k * y - l * v) (k * z - l * w) := fun l k => by unfold q4 q3; grind
  have key : ¬ (p = 0 ∧ q = 0 ∧ r = 0) → (p * u + q * v + r * w) * (p * u + q * v + r * w) * q4 p q r a b c s x y z s x y z + (p * x + q * y + r * z) * (p * x + q * y + r * z) * q4 p q r a b c t u v w t u v w ≤ 2 * ((p * x + q * y + r * z) * (p * u + q * v + r * w) * q4 p q r a b c s x y z t u v w) := fun n => by
    have id2 := id1 (p * x + q * y + r * z) (p * u + q * v + r * w)
    generalize (p * u + q * v + r * w) * s - (p * x + q * y + r * z) * t = S at id2
    generalize hX : (p * u + q * v + r * w) * x - (p * x + q * y + r * z) * u = X at id2
    generalize hY : (p * u + q * v + r * w) * y - (p * x + q * y + r * z) * v = Y at id2
    generalize hZ : (p * u + q * v + r * w) * z - (p * x + q * y + r * z) * w = Z at id2
    have o : p * X + q * Y + r * Z = 0 := by rw [← hX, ← hY, ← hZ]; grind
    have f : q4 p q r a b c S X Y Z S X Y Z = 2 * (a * (X * Y) + b * (X * Z) + c * (Y * Z)) := by
      unfold q4 q3
      rw [o]
      grind
    have := neg4 hp hq hr ha hb hc h o n
    grind
  by_cases l1 : p * x + q * y + r * z = 0
  · by_cases k1 : p * u + q * v + r * w = 0
    · have i1 : q4 p q r a b c s x y z s x y z = q3 a b c x y z x y z := by unfold q4; rw [l1]; grind
      have i2 : q4 p q r a b c t u v w t u v w = q3 a b c u v w u v w := by unfold q4; rw [k1]; grind
      have i3 : q4 p q r a b c s x y z t u v w = q3 a b c x y z u v w := by unfold q4; rw [k1, l1]; grind
      rw [i1, i2, i3]
      exact q3_le ha hb hc hx hy hz hu hv hw
    · have n : ¬ (p = 0 ∧ q = 0 ∧ r = 0) := fun ⟨a1, a2, a3⟩ => k1 (by rw [a1, a2, a3]; grind)
      have := key n
      rw [l1] at this
      have kp := pos_of k0 k1
      have g := nn0 (Rat.mul_pos kp kp) (b := -(q4 p q r a b c s x y z s x y z)) (by grind)
      have e : q4 p q r a b c s x y z s x y z = 0 := by grind
      rw [e]
      have := sq0 (q4 p q r a b c s x y z t u v w)
      grind
  · by_cases k1 : p * u + q * v + r * w = 0
    · have n : ¬ (p = 0 ∧ q = 0 ∧ r = 0) := fun ⟨a1, a2, a3⟩ => l1 (by rw [a1, a2, a3]; grind)
      have := key n
      rw [k1] at this
      have lp := pos_of l0 l1
      have g := nn0 (Rat.mul_pos lp lp) (b := -(q4 p q r a b c t u v w t u v w)) (by grind)
      have e : q4 p q r a b c t u v w t u v w = 0 := by grind
      rw [e]
      have := sq0 (q4 p q r a b c s x y z t u v w)
      grind
    · have n : ¬ (p = 0 ∧ q = 0 ∧ r = 0) := fun ⟨a1, a2, a3⟩ => l1 (by rw [a1, a2, a3]; grind)
      exact mid (pos_of l0 l1) (pos_of k0 k1) u0 v0 m0 (key n)
/-! of permanents -/
theorem cnd_per {c1 c2 c3 c4 d1 d2 d3 d4 : Rat} (h1 : 0 ≤ c1) (h2 : 0 ≤ c2) (h3 : 0 ≤ c3) (h4 : 0 ≤ c4) (g1 : 0 ≤ d1) (g2 : 0 ≤ d2) (g3 : 0 ≤ d3) (g4 : 0 ≤ d4) :
    cnd (c3 * d4 + c4 * d3) (c2 * d4 + c4 * d2) (c2 * d3 + c3 * d2) (c1 * d4 + c4 * d1) (c1 * d3 + c3 * d1) (c1 * d2 + c2 * d1) := by
  unfold cnd
  have A : 0 ≤ c1 * c2 * (d3 * d4) + d1 * d2 * (c3 * c4) := Rat.add_nonneg (Rat.mul_nonneg (Rat.mul_nonneg h1 h2) (Rat.mul_nonneg g3 g4)) (Rat.mul_nonneg (Rat.mul_nonneg g1 g2) (Rat.mul_nonneg h3 h4))
  have B : 0 ≤ c1 * c3 * (d2 * d4) + d1 * d3 * (c2 * c4) := Rat.add_nonneg (Rat.mul_nonneg (Rat.mul_nonneg h1 h3) (Rat.mul_nonneg g2 g4)) (Rat.mul_nonneg (Rat.mul_nonneg g1 g3) (Rat.mul_nonneg h2 h4))
  have C : 0 ≤ c1 * c4 * (d2 * d3) + d1 * d4 * (c2 * c3) := Rat.add_nonneg (Rat.mul_nonneg (Rat.mul_nonneg h1 h4) (Rat.mul_nonneg g2 g3)) (Rat.mul_nonneg (Rat.mul_nonneg g1 g4) (Rat.mul_nonneg h2 h3))
  have e1 : (c3 * d4 + c4 * d3) * (c1 * d2 + c2 * d1) = (c1 * c3 * (d2 * d4) + d1 * d3 * (c2 * c4)) + (c1 * c4 * (d2 * d3) + d1 * d4 * (c2 * c3)) := by grind
  have e2 : (c2 * d4 + c4 * d2) * (c1 * d3 + c3 * d1) = (c1 * c2 * (d3 * d4) + d1 * d2 * (c3 * c4)) + (c1 * c4 * (d2 * d3) + d1 * d4 * (c2 * c3)) := by grind
  have e3 : (c2 * d3 + c3 * d2) * (c1 * d4 + c4 * d1) = (c1 * c2 * (d3 * d4) + d1 * d2 * (c3 * c4)) + (c1 * c3 * (d2 * d4) + d1 * d3 * (c2 * c4)) := by grind
  rw [e1, e2, e3]
  generalize c1 * c2 * (d3 * d4) + d1 * d2 * (c3 * c4) = a at *
  generalize c1 * c3 * (d2 * d4) + d1 * d3 * (c2 * c4) = b at *
  generalize c1 * c4 * (d2 * d3) + d1 * d4 * (c2 * c3) = c at *
  have := Rat.mul_nonneg A B
  have := Rat.mul_nonneg B C
  have := Rat.mul_nonneg A C
  grind
/-- two rows ahead: twins -/
theorem twin {f g : Row} {fs : List Row} {n : Nat} (h2 : 2 ≤ n) (h4 : n ≤ 4) (hl : fs.length + 2 = n) (hf : ∀ c, 0 ≤ f c) (hg : ∀ c, 0 ≤ g c) (hs : ∀ r ∈ fs, ∀ c, 0 ≤ r c) :
    perI (f :: f :: fs) (List.range n) * perI (g :: g :: fs) (List.range n) ≤ perI (f :: g :: fs) (List.range n) * perI (f :: g :: fs) (List.range n) := by
  obtain rfl | rfl | rfl : n = 2 ∨ n = 3 ∨ n = 4 := by omega
  · have : fs = [] := List.eq_nil_of_length_eq_zero (by omega)
    subst this
    have e : ∀ f g : Row, perI [f, g] (List.range 2) = 1 * (f 0 * g 1 + f 1 * g 0) := fun f g => by
      show f 0 * (g 1 * 1 + 0) + (f 1 * (g 0 * 1 + 0) + 0) = _
      grind
    rw [e, e, e]
    exact q2_le 1 (f 0) (f 1) (g 0) (g 1)
  · match fs, hl, hs with
    | [d], _, hs =>
      have e : ∀ f g : Row, perI [f, g, d] (List.range 3) = q3 (d 2) (d 1) (d 0) (f 0) (f 1) (f 2) (g 0) (g 1) (g 2) := fun f g => by
        show f 0 * (g 1 * (d 2 * 1 + 0) + (g 2 * (d 1 * 1 + 0) + 0)) + (f 1 * (g 0 * (d 2 * 1 + 0) + (g 2 * (d 0 * 1 + 0) + 0)) + (f 2 * (g 0 * (d 1 * 1 + 0) + (g 1 * (d 0 * 1 + 0) + 0)) + 0)) = _
        unfold q3
        grind
      rw [e, e, e]
      have hd := hs d (List.mem_cons_self ..)
      exact q3_le (hd _) (hd _) (hd _) (hf _) (hf _) (hf _) (hg _) (hg _) (hg _)
  · match fs, hl, hs with
    | [c, d], _, hs =>
      have e2 : ∀ i j : Nat, i ≠ j → perI [c, d] [i, j] = c i * d j + c j * d i := fun i j ne => by
        show (c i * perI [d] ([i, j].erase i)) + (c j * perI [d] ([i, j].erase j) + 0) = _
        have a : [i, j].erase i = [j] := by simp
        have b : [i, j].erase j = [i] := by simp [List.erase_cons, ne]
        rw [a, b]
        show c i * (d j * 1 + 0) + (c j * (d i * 1 + 0) + 0) = _
        grind
      have e : ∀ f g : Row, perI [f, g, c, d] (List.range 4) = q4 (c 2 * d 3 + c 3 * d 2) (c 1 * d 3 + c 3 * d 1) (c 1 * d 2 + c 2 * d 1) (c 0 * d 3 + c 3 * d 0) (c 0 * d 2 + c 2 * d 0) (c 0 * d 1 + c 1 * d 0) (f 0) (f 1) (f 2) (f 3) (g 0) (g 1) (g 2) (g 3) := fun f g => by
        show f 0 * (g 1 * perI [c, d] [2, 3] + (g 2 * perI [c, d] [1, 3] + (g 3 * perI [c, d] [1, 2] + 0)))
          + (f 1 * (g 0 * perI [c, d] [2, 3] + (g 2 * perI [c, d] [0, 3] + (g 3 * perI [c, d] [0, 2] + 0)))
          + (f 2 * (g 0 * perI [c, d] [1, 3] + (g 1 * perI [c, d] [0, 3] + (g 3 * perI [c, d] [0, 1] + 0)))
          + (f 3 * (g 0 * perI [c, d] [1, 2] + (g 1 * perI [c, d] [0, 2] + (g 2 * perI [c, d] [0, 1] + 0))) + 0))) = _
        rw [e2 2 3 (by decide), e2 1 3 (by decide), e2 1 2 (by decide), e2 0 3 (by decide), e2 0 2 (by decide), e2 0 1 (by decide)]
        unfold q4 q3
        generalize c 2 * d 3 + c 3 * d 2 = z1
        generalize c 1 * d 3 + c 3 * d 1 = z2
        generalize c 1 * d 2 + c 2 * d 1 = z3
        generalize c 0 * d 3 + c 3 * d 0 = z4
        generalize c 0 * d 2 + c 2 * d 0 = z5
        generalize c 0 * d 1 + c 1 * d 0 = z6
        grind
      have hc := hs c (List.mem_cons_self ..)
      have hd := hs d (List.mem_cons_of_mem _ (List.mem_cons_self ..))
      have pp : ∀ i j, 0 ≤ c i * d j + c j * d i := fun i j => Rat.add_nonneg (Rat.mul_nonneg (hc i) (hd j)) (Rat.mul_nonneg (hc j) (hd i))
      rw [e, e, e]
      exact q4_le (pp 2 3) (pp 1 3) (pp 1 2) (pp 0 3) (pp 0 2) (pp 0 1) (hf _) (hf _) (hf _) (hf _) (hg _) (hg _) (hg _) (hg _) (cnd_per (hc 0) (hc 1) (hc 2) (hc 3) (hd 0) (hd 1) (hd 2) (hd 3))
end M85

set_option Elab.async false
set_option linter.all false
set_option maxRecDepth 100000
set_option maxHeartbeats 8000000
/-! k85: what the law draws; its own fractions -/
namespace K85
open PySem L2 DL
section
variable {X : Cx} {B : Hp} {W0 : Wd} {S : En} {st : Stmt} {E : Ends'}
theorem sd_mid (QS : En → Prop) (k : ∀ S', QS S' → E.nx S') (h : SD X B W0 S st { E with nx := QS }) : SD X B W0 S st E := fun σ W H r z D' q => h σ W H r z D' ⟨fun S' σ' W' H' r' z' x' y => q.nx S' σ' W' H' r' z' x' (k S' y), q.rt, q.bk, q.ct⟩
end
section
variable {P : Program} {w : World} {K : PySem.W.Frag} {mg : Str → Option Value} {base : Heap} {C : Addr}
abbrev spPot : SpN := fun as Q => ∃ ns, ∃ k : Nat, as = [.val (.frl ns), .val (.int (k : Int))] ∧ k < 100 ∧ ∀ a b : Int, 0 ≤ b ∧ b < 2 ^ 31 → Q [.int a, .int b]
theorem sc_pot : FnScope ["_law_script", "_law_k", "_law_cell"] ["_law_script", "_law_k"] (defScope (top 31)) := ⟨rfl, rfl, rfl, by decide +kernel, rfl, by decide +kernel, by decide +kernel⟩
theorem ok_pot {f : Addr} {fd : FuncData} (F : FunS K "_law_pot" "_law_pot" (top 31) f fd) (T : Txt K mg C) : GnOk P w K mg base 1 f fd ["_law_script", "_law_k"] (liftN K spPot) := by
  refine gn_new F sc_pot (fun as Q h => by obtain ⟨_, _, rfl, _⟩ := h; rfl) (fun cdv A outer s H hr hG W as Q h => ?_)
  obtain ⟨ns, k, rfl, hk, q⟩ := h
  have nd := sc_pot.nd
  have rest : ∀ z : Int, SN (Bx P w K mg base ["_law_script", "_law_k", "_law_cell"] "_law_pot" (top 31) f cdv A outer s H) H W [some (.val (.frl ns)), some (.val (.int (k : Int))), some (.val (.int z))] ((defBody (top 31)).drop 2) Q := fun z => by
    refine sn_ret (fd_lst (ad_cons (ed_callB T.max (ad_cons (ed_int (ad_cons (ed_bin (nm 2 (ed_bin (ed_int (ed_int (od_pow ⟨by decide, by decide, by decide⟩ (od_sub (ad_nil (cd_max rfl (ad_cons (ed_bin (ed_bin (ed_callTy T.int (ad_cons (ed_bin (ed_bin (ed_bin (ed_bin (ed_callTy T.int (ad_cons (nm 2 (ad_nil (cd_int (ed_int (od_mod (by decide) (ed_int (od_mulS (.inr (by decide)) (ed_bin (ed_int (nm 1 (od_mulS (.inl (by decide)) (od_add (ed_int (od_add (ad_nil (cd_int (ed_int (od_mod (by decide) (ed_int (od_add (ad_nil ⟨[.int _, .int _], rfl, by simp, q _ _ ?_⟩)))))))))))))))))))))))))))))))))))))))))))))))
    constructor <;> omega
  refine sn_cons (sd_set 2 nd rfl (ed_bin (ed_bin (ed_int (nm 1 (od_mulS (.inl (by decide)) (ed_int (od_add ?_))))))))
  refine sn_cons (sd_mid (fun S' => ∃ z : Int, S' = [some (.val (.frl ns)), some (.val (.int (k : Int))), some (.val (.int z))]) ?_ (sd_if (td_cmp (nm 1 (ed_callB T.len (ad_cons (nm 0 (ad_nil (cd_lenF (od_lt (kB ?_)))))))))))
  · rintro S' ⟨z, rfl⟩
    exact rest z
  · by_cases c : k < ns.length
    · rw [decide_eq_true (by omega)]
      exact sds_cons (sd_set 2 nd rfl (ed_callB T.abs (ad_cons (ed_ixF (nm 0 (nm 1 ⟨_, k, ns[k], rfl, rfl, List.getElem?_eq_getElem c, ad_nil (cd_abs (sds_nil ⟨_, rfl⟩))⟩))))))
    · rw [decide_eq_false (by omega)]
      exact sds_nil ⟨_, rfl⟩
theorem sc_draw : FnScope ["_law_pot_here", "_law_many", "_law_digit"] ["_law_pot_here", "_law_many"] (defScope (top 32)) := ⟨rfl, rfl, rfl, by decide +kernel, rfl, by decide +kernel, by decide +kernel⟩
abbrev spDraw : SpD := fun as Q => ∃ n : Int, as = [.pot, .val (.int n)] ∧ 0 < n ∧ n < 1073741824 ∧ ∀ d : Nat, (d : Int) < n → Q (.int (d : Int))
theorem small_mul {a b : Int} (h : 0 ≤ a ∧ a < 2 ^ 31) (k : 0 ≤ b ∧ b < 2 ^ 31) : (-(2 ^ 64) < a ∧ a < 2 ^ 64) ∨ (-(2 ^ 64) < b ∧ b < 2 ^ 64) := .inl (by omega)
theorem ok_draw {f : Addr} {fd : FuncData} (F : FunS K "_law_draw" "_law_draw" (top 32) f fd) (T : Txt K mg C) : GnOk P w K mg base 1 f fd ["_law_pot_here", "_law_many"] (lift K spDraw) := by
  refine gn_dl F sc_draw (fun as Q h => by obtain ⟨n, rfl, _⟩ := h; rfl) (fun cdv A outer s H hr hG W as Q h => ?_)
  obtain ⟨n, rfl, h0, h1, q'⟩ := h
  have q : ∀ d : Int, 0 ≤ d → d < n → Q (.int d) := fun d d0 d1 => by
    have := q' d.toNat (by rw [Int.toNat_of_nonneg d0]; exact d1)
    rw [Int.toNat_of_nonneg d0] at this
    exact this
  have nd := sc_draw.nd
  refine sds_cons (sd_if (td_cmp (ed_potix (j := 0) 0 rfl rfl (by decide) fun z _ => ed_int (od_gt (kB ?_)))))
  cases decide (0 < z) with
  | true =>
    refine sds_cons (sd_asg (ed_callB T.divmod (ad_cons (ed_potix (j := 0) 0 rfl rfl (by decide) fun z _ => ad_cons (nm 1 (ad_nil (cd_divmod ⟨h0, h1⟩ ?_)))))))
    refine gd_tup rfl (gds_cons (gd_pot (j := 0) 0 rfl rfl (by decide) (fun z => absurd z (by decide)) (gds_cons (gd_name 2 nd rfl (gds_nil ?_))))) rfl
    exact sds_cons (sd_ret (nm 2 (q _ (Int.emod_nonneg _ (by omega)) (Int.emod_lt_of_pos _ h0))))
  | false =>
    refine sds_nil (sds_cons (sd_asg (ed_bin (ed_callTy T.int (ad_cons (ed_bin (ed_bin (ed_potix (j := 1) 0 rfl rfl (by decide) fun z hz => ed_int (od_mulS (.inr (by decide)) (ed_int (od_add (ad_nil (cd_int (ed_int (od_mod (by decide) ?_)))))))))))))))
    refine gd_pot (j := 1) 0 rfl rfl (by decide) (fun _ => ⟨Int.emod_nonneg _ (by decide), Int.lt_trans (Int.emod_lt_of_pos _ (by decide)) (by decide)⟩) ?_
    refine sds_cons (sd_ret (ed_bin (ed_callTy T.int (ad_cons (ed_bin (ed_bin (ed_callTy T.int (ad_cons (ed_bin (ed_potix (j := 1) 0 rfl rfl (by decide) fun y hy => ed_potix (j := 1) 0 rfl rfl (by decide) fun x hx => od_mulS (small_mul (hy rfl) (hx rfl)) (ad_nil (cd_int (ed_int (od_mod (by decide) (ed_int (od_fdiv ⟨by decide, by decide⟩ (ad_nil (cd_int (nm 1 (od_mod h0 ?_))))))))))))))))))))
    exact q _ (Int.emod_nonneg _ (by omega)) (Int.emod_lt_of_pos _ h0)
theorem sc_pick : FnScope ["_law_pot_here", "_law_some"] ["_law_pot_here", "_law_some"] (defScope (top 33)) := ⟨rfl, rfl, rfl, by decide +kernel, rfl, by decide +kernel, by decide +kernel⟩
abbrev spPick : SpD := fun as Q => ∃ l : List D, as = [.pot, .val (.lst l)] ∧ 0 < l.length ∧ l.length < 1000 ∧ ∀ d ∈ l, Q d
theorem ok_pick {f : Addr} {fd : FuncData} (F : FunS K "_law_pick" "_law_pick" (top 33) f fd) (T : Txt K mg C) (G : Df P w K mg base "_law_draw" 1 2 spDraw) : GnOk P w K mg base 2 f fd ["_law_pot_here", "_law_some"] (lift K spPick) := by
  refine gn_dl F sc_pick (fun as Q h => by obtain ⟨n, rfl, _⟩ := h; rfl) (fun cdv A outer s H hr hG W as Q h => ?_)
  obtain ⟨l, rfl, h0, h1, q⟩ := h
  refine sds_cons (sd_ret (ed_ix (nm 1 (ed_call G hr hG (ad_pot 0 rfl rfl (ad_cons (ed_callB T.len (ad_cons (nm 1 (ad_nil (cd_len (.inl rfl) (ad_nil ⟨(l.length : Int), rfl, by omega, by omega, fun d d1 => ?_⟩))))))))))))
  have hd : d < l.length := by omega
  exact ⟨l, d, l[d], .inl rfl, rfl, atI_nat (List.getElem?_eq_getElem hd), q _ (List.getElem_mem _)⟩
abbrev spLow : SpD := fun as Q => ∃ t b, as = [.val (.int t), .val (.int b)] ∧ b ≠ 0 ∧ t.natAbs < 2 ^ 8000 ∧ b.natAbs < 2 ^ 8000 ∧ Q (pr (low t b))
theorem sc_low : FnScope ["_law_top", "_law_base", "_law_one", "_law_other"] ["_law_top", "_law_base"] (defScope (top 34)) := ⟨rfl, rfl, rfl, by decide +kernel, rfl, by decide +kernel, by decide +kernel⟩
theorem ab_cast (i : Int) : (if i < 0 then -i else i) = ((i.natAbs : Nat) : Int) := by split <;> omega
theorem ok_low {f : Addr} {fd : FuncData} (F : FunS K "_law_low" "_law_low" (top 34) f fd) (T : Txt K mg C) : GnOk P w K mg base 1 f fd ["_law_top", "_law_base"] (lift K spLow) := by
  refine gn_dl F sc_low (fun as Q h => by obtain ⟨_, _, rfl, _⟩ := h; rfl) (fun cdv A outer s H hr hG W as Q h => ?_)
  obtain ⟨t, b, rfl, hb, bt, bb, k⟩ := h
  have nd := sc_low.nd
  refine sds_cons (sd_par 2 3 rfl nd rfl rfl (by decide) rfl rfl (ad_cons (ed_callB T.abs (ad_cons (nm 0 (ad_nil (cd_abs (ad_cons (ed_callB T.abs (ad_cons (nm 1 (ad_nil (cd_abs (ad_nil ⟨_, _, rfl, ?_⟩))))))))))))))
  refine sds_cons (sd_while PassesOwn.never (fun m S' => ∃ u v : Nat, v = m ∧ Nat.gcd u v = Nat.gcd t.natAbs b.natAbs ∧ S' = [some (.val (.int t)), some (.val (.int b)), some (.val (.int u)), some (.val (.int v))]) b.natAbs ⟨t.natAbs, b.natAbs, rfl, rfl, ?_⟩ ?_)
  · rw [ab_cast, ab_cast]
    rfl
  · rintro m S' ⟨u, v, rfl, hg, rfl⟩
    refine td_cmp (nm 3 (ed_int (od_gt (kB ?_))))
    by_cases c : 0 < v
    · rw [decide_eq_true (Int.natCast_pos.mpr c)]
      refine sds_cons (sd_par 2 3 rfl nd rfl rfl (by decide) rfl rfl (ad_cons (nm 3 (ad_cons (ed_bin (ed_callTy T.int (ad_cons (nm 2 (ad_nil (cd_int (nm 3 (od_mod (Int.natCast_pos.mpr c) (ad_nil ⟨_, _, rfl, sds_nil ⟨u % v, Nat.mod_lt _ c, v, u % v, rfl, ?_, rfl⟩⟩)))))))))))))
      rw [← hg, Nat.gcd_comm u v, Nat.gcd_rec v u, Nat.gcd_comm]
    · have v0 : v = 0 := by omega
      subst v0
      rw [decide_eq_false (by decide)]
      rw [Nat.gcd_zero_right] at hg
      subst hg
      refine sds_cons (sd_set 2 nd rfl (ed_ifx (td_cmp (nm 1 (ed_int (od_lt (kB ?_)))))))
      have fin : SDs (Bx P w K mg base ["_law_top", "_law_base", "_law_one", "_law_other"] "_law_low" (top 34) f cdv A outer s H) H W [some (.val (.int t)), some (.val (.int b)), some (.val (.int (gs t b))), some (.val (.int ((0 : Nat) : Int)))] ((defBody (top 34)).drop 3) { nx := fun _ => Q .non, rt := Q } := by
        have gb := gs_bd (t := t) hb bb
        have g0 := gs_ne (t := t) hb
        refine sds_cons (sd_ret (ed_tup (ad_cons (ed_bin (nm 0 (nm 2 (od_fdiv (cdivg g0 gb (by decide)) (ad_cons (ed_bin (nm 1 (nm 2 (od_fdiv (cdivg g0 gb (by decide)) (ad_nil ⟨[.int _, .int _], rfl, by simp, k⟩)))))))))))))
      by_cases p : b < 0
      · rw [decide_eq_true p]
        refine ed_neg (nm 2 ⟨_, rfl, ?_⟩)
        have e : gs t b = -(Nat.gcd t.natAbs b.natAbs : Int) := by unfold gs; rw [if_neg (by omega)]
        rw [e] at fin
        exact fin
      · rw [decide_eq_false p]
        refine nm 2 ?_
        have e : gs t b = (Nat.gcd t.natAbs b.natAbs : Int) := by unfold gs; rw [if_pos (by omega)]
        rw [e] at fin
        exact fin
theorem lowArg {n : Nat} {t b : Int} {Q : D → Prop} (hb : b ≠ 0) (h1 : t.natAbs < 2 ^ n) (h2 : b.natAbs < 2 ^ n) (hn : n ≤ 8000) (q : Q (pr (low t b))) : spLow [.val (.int t), .val (.int b)] Q :=
  ⟨t, b, rfl, hb, bd_mono h1 hn, bd_mono h2 hn, q⟩
section
variable {X : Cx} {B : Hp} {S : En} {pos pos2 : Pos} {Q : D → Prop} {o : Expr} {j2 : Option Str}
theorem at0 {a b : D} : atI [a, b] ((0 : Int)) = some a := atI_nat (j := 0) rfl
theorem at1 {a b : D} : atI [a, b] ((1 : Int)) = some b := atI_nat (j := 1) rfl
/-- o[0], o[1] of a fraction -/
theorem i0 {p : Fr} {j pos2} (h : ED X B S o fun x => x = pr p ∧ Q (.int p.1)) : ED X B S (.Subscript o (.Constant (.int 0) j pos2) pos) Q :=
  ed_ix (fun σ W H r R c => h σ W H r R fun d v W' H' s ok n ⟨e, q⟩ => c d v W' H' s ok n (ed_int ⟨[.int p.1, .int p.2], 0, .int p.1, .inr e, rfl, at0, q⟩))
theorem i1 {p : Fr} {j pos2} (h : ED X B S o fun x => x = pr p ∧ Q (.int p.2)) : ED X B S (.Subscript o (.Constant (.int 1) j pos2) pos) Q :=
  ed_ix (fun σ W H r R c => h σ W H r R fun d v W' H' s ok n ⟨e, q⟩ => c d v W' H' s ok n (ed_int ⟨[.int p.1, .int p.2], 1, .int p.2, .inr e, rfl, at1, q⟩))
end
abbrev spFF (f : Fr → Fr → Fr) : SpD := fun as Q => ∃ p q, as = [.val (pr p), .val (pr q)] ∧ Bd 3000 p ∧ Bd 3000 q ∧ Q (pr (f p q))
theorem sc_sum : FnScope ["_law_one", "_law_other"] ["_law_one", "_law_other"] (defScope (top 35)) := ⟨rfl, rfl, rfl, by decide +kernel, rfl, by decide +kernel, by decide +kernel⟩
theorem ok_sum {f : Addr} {fd : FuncData} (F : FunS K "_law_sum" "_law_sum" (top 35) f fd) (G : Df P w K mg base "_law_low" 1 2 spLow) : GnOk P w K mg base 2 f fd ["_law_one", "_law_other"] (lift K (spFF addF)) := by
  refine gn_dl F sc_sum (fun as Q h => by obtain ⟨_, _, rfl, _⟩ := h; rfl) (fun cdv A outer s H hr hG W as Q h => ?_)
  obtain ⟨p, q, rfl, hp, hq, k⟩ := h
  exact sds_cons (sd_ret (ed_call G hr hG (ad_cons (ed_bin (ed_bin (i0 (nm 0 ⟨rfl, i1 (nm 1 ⟨rfl, od_mul (cm hp.t hq.b) (ed_bin (i0 (nm 1 ⟨rfl, i1 (nm 0 ⟨rfl, od_mul (cm hq.t hp.b) (od_add (ad_cons (ed_bin (i1 (nm 0 ⟨rfl, i1 (nm 1 ⟨rfl, od_mul (cm hp.b hq.b) (ad_nil (lowArg (n := 6001) (mul_ne hp.ne hq.ne) (add_bd (mul_bd hp.t hq.b) (mul_bd hq.t hp.b)) (bd_mono (mul_bd hp.b hq.b) (by decide)) (by decide) k))⟩)⟩)))))⟩)⟩)))⟩)⟩)))))))
theorem sc_prod : FnScope ["_law_one", "_law_other"] ["_law_one", "_law_other"] (defScope (top 36)) := ⟨rfl, rfl, rfl, by decide +kernel, rfl, by decide +kernel, by decide +kernel⟩
theorem ok_prod {f : Addr} {fd : FuncData} (F : FunS K "_law_product" "_law_product" (top 36) f fd) (G : Df P w K mg base "_law_low" 1 2 spLow) : GnOk P w K mg base 2 f fd ["_law_one", "_law_other"] (lift K (spFF mulF)) := by
  refine gn_dl F sc_prod (fun as Q h => by obtain ⟨_, _, rfl, _⟩ := h; rfl) (fun cdv A outer s H hr hG W as Q h => ?_)
  obtain ⟨p, q, rfl, hp, hq, k⟩ := h
  exact sds_cons (sd_ret (ed_call G hr hG (ad_cons (ed_bin (i0 (nm 0 ⟨rfl, i0 (nm 1 ⟨rfl, od_mul (cm hp.t hq.t) (ad_cons (ed_bin (i1 (nm 0 ⟨rfl, i1 (nm 1 ⟨rfl, od_mul (cm hp.b hq.b) (ad_nil (lowArg (n := 6000) (mul_ne hp.ne hq.ne) (mul_bd hp.t hq.t) (mul_bd hp.b hq.b) (by decide) k))⟩)⟩))))⟩)⟩))))))
abbrev prq (r : Rat) : D := pr (fr r)
theorem nq_int {r : Rat} {b : Nat} (c : (fr r).2 = 1) (rb : Bq b r) : Nq C b (.int (fr r).1) r := by
  have er : (((fr r).1 : Int) : Rat) = r := by
    have h := fr_val r
    rw [c, Rat.divInt_eq_div] at h
    have h1 : (((1 : Int) : Int) : Rat) = 1 := rfl
    rw [h1] at h
    have h2 : (((fr r).1 : Int) : Rat) / 1 = (((fr r).1 : Int) : Rat) := by
      rw [Rat.div_def]
      grind
    rw [h2] at h
    exact h
  have h := Nq.int (C := C) (n := b) (fr r).1 (by rw [er]; exact rb)
  rw [er] at h
  exact h
theorem low_self (r : Rat) : low (fr r).1 (fr r).2 = fr r := by rw [low_fr (fr_ne r), fr_val]
abbrev spRat1 (C : Addr) : SpD := fun as Q => ∃ r, as = [.val (prq r)] ∧ Bq 3000 r ∧ Q (Ra C (fr r))
theorem sc_ratio : FnScope ["_law_one"] ["_law_one"] (defScope (top 37)) := ⟨rfl, rfl, rfl, by decide +kernel, rfl, by decide +kernel, by decide +kernel⟩
theorem ok_ratio {f : Addr} {fd : FuncData} (F : FunS K "_law_ratio" "_law_ratio" (top 37) f fd) (V : Rt P w K mg base C) : GnOk P w K mg base 4 f fd ["_law_one"] (lift K (spRat1 C)) := by
  refine gn_dl F sc_ratio (fun as Q h => by obtain ⟨_, rfl, _⟩ := h; rfl) (fun cdv A outer s H hr hG W as Q h => ?_)
  obtain ⟨r, rfl, rb, q⟩ := h
  refine sds_cons (sd_ret (ed_makeA V.mk2 (hr.mono (j := 3) (by decide)) hG (ad_cons (i0 (p := fr r) (nm 0 ⟨rfl, ad_cons (i1 (p := fr r) (nm 0 ⟨rfl, ad_nil (mk_ok (n := 3000) (fr_ne r) rb.t rb.b (by decide) ?_)⟩))⟩)))))
  rw [low_self]
  exact q
abbrev spHand (C : Addr) : SpD := fun as Q => ∃ b r, as = [.pot, .val (prq r)] ∧ b ≤ 1000 ∧ Bq b r ∧ ∀ d, Nq C b d r → Q d
theorem sc_hand : FnScope ["_law_pot_here", "_law_one"] ["_law_pot_here", "_law_one"] (defScope (top 38)) := ⟨rfl, rfl, rfl, by decide +kernel, rfl, by decide +kernel, by decide +kernel⟩
theorem ok_hand {f : Addr} {fd : FuncData} (F : FunS K "_law_handed" "_law_handed" (top 38) f fd) (V : Rt P w K mg base C) (G : Df P w K mg base "_law_draw" 1 2 spDraw) (RA : Df P w K mg base "_law_ratio" 4 1 (spRat1 C)) : GnOk P w K mg base 5 f fd ["_law_pot_here", "_law_one"] (lift K (spHand C)) := by
  refine gn_dl F sc_hand (fun as Q h => by obtain ⟨_, _, rfl, _⟩ := h; rfl) (fun cdv A outer s H hr hG W as Q h => ?_)
  obtain ⟨b, r, rfl, hb, rb, q⟩ := h
  have no : ED (Bx P w K mg base ["_law_pot_here", "_law_one"] "_law_handed" (top 38) f cdv A outer s H) H [some .pot, some (.val (prq r))] (match (defBody (top 38)).getD 0 (.Pass ⟨0, 0, 0, 0⟩) with | .Return (some (.IfExp _ _ e _)) _ => e | _ => .Name "" ⟨0, 0, 0, 0⟩) Q := ed_call RA (hr.mono (j := 4) (by decide)) hG (ad_cons (nm 1 (ad_nil ⟨r, rfl, rb.le (by omega), q _ (.rat r rb)⟩)))
  refine sds_cons (sd_ret (ed_ifx (td_of (tw_and (td_cmp (i1 (p := fr r) (nm 1 ⟨rfl, ed_int (od_eqi (kB ?_))⟩)))))))
  by_cases c : (fr r).2 = 1
  · rw [decide_eq_true c]
    show TW _ _ _ _ _
    refine tw_and1 (td_cmp (ed_call G (hr.mono (j := 1) (by decide)) hG (ad_pot 0 rfl rfl (ad_cons (ed_int (ad_nil ⟨2, rfl, by decide, by decide, fun d hd => ed_int (od_eqi (kB ?_))⟩))))))
    cases decide ((d : Int) = 0) with
    | true =>
      show ED _ _ _ _ _
      exact i0 (p := fr r) (nm 1 ⟨rfl, q _ (nq_int c rb)⟩)
    | false => exact no
  · rw [decide_eq_false c]
    exact no
theorem dv_nn {a b : Int} (ha : 0 ≤ a) (hb : 0 < b) : 0 ≤ Rat.divInt a b := by
  rw [Rat.divInt_eq_div, Rat.div_def]
  exact Rat.mul_nonneg (Rat.intCast_nonneg.mpr ha) (Rat.le_of_lt (Rat.inv_pos.mpr (Rat.intCast_pos.mpr hb)))
abbrev spAm : SpD := fun as Q => ∃ m : Nat, as = [.pot, .val (.int (m : Int))] ∧ m ≤ 9 ∧ ∀ r : Rat, 0 ≤ r → Bq 4 r → Q (prq r)
theorem sc_am : FnScope ["_law_pot_here", "_law_most"] ["_law_pot_here", "_law_most"] (defScope (top 39)) := ⟨rfl, rfl, rfl, by decide +kernel, rfl, by decide +kernel, by decide +kernel⟩
theorem ok_am {f : Addr} {fd : FuncData} (F : FunS K "_law_amount" "_law_amount" (top 39) f fd) (DR : Df P w K mg base "_law_draw" 1 2 spDraw) (PI : Df P w K mg base "_law_pick" 2 2 spPick) (LO : Df P w K mg base "_law_low" 1 2 spLow) : GnOk P w K mg base 3 f fd ["_law_pot_here", "_law_most"] (lift K spAm) := by
  refine gn_dl F sc_am (fun as Q h => by obtain ⟨_, rfl, _⟩ := h; rfl) (fun cdv A outer s H hr hG W as Q h => ?_)
  obtain ⟨m, rfl, m9, q⟩ := h
  refine sds_cons (sd_ret (ed_call LO (hr.mono (j := 1) (by decide)) hG ?_))
  refine ad_cons (ed_call DR (hr.mono (j := 1) (by decide)) hG (ad_pot 0 rfl rfl (ad_cons (ed_bin (nm 1 (ed_int (od_add (ad_nil ⟨(m : Int) + 1, rfl, by omega, by omega, fun d hd => ?_⟩))))))))
  refine ad_cons (ed_call PI (hr.mono (j := 2) (by decide)) hG (ad_pot 0 rfl rfl ?_))
  refine ad_cons (ed_lst ?_)
  refine ad_cons (ed_int ?_)
  refine ad_cons (ed_int ?_)
  refine ad_cons (ed_int ?_)
  refine ad_cons (ed_int ?_)
  refine ad_cons (ed_int ?_)
  refine ad_nil ⟨[.int 1, .int 1, .int 1, .int 2, .int 3], rfl, by simp, ad_nil ⟨_, rfl, by simp, by simp, fun x hx => ?_⟩⟩
  have hx2 : ∃ b : Int, x = .int b ∧ 0 < b ∧ b ≤ 3 := by
    simp only [List.mem_cons, List.not_mem_nil, or_false] at hx
    rcases hx with rfl | rfl | rfl | rfl | rfl
    · exact ⟨1, rfl, by decide, by decide⟩
    · exact ⟨1, rfl, by decide, by decide⟩
    · exact ⟨1, rfl, by decide, by decide⟩
    · exact ⟨2, rfl, by decide, by decide⟩
    · exact ⟨3, rfl, by decide, by decide⟩
  obtain ⟨b, rfl, hb, hb4⟩ := hx2
  have b0 : b ≠ 0 := by omega
  refine ad_nil (lowArg (n := 4) b0 (by show _ < 16; omega) (by show _ < 16; omega) (by decide) ?_)
  have lb := low_bd (t := (d : Int)) (n := 4) b0 (by show _ < 16; omega) (by show _ < 16; omega)
  rw [low_fr b0] at lb ⊢
  exact q _ (dv_nn (by omega) hb) lb
/-! mixed -/
theorem map_eraseIdx {α β : Type} {f : α → β} : ∀ {l : List α} {i : Nat}, (l.eraseIdx i).map f = (l.map f).eraseIdx i
  | [], _ => rfl
  | _ :: _, 0 => rfl
  | a :: l, i + 1 => by show f a :: (l.eraseIdx i).map f = f a :: (l.map f).eraseIdx i; rw [map_eraseIdx]
theorem er_perm {b : List Int} {d : Nat} (h : d < b.length) : ([b[d]] ++ b.eraseIdx d).Perm b := by
  rw [List.eraseIdx_eq_take_drop_succ]
  have e : b = b.take d ++ b[d] :: b.drop (d + 1) := by
    rw [List.getElem_cons_drop, List.take_append_drop]
  have p : (b[d] :: (b.take d ++ b.drop (d + 1))).Perm (b.take d ++ b[d] :: b.drop (d + 1)) := List.perm_middle.symm
  rw [← e] at p
  exact p
abbrev spMix : SpD := fun as Q => ∃ l : List Int, as = [.pot, .val (.lst (l.map D.int))] ∧ l.length ≤ 1000 ∧ ∀ l' : List Int, l'.Perm l → Q (.lst (l'.map D.int))
abbrev NMi : List Str := ["_law_pot_here", "_law_some", "_law_left", "_law_found"]
theorem sc_mix : FnScope NMi ["_law_pot_here", "_law_some"] (defScope (top 44)) := ⟨rfl, rfl, rfl, by decide +kernel, rfl, by decide +kernel, by decide +kernel⟩
theorem un64 {X : Cx} {k : Nat} (hr : Room k X.A) : X.A.units + 64 < cLine := by
  have := hr.units
  omega
theorem ok_mix {f : Addr} {fd : FuncData} (F : FunS K "_law_mixed" "_law_mixed" (top 44) f fd) (T : Txt K mg C) (G : Df P w K mg base "_law_draw" 1 2 spDraw) : GnOk P w K mg base 2 f fd ["_law_pot_here", "_law_some"] (lift K spMix) := by
  refine gn_dl F sc_mix (fun as Q h => by obtain ⟨n, rfl, _⟩ := h; rfl) (fun cdv A outer s H hr hG W as Q h => ?_)
  obtain ⟨l, rfl, hl, q⟩ := h
  have nd := sc_mix.nd
  refine sds_cons (sd_parOwn 2 3 (by decide) (fd_list T.list (nm 1 ⟨l.map D.int, .inl rfl, fd_lst (ad_nil ⟨[], rfl, by simp, ?_⟩)⟩)) (ps_par rfl nd rfl rfl (by decide) rfl rfl (pa_cons we_pe (pa_cons we_pe pa_nil)) (by rfl)))
  refine sds_cons (sd_while PassesOwn.never (fun m S' => ∃ a b : List Int, (a ++ b).Perm l ∧ b.length = m ∧ S' = [some .pot, some (.val (.lst (l.map D.int))), some (.own (b.map D.int)), some (.own (a.map D.int))]) l.length ⟨[], l, .refl _, rfl, rfl⟩ ?_)
  rintro m S' ⟨a, b, p, hb, rfl⟩
  have al := p.length_eq
  rw [List.length_append] at al
  refine td_neOwn0 2 b (un64 hr) rfl rfl ?_
  cases b with
  | nil =>
    show SDs _ _ _ _ _ _
    refine sds_frz 3 _ rfl ?_
    exact sds_cons (sd_ret (nm 3 (q a (by simpa using p))))
  | cons b0 bs =>
    show SDs _ _ _ _ _ _
    refine sds_cons (sd_appPop 3 2 (a.map D.int) ((b0 :: bs).map D.int) (by decide) rfl rfl (by rw [List.length_map]; omega) (ed_call G (hr.mono (j := 1) (by decide)) hG (ad_pot 0 rfl rfl (ad_cons (ed_lenOwn 2 ((b0 :: bs).map D.int) T.len rfl rfl (ad_nil ⟨(((b0 :: bs).map D.int).length : Int), rfl, by rw [List.length_map, List.length_cons]; omega, by rw [List.length_map]; omega, fun d hd => ?_⟩))))) (pe_bm PySem.F.plainAttrs_list PySem.F.slot_list_append PySem.F.type_list_append mt_append (pe_var (by rfl) (Or.inl rfl)) (pa_cons (pe_bm PySem.F.plainAttrs_list PySem.F.slot_list_pop PySem.F.type_list_pop mt_popAt (pe_var (by rfl) (Or.inl rfl)) (pa_cons DL.we_pe pa_nil)) pa_nil)) (by rfl))
    rw [List.length_map] at hd
    have hd' : d < (b0 :: bs).length := by omega
    refine ⟨d, .int (b0 :: bs)[d], rfl, by rw [List.getElem?_map, List.getElem?_eq_getElem hd']; rfl, by rw [List.length_map]; omega, sds_nil ⟨((b0 :: bs).eraseIdx d).length, ?_, a ++ [(b0 :: bs)[d]], (b0 :: bs).eraseIdx d, ?_, rfl, ?_⟩⟩
    · rw [List.length_eraseIdx_of_lt hd']
      omega
    · refine List.Perm.trans ?_ p
      rw [List.append_assoc]
      exact List.Perm.append_left a (er_perm hd')
    · rw [List.map_append, map_eraseIdx]
      rfl
end
end K85

set_option Elab.async false
set_option linter.all false
set_option maxRecDepth 100000
set_option maxHeartbeats 8000000
/-! k85: rows, permanents -/
namespace K85
open PySem L2 DL M85
theorem cd_allT {X : Cx} {Q : D → Prop} {out : List D} (hc : X.calm = true) (h : ∀ y ∈ out, y = .bl true) (q : Q (.bl true)) : CD X (.builtin "all") [.val (.lst out)] Q := by
  have e : out = (List.replicate out.length true).map D.bl := by
    rw [List.map_replicate]
    exact List.eq_replicate_iff.mpr ⟨rfl, h⟩
  rw [e]
  refine cd_all hc ?_
  have : (List.replicate out.length true).all id = true := by rw [List.all_eq_true]; intro x hx; rw [List.eq_of_mem_replicate hx]; rfl
  rw [this]
  exact q
theorem paired_get {α β : Type} {R : α → β → Prop} : ∀ {l : List α} {m : List β} {i : Nat} {x : α}, Paired R l m → l[i]? = some x → ∃ y, m[i]? = some y ∧ R x y
  | _, _, _, _, .nil, e => by simp at e
  | _, _, 0, _, .cons h _, e => by cases e; exact ⟨_, rfl, h⟩
  | _, _, i + 1, _, .cons _ t, e => paired_get (i := i) t e
theorem sg_nn {r : Rat} (h : 0 ≤ r) : 0 ≤ sgF (fr r) := by
  unfold sgF
  have : 0 ≤ (fr r).1 := Rat.num_nonneg.mpr h
  split
  · omega
  · split <;> omega
theorem num_pos {r : Rat} (h : 0 < r) : 0 < (fr r).1 := by
  have h1 : 0 ≤ r.num := Rat.num_nonneg.mpr (Rat.le_of_lt h)
  have h2 : r.num ≠ 0 := fun z => by rw [Rat.num_eq_zero.mp z] at h; exact absurd h (by decide)
  show 0 < r.num
  omega
theorem sg_pos {r : Rat} : (0 < sgF (fr r)) = (0 < r) := by
  apply propext
  unfold sgF
  constructor
  · intro h
    have n : 0 < r.num := by
      have h : 0 < (if r.num > 0 then (1 : Int) else if r.num < 0 then -1 else 0) := h
      split at h
      · assumption
      · split at h <;> omega
    refine Rat.lt_of_le_of_ne (Rat.num_nonneg.mp (by omega)) fun e => ?_
    rw [← e] at n
    exact absurd n (by decide)
  · intro h
    have n : 0 < r.num := num_pos h
    show 0 < (if r.num > 0 then (1 : Int) else if r.num < 0 then -1 else 0)
    rw [if_pos n]
    decide
theorem pS {C : Addr} {X : Cx} {B : Hp} {S : En} {pos : Pos} {Q : D → Prop} {o : Expr} {p : Fr} (T : Txt X.K X.mg C) (G : Pr X.prog X.w X.K X.mg X.base C "sign" 1 (sp1 C fun p => .int (sgF p))) (hr : Room 2 X.A) (hG : X.A.guards = some (gOf X)) (h : ED X B S o fun x => x = Ra C p ∧ Q (.int (sgF p))) (hb : attributeBase o "sign" X.env (eval o X.env) = eval o X.env := by rfl) : ED X B S (.Attribute o "sign" pos) Q :=
  ed_prop T.nu.cl G hr hG (fun σ W H r R c => h σ W H r R fun d v W' H' s ok n ⟨e, q⟩ => c d v W' H' s ok n ⟨rf p, e, p, by rw [e], q⟩) hb
theorem od_mulRR {C : Addr} {X : Cx} {Q : D → Prop} {r s : Rat} (L : Lv X.prog X.w X.K X.mg X.base C) (hr : Room 5 X.A) (hG : X.A.guards = some (gOf X)) (hx : Bq 3000 r) (hy : Bq 3000 s) (k : Q (Ra C (fr (r * s)))) : OD X (binaryOp .Mult) (Ra C (fr r)) (Ra C (fr s)) Q := by
  rw [← mulF_fr] at k
  exact od_oo (op := .Mult) L.V.T.nu L.mul hr hG ⟨_, _, _, rfl, hx, .rat _ hy, k⟩
/-! rows as functions -/
def NB (b : Nat) (fs : List Row) : Prop := ∀ f ∈ fs, ∀ c, 0 ≤ f c ∧ Bq b (f c)
theorem NB.tail {b : Nat} {f : Row} {fs : List Row} (h : NB b (f :: fs)) : NB b fs := fun g hg => h g (List.mem_cons_of_mem _ hg)
theorem NB.le {b c : Nat} {fs : List Row} (h : NB b fs) (k : b ≤ c) : NB c fs := fun f hf x => ⟨(h f hf x).1, (h f hf x).2.le k⟩
def pb (b : Nat) : Nat → Nat
  | 0 => 1
  | k + 1 => 1 + (k + 1) * (b + pb b k + 1)
theorem pb_le : ∀ b, b ≤ 13 → ∀ k, k ≤ 4 → pb b k ≤ 961 := by decide +kernel
theorem sum_take {α : Type} (g : α → Rat) {l : List α} {i : Nat} {a : α} (h : l[i]? = some a) : ((l.take (i + 1)).map g).sum = ((l.take i).map g).sum + g a := by
  rw [List.take_add_one, h, List.map_append, List.sum_append]
  show _ + (g a + 0) = _
  grind
theorem sum_bq {α : Type} {n : Nat} (g : α → Rat) : ∀ l : List α, (∀ a ∈ l, Bq n (g a)) → Bq (1 + l.length * (n + 1)) (l.map g).sum
  | [], _ => ⟨by show 0 < 2 ^ _; exact Nat.pow_pos (by decide), by show 1 < 2 ^ (1 + 0 * _); rw [Nat.zero_mul]; decide, by show (0 : Int) < 1; decide⟩
  | a :: l, h => by
    rw [List.map_cons, List.sum_cons]
    have := (h a (List.mem_cons_self ..)).add (sum_bq g l fun x hx => h x (List.mem_cons_of_mem _ hx))
    exact this.le (by rw [List.length_cons, Nat.succ_mul]; omega)
theorem per_bq {b : Nat} : ∀ (fs : List Row) (cs : List Nat), NB b fs → cs.length = fs.length → Bq (pb b fs.length) (perI fs cs)
  | [], _, _, _ => ⟨by show 1 < 2; decide, by show 1 < 2; decide, by show (0 : Int) < 1; decide⟩
  | f :: fs, cs, h, hl => by
    have : Bq (1 + cs.length * (b + pb b fs.length + 1)) (perI (f :: fs) cs) := sum_bq (n := b + pb b fs.length) (fun c => f c * perI fs (cs.erase c)) cs fun c hc => ((h f (List.mem_cons_self ..) c).2.mul (per_bq fs _ h.tail (by rw [List.length_erase_of_mem hc, hl]; rfl)))
    rw [hl] at this
    exact this
theorem erase_at : ∀ {cs : List Nat} {i c : Nat}, cs.Nodup → cs[i]? = some c → cs.eraseIdx i = cs.erase c
  | [], _, _, _, h => by simp at h
  | x :: cs, 0, c, _, h => by
    cases h
    show cs = _
    rw [List.erase_cons_head]
  | x :: cs, i + 1, c, nd, h => by
    have h' : cs[i]? = some c := h
    have m := List.mem_of_getElem? h'
    rw [List.nodup_cons] at nd
    have ne : x ≠ c := fun e => nd.1 (e ▸ m)
    show x :: cs.eraseIdx i = _
    rw [erase_at nd.2 h', List.erase_cons_tail (by simpa using ne)]
/-- rows of Ratios, rows of the law's own fractions -/
abbrev vals (fs : List Row) (cs : List Nat) : List (List Rat) := fs.map fun f => cs.map f
abbrev rowP (cs : List Nat) (f : Row) : D := .lst (cs.map fun c => prq (f c))
abbrev matP (cs : List Nat) (fs : List Row) : D := .lst (fs.map (rowP cs))
theorem rowD_eq {C : Addr} {f : Row} {cs : List Nat} : rowD C (cs.map f) = .lst (cs.map fun c => Ra C (fr (f c))) := by
  show D.lst _ = D.lst _
  rw [List.map_map]
  rfl
theorem matD_eq {C : Addr} {fs : List Row} {cs : List Nat} : matD C (vals fs cs) = .lst (fs.map fun f => .lst (cs.map fun c => Ra C (fr (f c)))) := by
  show D.lst _ = D.lst _
  rw [List.map_map]
  congr 1
  exact List.map_congr_left fun f _ => rowD_eq
def RowsN (C : Addr) (b : Nat) (l : List D) (fs : List Row) (cs : List Nat) : Prop := Paired (fun e f => ∃ le, e = .lst le ∧ Nqs C b le (cs.map f)) l fs
theorem RowsN.are {C : Addr} {b : Nat} {cs : List Nat} (hc : cs.length ≤ 1000) : ∀ {l : List D} {fs : List Row}, RowsN C b l fs cs → RowsAre C b l (vals fs cs)
  | _, _, .nil => .nil
  | _, _, .cons ⟨le, a, q⟩ t => .cons ⟨le, .inl a, q, by rw [q.len, List.length_map]; exact hc⟩ (RowsN.are hc t)
/-- a square, as it is handed -/
structure Sq (C : Addr) (b n : Nat) (d : D) (fs : List Row) (cs : List Nat) : Prop where
  rw : ∃ l, d = .lst l ∧ RowsN C b l fs cs
  lf : fs.length = n
  lc : cs.length = n
  nd : cs.Nodup
  n1 : 1 ≤ n
  n4 : n ≤ 4
  b13 : b ≤ 13
  nb : NB b fs
section
variable {P : Program} {w : World} {K : PySem.W.Frag} {mg : Str → Option Value} {base : Heap} {C : Addr}
abbrev spIfn (C : Addr) : SpD := fun as Q => ∃ wd, ∃ m : Nat, ∃ xs ws, as = [.val wd, .val (.int (m : Int))] ∧ SeqD wd xs ∧ Nqs C 1000 xs ws ∧ ws.length = m ∧ m ≤ 8 ∧ (∀ w ∈ ws, (0 : Rat) ≤ w) ∧ Q (.bl true)
theorem sc_ifn : FnScope ["value", "many", "number"] ["value", "many"] (defScope (top 16)) := ⟨rfl, rfl, rfl, by decide +kernel, rfl, by decide +kernel, by decide +kernel⟩
theorem ok_ifn {f : Addr} {fd : FuncData} (F : FunS K "is_from_nought" "is_from_nought" (top 16) f fd) (L : Lv P w K mg base C) (SG : Pr P w K mg base C "sign" 1 (sp1 C fun p => .int (sgF p))) (NU : Df P w K mg base "is_numbers" 3 2 (spNums C)) : GnOk P w K mg base 5 f fd ["value", "many"] (lift K (spIfn C)) := by
  refine gn_dl F sc_ifn (fun as Q h => by obtain ⟨_, _, _, _, rfl, _⟩ := h; rfl) (fun cdv A outer s H hr hG W as Q h => ?_)
  obtain ⟨wd, m, xs, ws, rfl, sd, pe, lw, m8, w0, q⟩ := h
  have nd := sc_ifn.nd
  have T := L.V.T
  have lx : xs.length = m := by rw [pe.len, lw]
  have sd' : SeqD wd (xs.map fun d => d) := by rw [List.map_id']; exact sd
  obtain ⟨kl, al⟩ := pe.kn
  refine sds_cons (sd_ret (ed_and (ed_call NU (hr.mono (j := 3) (by decide)) hG (ad_cons (nm 0 (ad_cons (nm 1 (ad_nil ⟨wd, _, rfl, .inr ⟨xs, sd, kl, by omega, kB ?_⟩⟩))))))))
  rw [decide_eq_true (by rw [lx]), al]
  show ED _ _ _ _ _
  refine ed_one (ed_callB T.all (ad_cons (ed_fd (fd_mp (f := fun d : D => d) (u := fun _ => .bl true) (l := xs) 2 rfl nd (own := [("number", 2)]) (blkOk_by (by show blkC ["value", "many", "number"] (defScope (top 16)) _ _ = true; decide +kernel)) (fun _ _ _ _ _ => pg_name (i := 2) nd rfl (Or.inl rfl)) (by simp) (by omega) sd' (nm 0 rfl) ?_ (ad_nil (cd_allT rfl (fun y hy => by obtain ⟨_, _, rfl⟩ := List.mem_map.mp hy; rfl) q))))))
  intro d hd s2 H0 C2 cl fp
  obtain ⟨i, hi⟩ := List.getElem?_of_mem hd
  obtain ⟨r, hr', nq⟩ := pe.get hi
  refine ed_cmp (pS T SG (hr.mono (j := 2) (by decide)) hG (ed_call L.ratof (hr.mono (j := 4) (by decide)) hG (ad_cons (nm 2 (ad_nil ⟨d, fr r, rfl, (nq.mono (by decide)).nr, rfl, ed_int (od_ge ?_)⟩)))))
  rw [decide_eq_true (sg_nn (w0 r (List.mem_of_getElem? hr')))]
abbrev spSqn (C : Addr) : SpD := fun as Q => ∃ d b n fs cs, as = [.val d] ∧ Sq C b n d fs cs ∧ Q (.bl true)
theorem sc_sqn : FnScope ["value", "row"] ["value"] (defScope (top 21)) := ⟨rfl, rfl, rfl, by decide +kernel, rfl, by decide +kernel, by decide +kernel⟩
theorem ok_sqn {f : Addr} {fd : FuncData} (F : FunS K "is_square_from_nought" "is_square_from_nought" (top 21) f fd) (T : Txt K mg C) {tk : Tok} (ml : mg "MOST_IN_SQUARE" = some (.int 5 tk)) (IL : Df P w K mg base "is_list" 1 1 (spB C isL)) (FN : Df P w K mg base "is_from_nought" 5 2 (spIfn C)) : GnOk P w K mg base 6 f fd ["value"] (lift K (spSqn C)) := by
  refine gn_dl F sc_sqn (fun as Q h => by obtain ⟨_, _, _, _, _, rfl, _⟩ := h; rfl) (fun cdv A outer s H hr hG W as Q h => ?_)
  obtain ⟨d, b, n, fs, cs, rfl, o, q⟩ := h
  have nd := sc_sqn.nd
  obtain ⟨l, rfl, ro⟩ := o.rw
  have sd : SeqD (.lst l) l := .inl rfl
  obtain ⟨kd, ild⟩ := seq_kn (C := C) sd
  have ll : l.length = n := by rw [Paired.length ro, o.lf]
  have n1 := o.n1
  have n4 := o.n4
  have b13 := o.b13
  have sd' : SeqD (.lst l) (l.map fun d => d) := by rw [List.map_id']; exact sd
  refine sds_cons (sd_if (td_of (tw_or (td_not (td_val (ed_call IL (hr.mono (j := 1) (by decide)) hG (ad_cons (nm 0 (ad_nil ⟨_, rfl, kd, kB ?_⟩)))))))))
  rw [ild]
  show TW _ _ _ _ _
  refine tw_or1 (td_not (td_chain (ed_int (ed_callB T.len (ad_cons (nm 0 (ad_nil (cd_len sd (od_le (kB ?_))))))))))
  rw [decide_eq_true (by omega)]
  show ED _ _ _ _ _
  refine ed_gint ml (od_le (kB ?_))
  rw [decide_eq_true (by omega)]
  show SDs _ _ _ _ _ _
  refine sds_nil (sds_cons (sd_ret (ed_callB T.all (ad_cons (ed_fd (fd_mp (f := fun d : D => d) (u := fun _ => .bl true) (l := l) 1 rfl nd (own := [("row", 1)]) (blkOk_by (by show blkC ["value", "row"] (defScope (top 21)) _ _ = true; decide +kernel)) (fun _ _ _ _ _ => pg_name (i := 1) nd rfl (Or.inl rfl)) (by simp) (by omega) sd' (nm 0 rfl) ?_ (ad_nil (cd_allT rfl (fun y hy => by obtain ⟨_, _, rfl⟩ := List.mem_map.mp hy; rfl) q))))))))
  intro e he s2 H0 C2 cl fp
  obtain ⟨i, hi⟩ := List.getElem?_of_mem he
  obtain ⟨f', hf', le, se, nq⟩ := paired_get ro hi
  have nf := o.nb f' (List.mem_of_getElem? hf')
  refine ed_call FN hr hG (ad_cons (nm 1 (ad_cons (ed_callB T.len (ad_cons (nm 0 (ad_nil (cd_len sd (ad_nil ⟨e, l.length, le, cs.map f', rfl, .inl se, Nqs.mono (by omega) nq, by rw [List.length_map, o.lc, ll], by omega, fun x hx => ?_, rfl⟩)))))))))
  obtain ⟨c, _, rfl⟩ := List.mem_map.mp hx
  exact (nf c).1
abbrev spCkr (C : Addr) : SpD := fun as Q => ∃ d b n fs cs, as = [.val d] ∧ Sq C b n d fs cs ∧ Q .non
theorem sc_ckr : FnScope ["rows"] ["rows"] (defScope (top 27)) := ⟨rfl, rfl, rfl, by decide +kernel, rfl, by decide +kernel, by decide +kernel⟩
theorem ok_ckr {f : Addr} {fd : FuncData} (F : FunS K "check_rows" "check_rows" (top 27) f fd) (SQ : Df P w K mg base "is_square_from_nought" 6 1 (spSqn C)) : GnOk P w K mg base 7 f fd ["rows"] (lift K (spCkr C)) := by
  refine gn_dl F sc_ckr (fun as Q h => by obtain ⟨_, _, _, _, _, rfl, _⟩ := h; rfl) (fun cdv A outer s H hr hG W as Q h => ?_)
  obtain ⟨d, b, n, fs, cs, rfl, o, q⟩ := h
  refine sds_cons (sd_if (td_not (td_val (ed_call SQ hr hG (ad_cons (nm 0 (ad_nil ⟨d, b, n, fs, cs, rfl, o, kB ?_⟩)))))))
  exact sds_nil (sds_nil q)
/-! the permanent, along the first row -/
abbrev spPer (C : Addr) (k : Nat) : SpD := fun as Q => ∃ fs cs b, as = [.val (matD C (vals fs cs))] ∧ fs.length = k ∧ cs.length = k ∧ cs.Nodup ∧ k ≤ 4 ∧ b ≤ 13 ∧ NB b fs ∧ Q (Ra C (fr (perI fs cs)))
abbrev NPe : List Str := ["rows", "parts", "place", "number", "row"]
theorem sc_per : FnScope NPe ["rows"] (defScope (top 28)) := ⟨rfl, rfl, rfl, by decide +kernel, rfl, by decide +kernel, by decide +kernel⟩
theorem sumQ_one {rs : List Rat} {r : Rat} : sumQ (rs ++ [r]) = sumQ rs + r := sumQ_snoc rs r
theorem ok_per {f : Addr} {fd : FuncData} (k : Nat) (F : FunS K "_permanent" "_permanent" (top 28) f fd) (L : Lv P w K mg base C) (en : mg "enumerate" = none) (SG : Pr P w K mg base C "sign" 1 (sp1 C fun p => .int (sgF p))) (TOT : Cm P w K mg base C "total" 7 (spTot C)) (DT : ∀ j, k = j + 1 → Df P w K mg base "_permanent" (j + 8) 1 (spPer C j)) : GnOk P w K mg base (k + 8) f fd ["rows"] (lift K (spPer C k)) := by
  refine gn_dl F sc_per (fun as Q h => by obtain ⟨_, _, _, rfl, _⟩ := h; rfl) (fun cdv A outer s H hr hG W as Q h => ?_)
  obtain ⟨fs, cs, b, rfl, lf, lc, ndc, k4, b13, nb, q⟩ := h
  have nd := sc_per.nd
  have T := L.V.T
  have lv : (vals fs cs).length = k := by rw [List.length_map, lf]
  refine sds_cons (sd_if (td_cmp (ed_callB T.len (ad_cons (nm 0 (ad_nil (cd_len (l := (vals fs cs).map (rowD C)) (.inl rfl) (ed_int (od_eqi (kB ?_))))))))))
  rw [List.length_map, lv]
  cases fs with
  | nil =>
    have : k = 0 := lf.symm
    subst this
    show SDs _ _ _ _ _ _
    refine sds_cons (sd_ret (ed_make L.V.mk1 (hr.mono (j := 3) (by omega)) hG (ad_cons (ed_int (ad_nil (mk_ok (n := 1) (t := 1) (b := 1) (by decide) (by decide) (by decide) (by decide) ?_))))))
    rw [low_one]
    exact q
  | cons f' fs =>
    obtain ⟨k, rfl⟩ : ∃ j, k = j + 1 := ⟨fs.length, lf.symm⟩
    have lf' : fs.length = k := Nat.succ.inj lf
    rw [decide_eq_false (by omega)]
    show SDs _ _ _ _ _ _
    have nf := nb f' (List.mem_cons_self ..)
    have pk := pb_le b b13 k (by omega)
    refine sds_nil (sds_cons (sd_own 1 nd rfl (fd_lst (ad_nil ⟨[], rfl, by simp, ?_⟩))))
    have bq : ∀ c, c ∈ cs → Bq (b + pb b k) (f' c * perI fs (cs.erase c)) := fun c hc => (nf c).2.mul (by have := per_bq fs (cs.erase c) nb.tail (by rw [List.length_erase_of_mem hc, lc, lf']; rfl); rw [lf'] at this; exact this)
    refine sds_cons (sd_forE (l := cs.map fun c => Ra C (fr (f' c))) PassesOwn.never rfl en (fun i S' => ∃ o2 o3, ∃ rs : List Rat, S' = [some (.val (matD C (vals (f' :: fs) cs))), some (.own (rs.map fun r => Ra C (fr r))), o2, o3, none] ∧ rs.length ≤ i ∧ (∀ r ∈ rs, Bq (b + pb b k) r) ∧ sumQ rs = ((cs.take i).map fun c => f' c * perI fs (cs.erase c)).sum) (ad_cons (ed_ix (nm 0 (ed_int ⟨(vals (f' :: fs) cs).map (rowD C), 0, rowD C (cs.map f'), .inl rfl, rfl, atI_nat (xs := (vals (f' :: fs) cs).map (rowD C)) (j := 0) (by rfl), ad_nil ⟨by rw [rowD_eq], none, none, [], rfl, by simp, by simp, rfl⟩⟩)))) ?_ ?_)
    · rintro i d S' hi ⟨o2, o3, rs, rfl, lrs, brs, es⟩
      rw [List.getElem?_map] at hi
      obtain ⟨c, hc, rfl⟩ := Option.map_eq_some_iff.mp hi
      obtain ⟨il, ec⟩ := List.getElem?_eq_some_iff.mp hc
      have cm' := List.mem_of_getElem? hc
      refine gd_tup rfl (gds_cons (gd_name 2 nd rfl (gds_cons (gd_name 3 nd rfl (gds_nil ?_))))) rfl
      refine sds_cons (sd_if (td_cmp (pS T SG (hr.mono (j := 2) (by omega)) hG (nm 3 ⟨rfl, ed_int (od_gt (kB ?_))⟩))))
      have st := sum_take (fun c => f' c * perI fs (cs.erase c)) hc
      by_cases z : 0 < f' c
      · rw [decide_eq_true (by rw [sg_pos]; exact z)]
        show SDs _ _ _ _ _ _
        refine sds_cons (sd_append 1 (rs.map fun r => Ra C (fr r)) rfl rfl (by rw [List.length_map]; omega) (ed_bin (nm 3 (ed_call (DT k rfl) hr hG (ad_cons (ed_fd (fd_mp (f := fun g : Row => rowD C (cs.map g)) (u := fun g => rowD C ((cs.erase c).map g)) (l := fs) 4 rfl nd (own := [("row", 4)]) (blkOk_by (by show blkC NPe (defScope (top 28)) _ _ = true; decide +kernel)) (fun _ _ _ _ _ => pg_name (i := 4) nd rfl (Or.inl rfl)) (by simp) (by omega) (.inl rfl) (ed_slLF (nm 0 (ed_int ⟨(vals (f' :: fs) cs).map (rowD C), 1, rfl, rfl, by simp; omega, ?_⟩))) ?_ (ad_nil ⟨fs, cs.erase c, b, ?_, lf', by rw [List.length_erase_of_mem cm', lc]; rfl, ndc.erase c, by omega, b13, nb.tail, ?_⟩))))))))
        · show D.lst (((vals fs cs)).map (rowD C)) = _
          rw [List.map_map]
          rfl
        · intro g hg s2 H0 C2 cl fp
          refine ed_bin (ed_slLT (nm 4 (nm 2 ⟨(cs.map g).map fun r => Ra C (fr r), (i : Int), rfl, rfl, .inl ⟨i, rfl, ed_slLF (nm 4 (ed_bin (nm 2 (ed_int (od_add ⟨(cs.map g).map fun r => Ra C (fr r), i + 1, rfl, rfl, by rw [List.length_map, List.length_map]; omega, od_catL (l := ((cs.map g).map fun r => Ra C (fr r)).take i) ?_ ?_⟩)))))⟩⟩)))
          · rw [List.length_take, List.length_drop, List.length_map, List.length_map]
            omega
          · show D.lst _ = D.lst _
            rw [← erase_at ndc hc, map_eraseIdx, map_eraseIdx, List.eraseIdx_eq_take_drop_succ]
        · show [Sl.val (D.lst _)] = [Sl.val (D.lst _)]
          rw [List.map_map]
          rfl
        · have bp : Bq (pb b k) (perI fs (cs.erase c)) := by have := per_bq fs (cs.erase c) nb.tail (by rw [List.length_erase_of_mem cm', lc, lf']; rfl); rw [lf'] at this; exact this
          refine od_mulRR L (hr.mono (j := 5) (by omega)) hG ((nf c).2.le (by omega)) (bp.le (by omega)) (sds_nil ?_)
          refine sds_nil ⟨some (.val (.int (i : Int))), some (.val (Ra C (fr (f' c)))), rs ++ [f' c * perI fs (cs.erase c)], by rw [List.map_append]; rfl, by rw [List.length_append, List.length_singleton]; omega, fun r hr2 => ?_, ?_⟩
          · rcases List.mem_append.mp hr2 with h | h
            · exact brs r h
            · rw [List.mem_singleton.mp h]
              exact bq c cm'
          · rw [sumQ_one, es, st]
      · rw [decide_eq_false (by rw [sg_pos]; exact z)]
        show SDs _ _ _ _ _ _
        refine sds_nil (sds_nil ⟨some (.val (.int (i : Int))), some (.val (Ra C (fr (f' c)))), rs, rfl, by omega, brs, ?_⟩)
        have z0 : f' c = 0 := by have := (nf c).1; grind
        rw [st, es, z0, Rat.zero_mul, Rat.add_zero]
    · rintro S' ⟨o2, o3, rs, rfl, lrs, brs, es⟩
      rw [List.length_map] at lrs es
      rw [List.take_length] at es
      refine sds_frz 1 _ rfl ?_
      refine sds_cons (sd_ret (ed_cmeth TOT (hr.mono (j := 7) (by omega)) hG (ed_cls T.mC ⟨rfl, ad_cons (nm 1 (ad_nil ⟨.lst (rs.map fun r => Ra C (fr r)), rs.map fun r => Ra C (fr r), rs, b + pb b k, rfl, .inl rfl, Nqs.rats brs, ?_, ?_⟩))⟩)))
      · rw [List.length_map]
        have p2 := pb_le b b13 (k + 1) k4
        have e : pb b (k + 1) = 1 + (k + 1) * (b + pb b k + 1) := rfl
        have : (b + pb b k + 1) * rs.length ≤ (b + pb b k + 1) * (k + 1) := Nat.mul_le_mul_left _ (by omega)
        rw [Nat.mul_comm (b + pb b k + 1) (k + 1)] at this
        omega
      · rw [es]
        exact q
end
end K85

set_option Elab.async false
set_option linter.all false
set_option maxRecDepth 100000
set_option maxHeartbeats 8000000
/-! [elt for i, x in enumerate(a list)] -/
namespace DL
open PySem PySem.Spec PyProof.Rows L2
section
variable {X : Cx} {B : Hp} {W0 : Wd} {S : En} {pos px p p1 tpos py : Pos} {e elt : Expr} {x y : Str} {kk : Nat} {scope : Scope} {own : List (Str × Nat)} {α : Type} {f : α → D} {l : List α} {u : Nat → α → D} {Q : List D → Prop}
theorem fd_mpE (i j : Nat) (hc : X.calm = true) (hN : X.N.Nodup) (hm : X.mg "enumerate" = none) (ok : BlkOk X.N X.env.scope scope own) (hg : AllBlk X scope fun Y => PG Y (.Tuple [.Name x px, .Name y py] kk tpos) (gTup X.K 2 (gCons (gName i) (gCons (gName j) gNil))))
    (h : AD X B S [e] fun as => as = [.val (.lst (l.map f))]) (hl : l.length ≤ 50000) (hi : i ∈ own.map (·.2)) (hj : j ∈ own.map (·.2))
    (he : ∀ (n : Nat) a, l[n]? = some a → AllBlk X scope fun Y => ED Y B ((itE S own i (.int (n : Int))).set j (some (.val (f a)))) elt fun z => z = u n a)
    (q : Q (l.mapIdx u)) (hgl : Gl X "enumerate" := by rfl) (hst : starEach [e] X.env = [(false, eval e X.env)] := by rfl)
    (hs : ∀ x, foldedSetIterable (.Call (.Name "enumerate" p) [e] [] p1) X.env x = pure x := by intro _; rfl) : FD X B S (.ListComp elt [⟨.Tuple [.Name x px, .Name y py] kk tpos, .Call (.Name "enumerate" p) [e] [] p1, [], 0⟩] scope pos) Q := fun σ W H r R k => by
  refine PE.w (pe_lc (te := WEb X scope elt) hc hN (pi_enum hgl hm wa_pa hst) ok hg (fun _ _ _ _ _ => pts_nil) web_pe hs) ?_
  refine h σ W H r _ fun as vs W1 H1 s1 ok1 n1 q1 => ?_
  subst q1
  obtain ⟨v, rfl, m⟩ := one_arg n1
  cases m with
  | @lst _ a xs ha m =>
    have hlw := m.length
    rw [List.length_map] at hlw
    refine ⟨a, xs, rfl, SqL.of (ok1.ex _ _ ha), fun p hp0 => ?_⟩
    have r1 := r.step s1 ok1
    refine lc_it walk_enum (fun i H' => ∃ acc W', Mid X.K (gOf X) W1 H1 p acc W' H' ∧ acc.length = i ∧ acc = (l.take i).mapIdx u) ⟨[], W1, ⟨Stp.own hp0, ok1.own hp0, ok1.notP hp0, ok1.free hp0, [], upd_same, .nil⟩, rfl, rfl⟩
      (fun i H' _ ⟨acc, W', mm, _⟩ => SqL.of (mm.ok.ex _ _ (mm.st.I _ _ ha))) ?_ ?_
    · rintro n y H' H2 hn ⟨acc, W', mm, hl2, j2⟩ ⟨T, x1, x2, rfl, hT, rfl, ex1, ex2⟩
      obtain ⟨d, hd', nd⟩ := m.get ex2
      cases ex1
      rw [List.getElem?_map] at hd'
      obtain ⟨b, hb, rfl⟩ := Option.map_eq_some_iff.mp hd'
      have sn := Stp.new (o := .tup [.int (n : Nat), x2]) mm.ok hT
      have okn := mm.ok.new (o := .tup [.int (n : Nat), x2]) hT
      have mn := mm.step sn okn
      have nt : Dn X.K (W'.new T (.tup [.int (n : Nat), x2])).I (.tup [.int (n : Int), f b]) (.ref T) := .tup upd_same (.cons (.int _) (.cons ((nd.mono mm.st.I).mono sn.I) .nil))
      refine pat_two i j hi hj (gOf X) B σ _ _ _ ((r1.step mm.st mm.ok).step sn okn) nt _ fun σ2 e3 r3 => ⟨e3, ?_⟩
      show WEb X scope elt σ2 _ _
      intro s H0 C cl fp
      refine he n b hb s H0 C cl fp σ2 _ _ r3 _ fun y v W2 H3 s2 ok2 n2 q2 => ?_
      have li : n < l.length := (List.getElem?_eq_some_iff.mp hb).1
      obtain ⟨xs', g1, g3, m3⟩ := (mn.step s2 ok2).more hp0 n2 (by omega)
      refine ⟨xs', g1, g3, _, W2, m3, by simp [hl2], ?_⟩
      rw [q2, j2, List.take_add_one, hb]
      show _ = (l.take n ++ [b]).mapIdx u
      rw [List.mapIdx_append]
      have : (l.take n).length = n := by rw [List.length_take]; omega
      simp [this]
    · rintro H' ⟨acc, W', mm, hl2, j2⟩
      obtain ⟨ys, hH, ds⟩ := mm.h
      rw [← hlw, List.take_length] at j2
      exact k acc p ys W' H' (s1.trans ok1 mm.st) mm.ok (s1.free ok1 hp0) mm.n mm.i hH ds (by rw [j2]; exact q)
/-- [elt for x in a list], by a relation -/
theorem fd_rl {iter : Expr} {d0 : D} (R : α → D → Prop) (j : Nat) (hc : X.calm = true) (hN : X.N.Nodup) (ok : BlkOk X.N X.env.scope scope own) (hg : AllBlk X scope fun Y => PG Y (.Name x px) (gName j)) (hj : j ∈ own.map (·.2)) (hl : l.length ≤ 50000) (sd : SeqD d0 (l.map f)) (hit : ED X B S iter fun d => d = d0)
    (he : ∀ a ∈ l, AllBlk X scope fun Y => ED Y B (itE S own j (f a)) elt (R a)) (hd : ∀ out : List D, Paired R l out → Q out) (hs : ∀ x, foldedSetIterable iter X.env x = pure x := by intro _; rfl) : FD X B S (.ListComp elt [⟨.Name x px, iter, [], 0⟩] scope pos) Q := by
  have step : ∀ (i : Nat) d acc, (l.map f)[i]? = some d → acc.length = i → Paired R (l.take i) acc → AllBlk X scope fun Y => ED Y B (itE S own j d) elt fun y => Paired R (l.take (i + 1)) (acc ++ [y]) := by
    intro i d acc hi _ ha s H0 C cl fp
    rw [List.getElem?_map] at hi
    obtain ⟨a, h1, rfl⟩ := Option.map_eq_some_iff.mp hi
    refine ed_imp (he a (List.mem_of_getElem? h1) s H0 C cl fp) fun y ey => ?_
    rw [List.take_add_one, h1]
    exact Paired.snoc ey ha
  have fin : ∀ acc : List D, acc.length = (l.map f).length → Paired R (l.take (l.map f).length) acc → Q acc := by
    intro acc _ e
    rw [List.length_map, List.take_length] at e
    exact hd acc e
  have hl' : (l.map f).length ≤ 50000 := by rw [List.length_map]; exact hl
  rcases sd with rfl | rfl
  · exact fd_lcL (fun i acc => Paired R (l.take i) acc) (fun d => itE S own j d) hc hN ok hg (ed_imp hit fun d e => ⟨e, hl', .nil⟩) (fun d _ => pat_name j hj) step fin hs
  · exact fd_lcT (fun i acc => Paired R (l.take i) acc) (fun d => itE S own j d) hc hN ok hg (ed_imp hit fun d e => ⟨e, hl', .nil⟩) (fun d _ => pat_name j hj) step fin hs
end
end DL

set_option Elab.async false
set_option linter.all false
set_option maxRecDepth 100000
set_option maxHeartbeats 8000000
/-! k85: permanent, twin_slack -/
namespace K85
open PySem L2 DL M85
theorem Sq.are {C : Addr} {b n : Nat} {d : D} {fs : List Row} {cs : List Nat} (o : Sq C b n d fs cs) : ∃ l, SeqD d l ∧ RowsAre C 3000 l (vals fs cs) ∧ l.length ≤ 1000 := by
  obtain ⟨l, rfl, ro⟩ := o.rw
  have n4 := o.n4
  have b13 := o.b13
  exact ⟨l, .inl rfl, (ro.are (by rw [o.lc]; omega)).mono (by omega), by rw [Paired.length ro, o.lf]; omega⟩
theorem Sq.bq {C : Addr} {b n : Nat} {d : D} {fs : List Row} {cs : List Nat} (o : Sq C b n d fs cs) : Bq 961 (perI fs cs) := by
  have := per_bq fs cs o.nb (by rw [o.lf, o.lc])
  rw [o.lf] at this
  exact this.le (pb_le b o.b13 n o.n4)
def setR (fs : List Row) (p o : Nat) : List Row := fs.set o (fs.getD p fun _ => 0)
def slackQ (fs : List Row) (cs : List Nat) (i j : Nat) : Rat := perI fs cs * perI fs cs - perI (setR fs i j) cs * perI (setR fs j i) cs
theorem mapIdx_set {α : Type} (x : α) (o : Nat) (l : List α) : l.mapIdx (fun n a => if n = o then x else a) = l.set o x := by
  refine List.ext_getElem? fun i => ?_
  rw [List.getElem?_mapIdx, List.getElem?_set]
  by_cases c : o = i
  · subst c
    rw [if_pos rfl]
    by_cases lt : o < l.length
    · rw [if_pos lt, List.getElem?_eq_getElem lt]
      show some (if o = o then _ else _) = _
      rw [if_pos rfl]
    · rw [if_neg lt, List.getElem?_eq_none (by omega)]
      rfl
  · rw [if_neg c]
    cases e : l[i]? with
    | none => rfl
    | some a =>
      show some (if i = o then _ else _) = _
      rw [if_neg fun z => c z.symm]
theorem paired_set {α β : Type} {R : α → β → Prop} {x : α} {y : β} (h : R x y) : ∀ {l : List α} {m : List β} (i : Nat), Paired R l m → Paired R (l.set i x) (m.set i y)
  | _, _, _, .nil => .nil
  | _, _, 0, .cons _ t => .cons h t
  | _, _, i + 1, .cons a t => .cons a (paired_set h i t)
theorem Sq.set {C : Addr} {b n : Nat} {d : D} {l : List D} {fs : List Row} {cs : List Nat} {p o : Nat} {x : D} (s : Sq C b n d fs cs) (hd : d = .lst l) (hp : p < n) (hx : l[p]? = some x) : Sq C b n (.lst (l.set o x)) (setR fs p o) cs := by
  obtain ⟨l', e, ro⟩ := s.rw
  rw [hd] at e
  cases e
  obtain ⟨f, hf, pf⟩ := paired_get ro hx
  have ef : fs.getD p (fun _ => 0) = f := by rw [List.getD_eq_getElem?_getD, hf]; rfl
  refine ⟨⟨_, rfl, ?_⟩, by unfold setR; rw [List.length_set, s.lf], s.lc, s.nd, s.n1, s.n4, s.b13, fun g hg => ?_⟩
  · unfold setR
    rw [ef]
    exact paired_set pf o ro
  · unfold setR at hg
    rw [ef] at hg
    rcases List.mem_or_eq_of_mem_set hg with h | h
    · exact s.nb g h
    · rw [h]; exact s.nb f (List.mem_of_getElem? hf)
section
variable {P : Program} {w : World} {K : PySem.W.Frag} {mg : Str → Option Value} {base : Heap} {C : Addr}
abbrev spPerm (C : Addr) : SpD := fun as Q => ∃ d b n fs cs, as = [.val d] ∧ Sq C b n d fs cs ∧ Q (Ra C (fr (perI fs cs)))
theorem sc_perm : FnScope ["rows"] ["rows"] (defScope (top 25)) := ⟨rfl, rfl, rfl, by decide +kernel, rfl, by decide +kernel, by decide +kernel⟩
theorem ok_perm {f : Addr} {fd : FuncData} (F : FunS K "permanent" "permanent" (top 25) f fd) (CK : Df P w K mg base "check_rows" 7 1 (spCkr C)) (RR : Df P w K mg base "ratio_rows" 6 1 (spRows C)) (PE : ∀ k, k ≤ 4 → Df P w K mg base "_permanent" (k + 8) 1 (spPer C k)) : GnOk P w K mg base 13 f fd ["rows"] (lift K (spPerm C)) := by
  refine gn_dl F sc_perm (fun as Q h => by obtain ⟨_, _, _, _, _, rfl, _⟩ := h; rfl) (fun cdv A outer s H hr hG W as Q h => ?_)
  obtain ⟨d, b, n, fs, cs, rfl, o, q⟩ := h
  obtain ⟨l, sd, ra, l1⟩ := o.are
  have n4 := o.n4
  refine sds_cons (sd_expr (ed_call CK (hr.mono (j := 7) (by decide)) hG (ad_cons (nm 0 (ad_nil ⟨d, b, n, fs, cs, rfl, o, ?_⟩)))))
  exact sds_cons (sd_ret (ed_call (PE n n4) (hr.mono (j := n + 8) (by omega)) hG (ad_cons (ed_call RR (hr.mono (j := 6) (by decide)) hG (ad_cons (nm 0 (ad_nil ⟨d, l, _, rfl, sd, ra, l1, ad_nil ⟨fs, cs, b, rfl, o.lf, o.lc, o.nd, n4, o.b13, o.nb, q⟩⟩)))))))
abbrev spWt (C : Addr) : SpD := fun as Q => ∃ d b n fs cs, ∃ p o : Nat, as = [.val d, .val (.int (p : Int)), .val (.int (o : Int))] ∧ Sq C b n d fs cs ∧ p < n ∧ o < n ∧ Q (Ra C (fr (perI (setR fs p o) cs)))
abbrev NWt : List Str := ["rows", "place", "other", "at", "row"]
theorem sc_wt : FnScope NWt ["rows", "place", "other"] (defScope (top 29)) := ⟨rfl, rfl, rfl, by decide +kernel, rfl, by decide +kernel, by decide +kernel⟩
theorem ok_wt {f : Addr} {fd : FuncData} (F : FunS K "_with_twin" "_with_twin" (top 29) f fd) (en : mg "enumerate" = none) (PM : Df P w K mg base "permanent" 13 1 (spPerm C)) : GnOk P w K mg base 14 f fd ["rows", "place", "other"] (lift K (spWt C)) := by
  refine gn_dl F sc_wt (fun as Q h => by obtain ⟨_, _, _, _, _, _, _, rfl, _⟩ := h; rfl) (fun cdv A outer s H hr hG W as Q h => ?_)
  obtain ⟨d, b, n, fs, cs, p, o, rfl, sq, hp, ho, q⟩ := h
  have nd := sc_wt.nd
  obtain ⟨l, rfl, ro⟩ := sq.rw
  have n4 := sq.n4
  have ll : l.length = n := by rw [Paired.length ro, sq.lf]
  have hx : l[p]? = some (l[p]'(by omega)) := List.getElem?_eq_getElem _
  refine sds_cons (sd_ret (ed_call PM hr hG (ad_cons (ed_fd (fd_mpE (f := fun d : D => d) (l := l) (u := fun k a => if k = o then l[p]'(by omega) else a) 3 4 rfl nd en (own := [("at", 3), ("row", 4)]) (blkOk_by (by show blkC NWt (defScope (top 29)) _ _ = true; decide +kernel)) (fun _ _ _ _ _ => pg_tup rfl (pgs_cons (pg_name (i := 3) nd rfl (Or.inl rfl)) (pgs_cons (pg_name (i := 4) nd rfl (Or.inl rfl)) pgs_nil rfl) rfl) rfl) (ad_cons (nm 0 (ad_nil (by rw [List.map_id'])))) (by omega) (by simp) (by simp) ?_ ?_)))))
  · intro k a hk s2 H0 C2 cl fp
    refine ed_ifx (td_cmp (nm 3 (nm 2 (od_eqi (kB ?_)))))
    by_cases c : k = o
    · rw [decide_eq_true (by omega)]
      show ED _ _ _ _ _
      exact ed_ix (nm 0 (nm 1 ⟨l, (p : Int), _, .inl rfl, rfl, atI_nat hx, by rw [if_pos c]⟩))
    · rw [decide_eq_false (by omega)]
      show ED _ _ _ _ _
      exact nm 4 (by rw [if_neg c])
  · rw [mapIdx_set]
    exact ad_nil ⟨_, b, n, setR fs p o, cs, rfl, sq.set rfl hp hx, q⟩
abbrev spTws (C : Addr) : SpD := fun as Q => ∃ d b n fs cs, ∃ i j : Nat, as = [.val d, .val (.int (i : Int)), .val (.int (j : Int))] ∧ Sq C b n d fs cs ∧ i < n ∧ j < n ∧ i ≠ j ∧ Q (Ra C (fr (slackQ fs cs i j)))
abbrev NTw : List Str := ["rows", "first", "second", "position", "both"]
theorem sc_tws : FnScope NTw ["rows", "first", "second"] (defScope (top 26)) := ⟨rfl, rfl, rfl, by decide +kernel, rfl, by decide +kernel, by decide +kernel⟩
theorem ok_tws {f : Addr} {fd : FuncData} (F : FunS K "twin_slack" "twin_slack" (top 26) f fd) (L : Lv P w K mg base C) (IC : Df P w K mg base "is_count" 2 1 (spB C isC)) (CK : Df P w K mg base "check_rows" 7 1 (spCkr C)) (PM : Df P w K mg base "permanent" 13 1 (spPerm C)) (WT : Df P w K mg base "_with_twin" 14 3 (spWt C)) : GnOk P w K mg base 15 f fd ["rows", "first", "second"] (lift K (spTws C)) := by
  refine gn_dl F sc_tws (fun as Q h => by obtain ⟨_, _, _, _, _, _, _, rfl, _⟩ := h; rfl) (fun cdv A outer s H hr hG W as Q h => ?_)
  obtain ⟨d, b, n, fs, cs, i, j, rfl, sq, hi, hj, ne, q⟩ := h
  have nd := sc_tws.nd
  have T := L.V.T
  obtain ⟨l, rfl, ro⟩ := sq.rw
  have ll : l.length = n := by rw [Paired.length ro, sq.lf]
  refine sds_cons (sd_expr (ed_call CK (hr.mono (j := 7) (by decide)) hG (ad_cons (nm 0 (ad_nil ⟨_, b, n, fs, cs, rfl, sq, ?_⟩)))))
  refine sds_cons (sd_forT (l := [.int (i : Int), .int (j : Int)]) PassesOwn.never rfl (fun _ S' => ∃ v, S' = [some (.val (.lst l)), some (.val (.int (i : Int))), some (.val (.int (j : Int))), v, none]) (ed_tup (ad_cons (nm 1 (ad_cons (nm 2 (ad_nil ⟨[.int (i : Int), .int (j : Int)], rfl, by simp, rfl, none, rfl⟩)))))) ?_ ?_)
  · rintro k d S' hk ⟨v, rfl⟩
    have hd : ∃ m : Nat, d = .int (m : Int) ∧ m < n := by
      rcases k with _ | _ | k
      · cases hk; exact ⟨i, rfl, hi⟩
      · cases hk; exact ⟨j, rfl, hj⟩
      · simp at hk
    obtain ⟨m, rfl, hm⟩ := hd
    refine gd_name 3 nd rfl (sds_cons (sd_if (td_of (tw_or (td_not (td_val (ed_call IC (hr.mono (j := 2) (by decide)) hG (ad_cons (nm 3 (ad_nil ⟨_, rfl, .int _, kB ?_⟩))))))))))
    rw [show isC (.int (m : Int)) = true by
      show decide (0 ≤ (m : Int)) = true
      exact decide_eq_true (by omega)]
    show TW _ _ _ _ _
    refine tw_or1 (td_cmp (nm 3 (ed_callB T.len (ad_cons (nm 0 (ad_nil (cd_len (l := l) (.inl rfl) (od_ge (kB ?_)))))))))
    rw [decide_eq_false (by omega)]
    exact sds_nil (sds_nil ⟨_, rfl⟩)
  · rintro S' ⟨v, rfl⟩
    refine sds_cons (sd_if (td_cmp (nm 1 (nm 2 (od_eqi (kB ?_))))))
    rw [decide_eq_false (by omega)]
    show SDs _ _ _ _ _ _
    refine sds_nil (sds_cons (sd_set 4 nd rfl (ed_call PM (hr.mono (j := 13) (by decide)) hG (ad_cons (nm 0 (ad_nil ⟨_, b, n, fs, cs, rfl, sq, ?_⟩))))))
    have x1 : l[i]? = some (l[i]'(by omega)) := List.getElem?_eq_getElem _
    have x2 : l[j]? = some (l[j]'(by omega)) := List.getElem?_eq_getElem _
    have b0 := sq.bq
    have b1 := (sq.set (o := j) rfl hi x1).bq
    have b2 := (sq.set (o := i) rfl hj x2).bq
    have r5 := hr.mono (j := 5) (by decide)
    refine sds_cons (sd_ret (ed_bin (ed_bin (nm 4 (nm 4 (od_mulRR L r5 hG (b0.le (by decide)) (b0.le (by decide)) ?_))))))
    refine ed_bin (ed_call WT (hr.mono (j := 14) (by decide)) hG (ad_cons (nm 0 (ad_cons (nm 1 (ad_cons (nm 2 (ad_nil ⟨_, b, n, fs, cs, i, j, rfl, sq, hi, hj, ?_⟩))))))))
    refine ed_call WT (hr.mono (j := 14) (by decide)) hG (ad_cons (nm 0 (ad_cons (nm 2 (ad_cons (nm 1 (ad_nil ⟨_, b, n, fs, cs, j, i, rfl, sq, hj, hi, ?_⟩)))))))
    exact od_mulRR L r5 hG (b1.le (by decide)) (b2.le (by decide)) (od_subQ L (hr.mono (j := 6) (by decide)) hG ((b0.mul b0).le (by decide)) (.rat _ ((b1.mul b2).le (by decide))) q)
end
end K85

set_option Elab.async false
set_option linter.all false
set_option maxRecDepth 100000
set_option maxHeartbeats 8000000
/-! k85: the law's own rows and choices -/
namespace K85
open PySem L2 DL M85
theorem sds_st {X : Cx} {B : Hp} {W0 : Wd} {S S' : En} {sts : List Stmt} {E : Ends'} (e : S = S') (k : SDs X B W0 S' sts E) : SDs X B W0 S sts E := e ▸ k
theorem relab {c : Str → NameKind → Bool} {x : Str} {k : NameKind} : ∀ {l : List (Str × NameKind)}, l.lookup x = some k → (l.map fun (n, k) => if c n k = true then (n, NameKind.cell) else (n, k)).lookup x = some k ∨ (l.map fun (n, k) => if c n k = true then (n, NameKind.cell) else (n, k)).lookup x = some .cell
  | [], h => by simp at h
  | (n, k') :: l, h => by
    rw [List.map_cons]
    by_cases e : x == n
    · rw [List.lookup_cons, e] at h
      cases h
      by_cases cc : c n k = true
      · simp only [cc, if_true]
        right
        rw [List.lookup_cons, e]
      · simp only [cc]
        left
        show List.lookup x ((n, k) :: _) = _
        rw [List.lookup_cons, e]
    · have e' : (x == n) = false := by simpa using e
      rw [List.lookup_cons, e'] at h
      have := relab (c := c) (l := l) h
      by_cases cc : c n k' = true
      · simp only [cc, if_true]
        rw [List.lookup_cons, e']
        exact this
      · simp only [cc]
        show List.lookup x ((n, k') :: _) = _ ∨ List.lookup x ((n, k') :: _) = _
        rw [List.lookup_cons, e']
        exact this
theorem blkOk_in {N : List Str} {scope scope' : Scope} {own : List (Str × Nat)} {cl : List (Str × Addr)} {a : Addr} {env : Env} (h : BlkOk N scope scope' own) : BlkOk N (compEnvC scope cl a env).scope scope' own :=
  ⟨h.kind, h.uniq, h.ix, fun y hy e => by
    rcases h.free y hy e with k | k
    · rcases relab (c := fun n k => k == NameKind.free && env.scope.kind == .function && env.kindOf n == some .cell) k with z | z
      · exact .inl z
      · exact .inl z
    · rcases relab (c := fun n k => k == NameKind.free && env.scope.kind == .function && env.kindOf n == some .cell) k with z | z
      · exact .inr z
      · exact .inl z, h.own⟩
def pq (r : Rat) : List Int := [(fr r).1, (fr r).2]
theorem rowP_tI (cs : List Nat) (f : Row) : rowP cs f = .lst ((cs.map fun c => pq (f c)).map tI) := by
  show D.lst _ = D.lst _
  rw [List.map_map]
  rfl
def rowY (cs : List Nat) (f : Row) : PyData := .list ((cs.map fun c => pq (f c)).map pI)
theorem pyd_row (cs : List Nat) (f : Row) : PyD (rowP cs f) (rowY cs f) := by
  rw [rowP_tI]
  exact .lst (pyd_tIs _)
theorem pyd_rows (cs : List Nat) : ∀ fs : List Row, PyDs (fs.map (rowP cs)) (fs.map (rowY cs))
  | [] => .nil
  | f :: fs => .cons (pyd_row cs f) (pyd_rows cs fs)
theorem can_rows (cs : List Nat) : ∀ fs : List Row, PyData.canLayAll0 (fs.map (rowY cs)) = true
  | [] => rfl
  | f :: fs => by
    rw [List.map_cons, PyData.canLayAll0, can_rows cs fs, Bool.and_true]
    exact can_pIs _
theorem dep_rows (cs : List Nat) : ∀ fs : List Row, PyData.depthAll (fs.map (rowY cs)) ≤ 2
  | [] => Nat.zero_le _
  | f :: fs => by
    rw [List.map_cons, PyData.depthAll]
    have := dep_rows cs fs
    have h : (rowY cs f).depth ≤ 2 := by
      show PyData.depthAll _ + 1 ≤ 2
      have := dep_pIs (cs.map fun c => pq (f c))
      omega
    omega
theorem shaped_rows (cs : List Nat) (fs : List Row) : SeqAt.shaped (.list (fs.map (rowY cs))) = true := by
  unfold SeqAt.shaped
  rw [Bool.and_eq_true, decide_eq_true_eq]
  refine ⟨can_rows cs fs, ?_⟩
  show PyData.depthAll _ + 1 ≤ 64
  have := dep_rows cs fs
  omega
theorem od_eqNilM {X : Cx} {Q : D → Prop} {cs : List Nat} {fs : List Row} (hu : X.A.units + 64 < cLine) (q : Q (.bl fs.isEmpty)) : OD X (compareOp .Eq) (matP cs fs) (.lst []) Q := by
  refine od_eqd hu (.lst (pyd_rows cs fs)) (.lst .nil) (shaped_rows cs fs) (by decide) ?_
  cases fs <;> exact q
theorem set_parts {α : Type} (x : α) : ∀ (l : List α) (s : Nat), s < l.length → l.take s ++ [x] ++ l.drop (s + 1) = l.set s x
  | [], s, h => absurd h (Nat.not_lt_zero _)
  | a :: l, 0, h => rfl
  | a :: l, s + 1, h => by
    show a :: (l.take s ++ [x] ++ l.drop (s + 1)) = a :: l.set s x
    rw [set_parts x l s (Nat.lt_of_succ_lt_succ h)]
theorem matP_set {cs : List Nat} {fs : List Row} {i j : Nat} (hi : i < fs.length) : ∃ x, (fs.map (rowP cs))[i]? = some x ∧ D.lst ((fs.map (rowP cs)).set j x) = matP cs (setR fs i j) := by
  refine ⟨rowP cs fs[i], by rw [List.getElem?_map, List.getElem?_eq_getElem hi]; rfl, ?_⟩
  unfold setR matP
  rw [List.getD_eq_getElem?_getD, List.getElem?_eq_getElem hi, List.map_set]
  rfl
theorem setR_nb {b : Nat} {fs : List Row} {i j : Nat} (h : NB b fs) (hi : i < fs.length) : NB b (setR fs i j) := fun g hg => by
  unfold setR at hg
  rw [List.getD_eq_getElem?_getD, List.getElem?_eq_getElem hi] at hg
  rcases List.mem_or_eq_of_mem_set hg with z | z
  · exact h g z
  · rw [z]; exact h _ (List.getElem_mem hi)
theorem setR_len {fs : List Row} {i j : Nat} : (setR fs i j).length = fs.length := by unfold setR; rw [List.length_set]
section
variable {P : Program} {w : World} {K : PySem.W.Frag} {mg : Str → Option Value} {base : Heap} {C : Addr}
/-- the law's own permanent -/
abbrev spCh (k : Nat) : SpD := fun as Q => ∃ fs cs b, as = [.val (matP cs fs)] ∧ fs.length = k ∧ cs.length = k ∧ cs.Nodup ∧ k ≤ 4 ∧ b ≤ 13 ∧ NB b fs ∧ Q (prq (perI fs cs))
abbrev NCh : List Str := ["_law_rows_now", "_law_total", "_law_spot", "_law_one", "_law_rest", "_law_row"]
theorem sc_ch : FnScope NCh ["_law_rows_now"] (defScope (top 40)) := ⟨rfl, rfl, rfl, by decide +kernel, rfl, by decide +kernel, by decide +kernel⟩
theorem ok_ch {f : Addr} {fd : FuncData} (k : Nat) (F : FunS K "_law_choices" "_law_choices" (top 40) f fd) (en : mg "enumerate" = none) (SU : Df P w K mg base "_law_sum" 2 2 (spFF addF)) (PR : Df P w K mg base "_law_product" 2 2 (spFF mulF)) (DT : ∀ j, k = j + 1 → Df P w K mg base "_law_choices" (j + 3) 1 (spCh j)) : GnOk P w K mg base (k + 3) f fd ["_law_rows_now"] (lift K (spCh k)) := by
  refine gn_dl F sc_ch (fun as Q h => by obtain ⟨_, _, _, rfl, _⟩ := h; rfl) (fun cdv A outer s H hr hG W as Q h => ?_)
  obtain ⟨fs, cs, b, rfl, lf, lc, ndc, k4, b13, nb, q⟩ := h
  have nd := sc_ch.nd
  refine sds_cons (sd_if (td_cmp (nm 0 (ed_lst (ad_nil ⟨[], rfl, by simp, od_eqNilM (un64 hr) (kB ?_)⟩)))))
  cases fs with
  | nil =>
    show SDs _ _ _ _ _ _
    exact sds_cons (sd_ret (ed_tup (ad_cons (ed_int (ad_cons (ed_int (ad_nil ⟨[.int 1, .int 1], rfl, by simp, q⟩)))))))
  | cons f' fs =>
    obtain ⟨k, rfl⟩ : ∃ j, k = j + 1 := ⟨fs.length, lf.symm⟩
    have lf' : fs.length = k := Nat.succ.inj lf
    show SDs _ _ _ _ _ _
    have nf := nb f' (List.mem_cons_self ..)
    have pk := pb_le b b13 k (by omega)
    have pk1 := pb_le b b13 (k + 1) k4
    have epk : pb b (k + 1) = 1 + (k + 1) * (b + pb b k + 1) := rfl
    have bp : ∀ c, c ∈ cs → Bq (pb b k) (perI fs (cs.erase c)) := fun c hc => by have := per_bq fs (cs.erase c) nb.tail (by rw [List.length_erase_of_mem hc, lc, lf']; rfl); rw [lf'] at this; exact this
    have bs : ∀ i, i ≤ cs.length → Bq 961 ((cs.take i).map fun c => f' c * perI fs (cs.erase c)).sum := fun i hi => by
      refine (sum_bq (n := b + pb b k) (fun c => f' c * perI fs (cs.erase c)) (cs.take i) fun c hc => (nf c).2.mul (bp c (List.mem_of_mem_take hc))).le ?_
      have : (cs.take i).length * (b + pb b k + 1) ≤ (k + 1) * (b + pb b k + 1) := Nat.mul_le_mul_right _ (by rw [List.length_take]; omega)
      omega
    refine sds_nil (sds_cons (sd_set 1 nd rfl (ed_tup (ad_cons (ed_int (ad_cons (ed_int (ad_nil ⟨[.int 0, .int 1], rfl, by simp, ?_⟩))))))))
    refine sds_cons (sd_forE (l := cs.map fun c => prq (f' c)) PassesOwn.never rfl en (fun i S' => ∃ o2 o3 o4, S' = [some (.val (matP cs (f' :: fs))), some (.val (prq ((cs.take i).map fun c => f' c * perI fs (cs.erase c)).sum)), o2, o3, o4, none] ∧ notInst o4 = true) (ad_cons (ed_ix (nm 0 (ed_int ⟨(f' :: fs).map (rowP cs), 0, rowP cs f', .inl rfl, rfl, atI_nat (xs := (f' :: fs).map (rowP cs)) (j := 0) (by rfl), ad_nil ⟨rfl, none, none, none, rfl, rfl⟩⟩)))) ?_ ?_)
    · rintro i d S' hi ⟨o2, o3, o4, rfl, no4⟩
      rw [List.getElem?_map] at hi
      obtain ⟨c, hc, rfl⟩ := Option.map_eq_some_iff.mp hi
      obtain ⟨il, ec⟩ := List.getElem?_eq_some_iff.mp hc
      have cm' := List.mem_of_getElem? hc
      refine gd_tup rfl (gds_cons (gd_name 2 nd rfl (gds_cons (gd_name 3 nd rfl (gds_nil ?_))))) rfl
      have st := sum_take (fun c => f' c * perI fs (cs.erase c)) hc
      refine sds_cons (sd_if (td_cmp (i0 (p := fr (f' c)) (nm 3 ⟨rfl, ed_int (od_gt (kB ?_))⟩))))
      by_cases z : 0 < f' c
      · rw [decide_eq_true (num_pos z)]
        show SDs _ _ _ _ _ _
        refine sds_cons (sd_mpL (f := rowP cs) (u := rowP (cs.erase c)) (l := fs) 4 rfl rfl 5 rfl nd (own := [("_law_row", 5)]) (blkOk_by (by show blkC NCh (defScope (top 40)) _ _ = true; decide +kernel)) (fun _ _ _ _ _ => pg_name (i := 5) nd rfl (Or.inl rfl)) (by simp) (by omega) (ed_slLF (nm 0 (ed_int ⟨(f' :: fs).map (rowP cs), 1, rfl, rfl, by simp; omega, rfl⟩))) ?_ ?_)
        · intro g hg s2 H0 C2 cl fp
          refine ed_bin (ed_slLT (nm 5 (nm 2 ⟨cs.map fun c => prq (g c), (i : Int), rfl, rfl, .inl ⟨i, rfl, ed_slLF (nm 5 (ed_bin (nm 2 (ed_int (od_add ⟨cs.map fun c => prq (g c), i + 1, rfl, rfl, by rw [List.length_map]; omega, od_catL (l := (cs.map fun c => prq (g c)).take i) ?_ ?_⟩)))))⟩⟩)))
          · rw [List.length_take, List.length_drop, List.length_map]
            omega
          · show D.lst _ = D.lst _
            rw [← erase_at ndc hc, map_eraseIdx, List.eraseIdx_eq_take_drop_succ]
        refine sds_frz 4 _ rfl ?_
        refine sds_cons (sd_set 1 nd rfl (ed_call SU (hr.mono (j := 2) (by omega)) hG (ad_cons (nm 1 ?_))))
        refine ad_cons (ed_call PR (hr.mono (j := 2) (by omega)) hG (ad_cons (nm 3 ?_)))
        refine ad_cons (ed_call (DT k rfl) hr hG (ad_cons (nm 4 (ad_nil ⟨fs, cs.erase c, b, rfl, lf', by rw [List.length_erase_of_mem cm', lc]; rfl, ndc.erase c, by omega, b13, nb.tail, ?_⟩))))
        refine ad_nil ⟨fr (f' c), fr (perI fs (cs.erase c)), rfl, (nf c).2.le (by omega), (bp c cm').le (by omega), ?_⟩
        rw [mulF_fr]
        refine ad_nil ⟨fr _, fr _, rfl, (bs i (by omega)).le (by omega), ((nf c).2.mul (bp c cm')).le (by omega), ?_⟩
        rw [addF_fr]
        refine sds_nil (sds_nil ⟨some (.val (.int (i : Int))), some (.val (prq (f' c))), some (.val (.lst (fs.map (rowP (cs.erase c))))), ?_, rfl⟩)
        rw [st]
        rfl
      · rw [decide_eq_false (by intro h; exact z (Rat.lt_of_le_of_ne (nf c).1 fun e => by rw [← e] at h; exact absurd h (by decide)))]
        show SDs _ _ _ _ _ _
        have z0 : f' c = 0 := by have := (nf c).1; grind
        refine sds_nil (sds_nil ⟨some (.val (.int (i : Int))), some (.val (prq (f' c))), o4, ?_, no4⟩)
        rw [st, z0, Rat.zero_mul, Rat.add_zero]
        rfl
    · rintro S' ⟨o2, o3, o4, rfl, no4⟩
      rw [List.length_map, List.take_length]
      exact sds_cons (sd_ret (nm 1 q))
/-! rows drawn, told, passed -/
abbrev spSqr : SpD := fun as Q => ∃ n m : Nat, as = [.pot, .val (.int (n : Int)), .val (.int (m : Int))] ∧ n ≤ 4 ∧ m ≤ 9 ∧ ∀ fs : List Row, fs.length = n → NB 4 fs → Q (matP (List.range n) fs)
abbrev NSq : List Str := ["_law_pot_here", "_law_many", "_law_most", "_law_turn", "_law_spot"]
theorem sc_sqr : FnScope NSq ["_law_pot_here", "_law_many", "_law_most"] (defScope (top 41)) := ⟨rfl, rfl, rfl, by decide +kernel, rfl, by decide +kernel, by decide +kernel⟩
theorem outs_of {α : Type} {n : Nat} {g : α → D} {P : α → Prop} {out : List D} (h : Outs (fun _ y => ∃ z : α, y = g z ∧ P z) n out) : ∃ fs : List α, out = fs.map g ∧ fs.length = n ∧ ∀ z ∈ fs, P z := by
  have key : ∀ out : List D, (∀ y ∈ out, ∃ z : α, y = g z ∧ P z) → ∃ fs : List α, out = fs.map g ∧ ∀ z ∈ fs, P z := by
    intro out
    induction out with
    | nil => exact fun _ => ⟨[], rfl, by simp⟩
    | cons y out ih =>
      intro hy
      obtain ⟨z, e, hz⟩ := hy y (List.mem_cons_self ..)
      obtain ⟨fs, e2, hf⟩ := ih fun y hy' => hy y (List.mem_cons_of_mem _ hy')
      refine ⟨z :: fs, by rw [e, e2]; rfl, fun w hw => ?_⟩
      rcases List.mem_cons.mp hw with q | q
      · rw [q]; exact hz
      · exact hf w q
  obtain ⟨fs, e, hf⟩ := key out fun y hy => by
    obtain ⟨i, hi, e⟩ := List.getElem_of_mem hy
    obtain ⟨y', e1, p⟩ := h.2 i (by rw [← h.1]; exact hi)
    rw [List.getElem?_eq_getElem hi] at e1
    cases e1
    rw [← e]
    exact p
  exact ⟨fs, e, by rw [← h.1, e, List.length_map], hf⟩
theorem range_getD {rs : List Rat} {n : Nat} (h : rs.length = n) : (List.range n).map (fun c => rs.getD c 0) = rs := by
  refine List.ext_getElem? fun i => ?_
  rw [List.getElem?_map]
  by_cases c : i < n
  · rw [List.getElem?_range c]
    show some (rs.getD i 0) = _
    rw [List.getD_eq_getElem?_getD, List.getElem?_eq_getElem (by omega)]
    rfl
  · rw [List.getElem?_eq_none (by rw [List.length_range]; omega), List.getElem?_eq_none (by omega)]
    rfl
theorem bq0 {b : Nat} (h : 1 ≤ b) : Bq b (0 : Rat) := Bq.int (i := 0) (Nat.pow_pos (by decide)) h
theorem ok_sqr {f : Addr} {fd : FuncData} (F : FunS K "_law_square" "_law_square" (top 41) f fd) (T : Txt K mg C) (AM : Df P w K mg base "_law_amount" 3 2 spAm) : GnOk P w K mg base 4 f fd ["_law_pot_here", "_law_many", "_law_most"] (lift K spSqr) := by
  refine gn_dl F sc_sqr (fun as Q h => by obtain ⟨_, _, rfl, _⟩ := h; rfl) (fun cdv A outer s H hr hG W as Q h => ?_)
  obtain ⟨n, m, rfl, n4, m9, q⟩ := h
  have nd := sc_sqr.nd
  refine sds_cons (sd_ret (ed_fd (fd_relR (n := n) (fun _ y => ∃ f : Row, y = rowP (List.range n) f ∧ ∀ c, 0 ≤ f c ∧ Bq 4 (f c)) 3 (own := [("_law_turn", 3)]) rfl nd T.range (blkOk_by (by show blkC NSq (defScope (top 41)) _ _ = true; decide +kernel)) (fun _ _ _ _ _ => pg_name (i := 3) nd rfl (Or.inl rfl)) (by omega) (ad_cons (nm 1 (ad_nil rfl))) (by simp) ?_ ?_)))
  · intro i hi s2 H0 C2 cl fp
    refine ed_fd (fd_relR (n := n) (fun _ y => ∃ r : Rat, y = prq r ∧ (0 ≤ r ∧ Bq 4 r)) 4 (own := [("_law_spot", 4)]) rfl nd T.range (blkOk_in (N := NSq) (blkOk_by (by decide +kernel))) (fun _ _ _ _ _ => pg_name (i := 4) nd rfl (Or.inl rfl)) (by omega) (ad_cons (nm 1 (ad_nil rfl))) (by simp) ?_ ?_)
    · intro j hj s3 H3 C3 cl3 fp3
      exact ed_call AM (hr.mono (j := 3) (by decide)) hG (ad_pot 0 rfl rfl (ad_cons (nm 2 (ad_nil ⟨m, rfl, m9, fun r r0 rb => ⟨r, rfl, r0, rb⟩⟩))))
    · intro out ho
      obtain ⟨rs, rfl, lr, hrs⟩ := outs_of ho
      refine ⟨fun c => rs.getD c 0, ?_, fun c => ?_⟩
      · show D.lst _ = D.lst _
        have e : (List.range n).map (fun c => prq (rs.getD c 0)) = ((List.range n).map fun c => rs.getD c 0).map prq := by rw [List.map_map]; rfl
        rw [e, range_getD lr]
      · show 0 ≤ rs.getD c 0 ∧ Bq 4 (rs.getD c 0)
        rw [List.getD_eq_getElem?_getD]
        cases e : rs[c]? with
        | none => exact ⟨Rat.le_refl, bq0 (by decide)⟩
        | some r => exact hrs r (List.mem_of_getElem? e)
  · intro out ho
    obtain ⟨fs, rfl, lfs, hfs⟩ := outs_of (g := rowP (List.range n)) (P := fun f : Row => ∀ c, 0 ≤ f c ∧ Bq 4 (f c)) ho
    exact q fs lfs hfs
abbrev spTold (C : Addr) : SpD := fun as Q => ∃ fs cs, as = [.val (matP cs fs)] ∧ fs.length ≤ 100 ∧ cs.length ≤ 100 ∧ NB 3000 fs ∧ Q (matD C (vals fs cs))
abbrev NTo : List Str := ["_law_rows_now", "_law_row", "_law_one"]
theorem sc_told : FnScope NTo ["_law_rows_now"] (defScope (top 42)) := ⟨rfl, rfl, rfl, by decide +kernel, rfl, by decide +kernel, by decide +kernel⟩
theorem ok_told {f : Addr} {fd : FuncData} (F : FunS K "_law_told" "_law_told" (top 42) f fd) (RA : Df P w K mg base "_law_ratio" 4 1 (spRat1 C)) : GnOk P w K mg base 5 f fd ["_law_rows_now"] (lift K (spTold C)) := by
  refine gn_dl F sc_told (fun as Q h => by obtain ⟨_, _, rfl, _⟩ := h; rfl) (fun cdv A outer s H hr hG W as Q h => ?_)
  obtain ⟨fs, cs, rfl, lf, lc, nb, q⟩ := h
  have nd := sc_told.nd
  refine sds_cons (sd_ret (ed_fd (fd_mp (f := rowP cs) (u := fun f => .lst (cs.map fun c => Ra C (fr (f c)))) (l := fs) 1 rfl nd (own := [("_law_row", 1)]) (blkOk_by (by show blkC NTo (defScope (top 42)) _ _ = true; decide +kernel)) (fun _ _ _ _ _ => pg_name (i := 1) nd rfl (Or.inl rfl)) (by simp) (by omega) (.inl rfl) (nm 0 rfl) ?_ ?_)))
  · intro g hg s2 H0 C2 cl fp
    refine ed_fd (fd_mp (f := fun c => prq (g c)) (u := fun c => Ra C (fr (g c))) (l := cs) 2 rfl nd (own := [("_law_one", 2)]) (blkOk_in (N := NTo) (blkOk_by (by decide +kernel))) (fun _ _ _ _ _ => pg_name (i := 2) nd rfl (Or.inl rfl)) (by simp) (by omega) (.inl rfl) (nm 1 rfl) ?_ rfl)
    intro c hc s3 H3 C3 cl3 fp3
    exact ed_call RA (hr.mono (j := 4) (by decide)) hG (ad_cons (nm 2 (ad_nil ⟨g c, rfl, (nb g hg c).2, rfl⟩)))
  · rw [matD_eq] at q
    exact q
abbrev spPass (C : Addr) : SpD := fun as Q => ∃ fs cs b, as = [.pot, .val (matP cs fs)] ∧ fs.length ≤ 100 ∧ cs.length ≤ 100 ∧ b ≤ 1000 ∧ NB b fs ∧ ∀ l, RowsN C b l fs cs → Q (.lst l)
abbrev NPs : List Str := ["_law_pot_here", "_law_rows_now", "_law_row", "_law_one"]
theorem sc_pass : FnScope NPs ["_law_pot_here", "_law_rows_now"] (defScope (top 43)) := ⟨rfl, rfl, rfl, by decide +kernel, rfl, by decide +kernel, by decide +kernel⟩
theorem paired_nqs2 {b : Nat} {g : Row} : ∀ {cs : List Nat} {out : List D}, Paired (fun c y => Nq C b y (g c)) cs out → Nqs C b out (cs.map g)
  | _, _, .nil => .nil
  | _, _, .cons h t => .cons h (paired_nqs2 t)
theorem paired_flip {α β : Type} {R : α → β → Prop} {S : β → α → Prop} (hRS : ∀ a b, R a b → S b a) : ∀ {l : List α} {m : List β}, Paired R l m → Paired S m l
  | _, _, .nil => .nil
  | _, _, .cons h t => .cons (hRS _ _ h) (paired_flip hRS t)
theorem ok_pass {f : Addr} {fd : FuncData} (F : FunS K "_law_passed" "_law_passed" (top 43) f fd) (HA : Df P w K mg base "_law_handed" 5 2 (spHand C)) : GnOk P w K mg base 6 f fd ["_law_pot_here", "_law_rows_now"] (lift K (spPass C)) := by
  refine gn_dl F sc_pass (fun as Q h => by obtain ⟨_, _, _, rfl, _⟩ := h; rfl) (fun cdv A outer s H hr hG W as Q h => ?_)
  obtain ⟨fs, cs, b, rfl, lf, lc, b1, nb, q⟩ := h
  have nd := sc_pass.nd
  refine sds_cons (sd_ret (ed_fd (fd_rl (f := rowP cs) (l := fs) (fun f y => ∃ le, y = .lst le ∧ Nqs C b le (cs.map f)) 2 rfl nd (own := [("_law_row", 2)]) (blkOk_by (by show blkC NPs (defScope (top 43)) _ _ = true; decide +kernel)) (fun _ _ _ _ _ => pg_name (i := 2) nd rfl (Or.inl rfl)) (by simp) (by omega) (.inl rfl) (nm 1 rfl) ?_ ?_)))
  · intro g hg s2 H0 C2 cl fp
    refine ed_fd (fd_rl (f := fun c => prq (g c)) (l := cs) (fun c y => Nq C b y (g c)) 3 rfl nd (own := [("_law_one", 3)]) (blkOk_in (N := NPs) (blkOk_by (by decide +kernel))) (fun _ _ _ _ _ => pg_name (i := 3) nd rfl (Or.inl rfl)) (by simp) (by omega) (.inl rfl) (nm 2 rfl) ?_ ?_)
    · intro c hc s3 H3 C3 cl3 fp3
      exact ed_call HA (hr.mono (j := 5) (by decide)) hG (ad_pot 0 rfl rfl (ad_cons (nm 3 (ad_nil ⟨b, g c, rfl, b1, (nb g hg c).2, fun d nq => nq⟩))))
    · intro out ho
      exact ⟨out, rfl, paired_nqs2 ho⟩
  · intro out ho
    exact q out (paired_flip (fun _ _ h => h) ho)
abbrev spWith : SpD := fun as Q => ∃ l : List D, ∃ i : Nat, ∃ x, as = [.val (.lst l), .val (.int (i : Int)), .val x] ∧ i < l.length ∧ l.length ≤ 1000 ∧ Q (.lst (l.set i x))
abbrev NWi : List Str := ["_law_rows_now", "_law_spot", "_law_row"]
theorem sc_with : FnScope NWi NWi (defScope (top 45)) := ⟨rfl, rfl, rfl, by decide +kernel, rfl, by decide +kernel, by decide +kernel⟩
theorem ok_with {f : Addr} {fd : FuncData} (F : FunS K "_law_with" "_law_with" (top 45) f fd) : GnOk P w K mg base 1 f fd NWi (lift K spWith) := by
  refine gn_dl F sc_with (fun as Q h => by obtain ⟨_, _, _, rfl, _⟩ := h; rfl) (fun cdv A outer s H hr hG W as Q h => ?_)
  obtain ⟨l, i, x, rfl, hi, hl, q⟩ := h
  refine sds_cons (sd_ret (ed_bin (ed_bin (ed_slLT (nm 0 (nm 1 ⟨l, (i : Int), rfl, rfl, .inl ⟨i, rfl, ed_lst (ad_cons (nm 2 (ad_nil ⟨[x], rfl, by simp, od_catL (l := l.take i) ?_ ?_⟩)))⟩⟩))))))
  · rw [List.length_take, List.length_singleton]
    omega
  · refine ed_slLF (nm 0 (ed_bin (nm 1 (ed_int (od_add ⟨l, i + 1, rfl, rfl, by omega, od_catL (l := l.take i ++ [x]) ?_ ?_⟩)))))
    · rw [List.length_append, List.length_take, List.length_singleton, List.length_drop]
      omega
    · rw [set_parts x l i hi]
      exact q
abbrev spSlack : SpD := fun as Q => ∃ fs cs b, ∃ n i j : Nat, as = [.val (matP cs fs), .val (.int (i : Int)), .val (.int (j : Int))] ∧ fs.length = n ∧ cs.length = n ∧ cs.Nodup ∧ n ≤ 4 ∧ b ≤ 13 ∧ NB b fs ∧ i < n ∧ j < n ∧ Q (prq (slackQ fs cs i j))
abbrev NSl : List Str := ["_law_rows_now", "_law_one", "_law_other", "_law_here", "_law_near", "_law_far", "_law_both"]
theorem sc_slack : FnScope NSl ["_law_rows_now", "_law_one", "_law_other"] (defScope (top 46)) := ⟨rfl, rfl, rfl, by decide +kernel, rfl, by decide +kernel, by decide +kernel⟩
theorem prq_neg (r : Rat) : prq (-r) = .tup [.int (0 - (fr r).1), .int (fr r).2] := by
  show D.tup [.int (-r).num, .int ((-r).den : Int)] = _
  rw [Rat.neg_num, Rat.neg_den, Int.zero_sub]
  rfl
theorem ok_slack {f : Addr} {fd : FuncData} (F : FunS K "_law_slack" "_law_slack" (top 46) f fd) (SU : Df P w K mg base "_law_sum" 2 2 (spFF addF)) (PR : Df P w K mg base "_law_product" 2 2 (spFF mulF)) (CH : ∀ k, k ≤ 4 → Df P w K mg base "_law_choices" (k + 3) 1 (spCh k)) (WI : Df P w K mg base "_law_with" 1 3 spWith) : GnOk P w K mg base 8 f fd ["_law_rows_now", "_law_one", "_law_other"] (lift K spSlack) := by
  refine gn_dl F sc_slack (fun as Q h => by obtain ⟨_, _, _, _, _, _, rfl, _⟩ := h; rfl) (fun cdv A outer s H hr hG W as Q h => ?_)
  obtain ⟨fs, cs, b, n, i, j, rfl, lf, lc, ndc, n4, b13, nb, hi, hj, q⟩ := h
  have nd := sc_slack.nd
  have rn := hr.mono (j := n + 3) (by omega)
  have r2 := hr.mono (j := 2) (by decide)
  have bq : ∀ gs : List Row, NB b gs → gs.length = n → Bq 961 (perI gs cs) := fun gs h l => by
    have := per_bq gs cs h (by rw [l, lc])
    rw [l] at this
    exact this.le (pb_le b b13 n n4)
  obtain ⟨x1, e1, s1⟩ := matP_set (cs := cs) (fs := fs) (i := i) (j := j) (by omega)
  obtain ⟨x2, e2, s2⟩ := matP_set (cs := cs) (fs := fs) (i := j) (j := i) (by omega)
  have n1 := setR_nb (j := j) nb (show i < fs.length by omega)
  have n2 := setR_nb (j := i) nb (show j < fs.length by omega)
  have l1 : (setR fs i j).length = n := by rw [setR_len, lf]
  have l2 : (setR fs j i).length = n := by rw [setR_len, lf]
  have b0 := bq fs nb lf
  have b1 := bq _ n1 l1
  have b2 := bq _ n2 l2
  refine sds_cons (sd_set 3 nd rfl (ed_call (CH n n4) rn hG (ad_cons (nm 0 (ad_nil ⟨fs, cs, b, rfl, lf, lc, ndc, n4, b13, nb, ?_⟩)))))
  refine sds_cons (sd_par 4 5 rfl nd rfl rfl (by decide) rfl rfl (ad_cons (ed_call (CH n n4) rn hG (ad_cons (ed_call WI (hr.mono (j := 1) (by decide)) hG ?_)))))
  refine ad_cons (nm 0 (ad_cons (nm 2 (ad_cons (ed_ix (nm 0 (nm 1 ⟨fs.map (rowP cs), (i : Int), x1, .inl rfl, rfl, atI_nat e1, ad_nil ⟨fs.map (rowP cs), j, x1, rfl, by rw [List.length_map]; omega, by rw [List.length_map]; omega, ?_⟩⟩)))))))
  rw [s1]
  refine ad_nil ⟨_, cs, b, rfl, l1, lc, ndc, n4, b13, n1, ?_⟩
  refine ad_cons (ed_call (CH n n4) rn hG (ad_cons (ed_call WI (hr.mono (j := 1) (by decide)) hG ?_)))
  refine ad_cons (nm 0 (ad_cons (nm 1 (ad_cons (ed_ix (nm 0 (nm 2 ⟨fs.map (rowP cs), (j : Int), x2, .inl rfl, rfl, atI_nat e2, ad_nil ⟨fs.map (rowP cs), i, x2, rfl, by rw [List.length_map]; omega, by rw [List.length_map]; omega, ?_⟩⟩)))))))
  rw [s2]
  refine ad_nil ⟨_, cs, b, rfl, l2, lc, ndc, n4, b13, n2, ?_⟩
  refine ad_nil ⟨_, _, rfl, ?_⟩
  refine sds_cons (sd_set 6 nd rfl (ed_call PR r2 hG (ad_cons (nm 4 (ad_cons (nm 5 (ad_nil ⟨fr _, fr _, rfl, b1.le (by decide), b2.le (by decide), ?_⟩)))))))
  rw [mulF_fr]
  refine sds_cons (sd_ret (ed_call SU r2 hG (ad_cons (ed_call PR r2 hG (ad_cons (nm 3 (ad_cons (nm 3 (ad_nil ⟨fr _, fr _, rfl, b0.le (by decide), b0.le (by decide), ?_⟩)))))))))
  rw [mulF_fr]
  refine ad_cons (ed_tup (ad_cons (ed_bin (ed_int (i0 (p := fr (perI (setR fs i j) cs * perI (setR fs j i) cs)) (nm 6 ⟨rfl, od_sub (ad_cons (i1 (p := fr (perI (setR fs i j) cs * perI (setR fs j i) cs)) (nm 6 ⟨rfl, ad_nil ⟨[.int _, .int _], rfl, by simp, ?_⟩⟩)))⟩))))))
  have en := prq_neg (perI (setR fs i j) cs * perI (setR fs j i) cs)
  rw [← en]
  have bn : Bq 3000 (-(perI (setR fs i j) cs * perI (setR fs j i) cs)) := by
    have := (b1.mul b2).le (n := 3000) (by decide)
    refine ⟨?_, ?_, ?_⟩
    · show (-(perI (setR fs i j) cs * perI (setR fs j i) cs)).num.natAbs < _
      rw [Rat.neg_num, Int.natAbs_neg]; exact this.t
    · show ((-(perI (setR fs i j) cs * perI (setR fs j i) cs)).den : Int).natAbs < _
      rw [Rat.neg_den]; exact this.b
    · show (0 : Int) < ((-(perI (setR fs i j) cs * perI (setR fs j i) cs)).den : Int)
      rw [Rat.neg_den]; exact this.pos
  refine ad_nil ⟨fr _, fr _, rfl, (b0.mul b0).le (by decide), bn, ?_⟩
  rw [addF_fr, show ∀ a b : Rat, a + -b = a - b from fun a b => by grind]
  exact q
end
end K85

set_option Elab.async false
set_option linter.all false
set_option maxRecDepth 100000
set_option maxHeartbeats 4000000
/-! texts of lists and tuples that hold own objects -/
namespace DL
open PySem PySem.Spec PyProof.Rows L2
mutual
/-- data that can be written, each told by where it stands -/
inductive Rp : D → Prop
  | non : Rp .non
  | bl (b) : Rp (.bl b)
  | int (i) : Rp (.int i)
  | str (s) : Rp (.str s)
  | tup {l} : Rps l → Rp (.tup l)
  | lst {l} : Rps l → Rp (.lst l)
  | obj {C fs} : Rpf fs → Rp (.obj C fs)
  | dcT {kvs} : Rpt kvs → Rp (.dcT kvs)
inductive Rps : List D → Prop
  | nil : Rps []
  | cons {d l} : Rp d → Rps l → Rps (d :: l)
inductive Rpf : List (Str × D) → Prop
  | nil : Rpf []
  | cons {f d l} : Rp d → Rpf l → Rpf ((f, d) :: l)
inductive Rpt : List (List Key × D) → Prop
  | nil : Rpt []
  | cons {k d l} : Rp d → Rpt l → Rpt ((k, d) :: l)
end
section
variable {K : PySem.W.Frag} {I : Hp}
mutual
theorem Dn.uniq : ∀ {d d' : D} {v : V}, Dn K I d v → Rp d → Rp d' → Dn K I d' v → d = d'
  | _, _, _, .non, _, r', n' => by cases n' <;> first | rfl | cases r'
  | _, _, _, .bl b, _, r', n' => by cases n' <;> first | rfl | cases r'
  | _, _, _, .int i, _, r', n' => by cases n' <;> first | rfl | cases r'
  | _, _, _, .str s, _, r', n' => by cases n' <;> first | rfl | cases r'
  | _, _, _, .ty n, r, _, _ => by cases r
  | _, _, _, .cls a, r, _, _ => by cases r
  | _, _, _, .frl h, r, _, _ => by cases r
  | _, _, _, .dct h, r, _, _ => by cases r
  | _, _, _, .dcK h _, r, _, _ => by cases r
  | _, _, _, .tup h m, r, r', n' => by
    cases n' with
    | tup h' m' =>
      rw [h] at h'
      cases h'
      cases r with
      | tup r => cases r' with
        | tup r' => rw [Dns.uniq m r r' m']
    | lst h' m' => rw [h] at h'; cases h'
    | obj h' m' => rw [h] at h'; cases h'
    | cls _ => cases r'
    | dct _ => cases r'
    | dcT h' m' => rw [h] at h'; cases h'
    | dcK _ _ => cases r'
    | frl _ => cases r'
  | _, _, _, .lst h m, r, r', n' => by
    cases n' with
    | lst h' m' =>
      rw [h] at h'
      cases h'
      cases r with
      | lst r => cases r' with
        | lst r' => rw [Dns.uniq m r r' m']
    | tup h' m' => rw [h] at h'; cases h'
    | obj h' m' => rw [h] at h'; cases h'
    | cls _ => cases r'
    | dct _ => cases r'
    | dcT h' m' => rw [h] at h'; cases h'
    | dcK _ _ => cases r'
    | frl _ => cases r'
  | _, _, _, .obj h m, r, r', n' => by
    cases n' with
    | obj h' m' =>
      rw [h] at h'
      cases h'
      cases r with
      | obj r => cases r' with
        | obj r' => rw [Dnf.uniq m r r' m']
    | tup h' m' => rw [h] at h'; cases h'
    | lst h' m' => rw [h] at h'; cases h'
    | cls _ => cases r'
    | dct _ => cases r'
    | dcT h' m' => rw [h] at h'; cases h'
    | dcK _ _ => cases r'
    | frl _ => cases r'
  | _, _, _, .dcT h m, r, r', n' => by
    cases n' with
    | dcT h' m' =>
      rw [h] at h'
      cases h'
      cases r with
      | dcT r => cases r' with
        | dcT r' => rw [Dnt.uniq m r r' m']
    | tup h' m' => rw [h] at h'; cases h'
    | lst h' m' => rw [h] at h'; cases h'
    | obj h' m' => rw [h] at h'; cases h'
    | cls _ => cases r'
    | dct _ => cases r'
    | dcK _ _ => cases r'
    | frl _ => cases r'
termination_by structural _ _ _ x => x
theorem Dnt.uniq : ∀ {l l' : List (List Key × D)} {xs : List (List Key × V)}, Dnt K I l xs → Rpt l → Rpt l' → Dnt K I l' xs → l = l'
  | _, _, _, .nil, _, _, n' => by cases n'; rfl
  | _, _, _, .cons h m, r, r', n' => by
    cases n' with
    | cons h' m' =>
      cases r with
      | cons r1 r2 => cases r' with
        | cons r1' r2' => rw [Dn.uniq h r1 r1' h', Dnt.uniq m r2 r2' m']
termination_by structural _ _ _ x => x
theorem Dns.uniq : ∀ {l l' : List D} {xs : List V}, Dns K I l xs → Rps l → Rps l' → Dns K I l' xs → l = l'
  | _, _, _, .nil, _, _, n' => by cases n'; rfl
  | _, _, _, .cons h m, r, r', n' => by
    cases n' with
    | cons h' m' =>
      cases r with
      | cons r1 r2 => cases r' with
        | cons r1' r2' => rw [Dn.uniq h r1 r1' h', Dns.uniq m r2 r2' m']
termination_by structural _ _ _ x => x
theorem Dnf.uniq : ∀ {l l' : List (Str × D)} {xs : List (Str × V)}, Dnf K I l xs → Rpf l → Rpf l' → Dnf K I l' xs → l = l'
  | _, _, _, .nil, _, _, n' => by cases n'; rfl
  | _, _, _, .cons h m, r, r', n' => by
    cases n' with
    | cons h' m' =>
      cases r with
      | cons r1 r2 => cases r' with
        | cons r1' r2' => rw [Dn.uniq h r1 r1' h', Dnf.uniq m r2 r2' m']
termination_by structural _ _ _ x => x
end
open Classical in
noncomputable def del (I : Hp) (a : Addr) : Hp := fun b => if b = a then none else I b
theorem del_same {a : Addr} : del I a a = none := if_pos rfl
theorem del_ne {a b : Addr} (h : b ≠ a) : del I a b = I b := if_neg h
/-- the same data without what stands at a, which is greater than they are -/
theorem del_sub {a : Addr} {big : D} (rb : Rp big) (nb : Dn K I big (.ref a)) : ∀ n, (∀ d v, sizeOf d < n → sizeOf d < sizeOf big → Rp d → Dn K I d v → Dn K (del I a) d v) ∧ (∀ l xs, sizeOf l < n → sizeOf l < sizeOf big → Rps l → Dns K I l xs → Dns K (del I a) l xs) ∧ (∀ l xs, sizeOf l < n → sizeOf l < sizeOf big → Rpf l → Dnf K I l xs → Dnf K (del I a) l xs) ∧ (∀ l xs, sizeOf l < n → sizeOf l < sizeOf big → Rpt l → Dnt K I l xs → Dnt K (del I a) l xs) := by
  intro n
  induction n with
  | zero => exact ⟨fun _ _ h => absurd h (Nat.not_lt_zero _), fun _ _ h => absurd h (Nat.not_lt_zero _), fun _ _ h => absurd h (Nat.not_lt_zero _), fun _ _ h => absurd h (Nat.not_lt_zero _)⟩
  | succ n ih =>
    obtain ⟨i1, i2, i3, i4⟩ := ih
    refine ⟨fun d v hn hb r m => ?_, fun l xs hn hb r m => ?_, fun l xs hn hb r m => ?_, fun l xs hn hb r m => ?_⟩
    · have ne : ∀ b, v = .ref b → b ≠ a := fun b e z => by
        subst z
        subst e
        have := Dn.uniq m r rb nb
        rw [this] at hb
        exact Nat.lt_irrefl _ hb
      cases m with
      | non => exact .non
      | bl b => exact .bl b
      | int i => exact .int i
      | str s => exact .str s
      | ty _ => cases r
      | cls _ => cases r
      | frl _ => cases r
      | dct _ => cases r
      | dcT h m =>
        cases r with
        | dcT r =>
          simp only [D.dcT.sizeOf_spec] at hn hb
          exact .dcT (by rw [del_ne (ne _ rfl)]; exact h) (i4 _ _ (by omega) (by omega) r m)
      | dcK _ _ => cases r
      | tup h m =>
        cases r with
        | tup r =>
          simp only [D.tup.sizeOf_spec] at hn hb
          exact .tup (by rw [del_ne (ne _ rfl)]; exact h) (i2 _ _ (by omega) (by omega) r m)
      | lst h m =>
        cases r with
        | lst r =>
          simp only [D.lst.sizeOf_spec] at hn hb
          exact .lst (by rw [del_ne (ne _ rfl)]; exact h) (i2 _ _ (by omega) (by omega) r m)
      | obj h m =>
        cases r with
        | obj r =>
          simp only [D.obj.sizeOf_spec] at hn hb
          exact .obj (by rw [del_ne (ne _ rfl)]; exact h) (i3 _ _ (by omega) (by omega) r m)
    · cases m with
      | nil => exact .nil
      | cons h m =>
        cases r with
        | cons r1 r2 =>
          simp only [List.cons.sizeOf_spec] at hn hb
          exact .cons (i1 _ _ (by omega) (by omega) r1 h) (i2 _ _ (by omega) (by omega) r2 m)
    · cases m with
      | nil => exact .nil
      | cons h m =>
        cases r with
        | cons r1 r2 =>
          simp only [List.cons.sizeOf_spec, Prod.mk.sizeOf_spec] at hn hb
          exact .cons (i1 _ _ (by omega) (by omega) r1 h) (i3 _ _ (by omega) (by omega) r2 m)
    · cases m with
      | nil => exact .nil
      | cons h m =>
        cases r with
        | cons r1 r2 =>
          simp only [List.cons.sizeOf_spec, Prod.mk.sizeOf_spec] at hn hb
          exact .cons (i1 _ _ (by omega) (by omega) r1 h) (i4 _ _ (by omega) (by omega) r2 m)
theorem del_lst {a : Addr} {l : List D} {xs : List V} (r : Rps l) (h : I a = some (.lst xs)) (m : Dns K I l xs) : Dns K (del I a) l xs :=
  (del_sub (big := .lst l) (.lst r) (.lst h m) (sizeOf l + 1)).2.1 l xs (by omega) (by simp only [D.lst.sizeOf_spec]; omega) r m
end
/-! being written: a stands no more among what never changes, and is back behind it -/
section
variable {g : List Code} {W W2 : Wd} {H H2 : Hp} {a : Addr} {o : HO}
theorem Ok.write {id : String} {rest : List Value} {kw : List (Str × Value)} (ok : Ok g W H) (ha : W.I a = some o) (hk : ∀ ks : List Key, o ≠ .tup (ks.map kV)) : Ok (.builtin id ⟨.ref a :: rest, kw⟩ :: g) ⟨del W.I a, W.P⟩ H where
  gd := fun b hb => by
    obtain ⟨i, r, k, h⟩ := hb
    rcases List.mem_cons.mp h with e | h
    · cases e
      exact ⟨del_same, (fun z => by rw [ok.ex _ _ ha] at z; cases z), fun ks z => by rw [ok.ex _ _ ha] at z; exact hk ks (Option.some.inj z)⟩
    · obtain ⟨n1, n2⟩ := ok.gd b ⟨i, r, k, h⟩
      refine ⟨?_, n2⟩
      show del W.I a b = none
      rw [del_ne (fun z => by rw [z, ha] at n1; cases n1)]
      exact n1
  ex := fun b u e => by
    have e' : del W.I a b = some u := e
    by_cases z : b = a
    · rw [z, del_same] at e'; cases e'
    · rw [del_ne z] at e'; exact ok.ex b u e'
  pot := fun b pb => by
    obtain ⟨n, x⟩ := ok.pot b pb
    refine ⟨?_, x⟩
    by_cases z : b = a
    · rw [z]; exact del_same
    · show del W.I a b = none
      rw [del_ne z]; exact n
theorem InG.cons {c : Code} {b : Addr} (h : InG g b) : InG (c :: g) b := let ⟨i, r, k, m⟩ := h; ⟨i, r, k, List.mem_cons_of_mem _ m⟩
/-- behind the writing -/
theorem written_stp {c : Code} (hc : InG (c :: g) a) (ok : Ok g W H) (ha : W.I a = some o) (st : Stp ⟨del W.I a, W.P⟩ H W2 H2) (ok2 : Ok (c :: g) W2 H2) : Stp W H (W2.new a o) H2 ∧ Ok g (W2.new a o) H2 := by
  have hH : H a = some o := ok.ex _ _ ha
  have nP : ¬ W.P a := fun z => by rw [(ok.pot a z).1] at ha; cases ha
  have h2 : H2 a = some o := st.keep a o hH nP
  have i2 : W2.I a = none := (ok2.gd a hc).1
  have nP2 : ¬ W2.P a := fun z => nP (st.oldP a o hH z)
  have ng : ¬ InG g a := fun z => by rw [(ok.gd a z).1] at ha; cases ha
  refine ⟨⟨fun b u e => ?_, st.P, st.keep, fun b u e hu n => ?_, st.oldP⟩, ?_⟩
  · show upd W2.I a o b = some u
    by_cases z : b = a
    · subst z
      rw [ha] at e
      cases e
      exact upd_same
    · rw [upd_ne z]
      exact st.I b u (by show del W.I a b = some u; rw [del_ne z]; exact e)
  · show upd W2.I a o b = none
    have z : b ≠ a := fun z => by rw [z, ha] at n; cases n
    rw [upd_ne z]
    exact st.old b u e hu (by show del W.I a b = none; rw [del_ne z]; exact n)
  · exact {
      gd := fun b hb => by
        obtain ⟨n1, n2⟩ := ok2.gd b hb.cons
        refine ⟨?_, n2⟩
        show upd W2.I a o b = none
        have ne : b ≠ a := fun z => ng (z ▸ hb)
        rw [upd_ne ne]
        exact n1
      ex := fun b u e => by
        have e' : upd W2.I a o b = some u := e
        by_cases z : b = a
        · subst z; rw [upd_same] at e'; cases e'; exact h2
        · rw [upd_ne z] at e'; exact ok2.ex b u e'
      pot := fun b pb => by
        obtain ⟨n, x⟩ := ok2.pot b pb
        refine ⟨?_, x⟩
        show upd W2.I a o b = none
        have ne : b ≠ a := fun z => nP2 (z ▸ pb)
        rw [upd_ne ne]
        exact n }
end
end DL

set_option Elab.async false
set_option linter.all false
set_option maxRecDepth 100000
set_option maxHeartbeats 4000000
/-! how lists and tuples that hold own objects are written -/
namespace DL
open PySem PySem.Spec PyProof.Rows L2 Builtin Builtin.List
/-- an around that stands in the same def -/
structure Ar (X : Cx) (k : Nat) (A : Around) : Prop where
  r : Room k A
  f : A.frames = some X.stack
theorem Ar.env {X : Cx} {k : Nat} {A : Around} {pins : List (Addr × Obj)} {σ : L2.St} {H : Hp} {s : Shared} (h : Ar X k A) (I : Inv X pins σ H s) : Env0 X.prog X.w X.K X.mg X.base A X.stack s H :=
  let e := I.env0
  ⟨h.f, e.mod, e.bs, e.bsz, e.funs, e.frf, e.hok, e.bare⟩
theorem ar_loop {X : Cx} {k : Nat} {A : Around} {args : PySem.Args} (h : Ar X (k + 1) A) : Ar X k (A.under (.builtin "list.__repr__.loop" args)) where
  r := ⟨h.r.hd, by
    have := h.r.dp
    have e : (A.under (.builtin "list.__repr__.loop" args)).depth ≤ A.depth + 1 := by
      first | exact Nat.le_refl _ | exact Nat.le_succ _ | simp [Around.under, Code.weight, Code.isCreation, Code.isGuard, Code.isCaller, Code.frames, Code.isFrame, guardIds]
    omega, by have := h.r.un; rw [units_under_list_loop]; omega⟩
  f := by first | exact h.f | (simpa [Around.under, Code.envs, Code.isFrame, pushEnvs] using h.f)
/-- d is written as t -/
def Wr (X : Cx) (k : Nat) (d : D) (t : Str) : Prop := ∀ (A : Around) (g : List Code) (W : Wd) (H : Hp) (pins : List (Addr × Obj)) (σ : L2.St) (s : Shared) (v : V) (u : Value) (base : Nat) (Q : Str → Shared → Prop) (E : Value → Shared → Prop), Ar X k A → A.guards = some g → Ok g W H → Inv X pins σ H s → Dn X.K W.I d v → RelV v u → base + t.length ≤ sizeLine →
  (∀ W' H' s', Stp W H W' H' → Ok g W' H' → Inv X pins σ H' s' → Q t s') → wpAny (model X.prog X.w) A (pyReprUnder base u) Q E s
section
variable {X : Cx} {k : Nat}
theorem wr_is {d : D} {t : Str} (h : ∀ K I v u, Dn K I d v → RelV v u → ReprIs X.prog X.w u t) : Wr X k d t := fun A g W H pins σ s v u base Q E hA hg ok I n r hb q =>
  h _ _ _ _ n r base hb A E s Q fun tk => q W H _ Stp.refl ok (I.tok tk)
theorem wr_int {i : Int} (hi : i.natAbs.log2 < 1920) : Wr X k (.int i) (toString i) := wr_is fun K I v u n r => by
  cases n
  obtain ⟨t, rfl⟩ := r
  exact ReprIs.int t hi
theorem Ok.swap {g : List Code} {W : Wd} {H : Hp} {id id' : String} {a : Addr} {r r' : List Value} {kw kw' : List (Str × Value)} (ok : Ok (.builtin id ⟨.ref a :: r, kw⟩ :: g) W H) : Ok (.builtin id' ⟨.ref a :: r', kw'⟩ :: g) W H where
  gd := fun b hb => by
    obtain ⟨i, rr, k, h⟩ := hb
    rcases List.mem_cons.mp h with e | h
    · cases e
      exact ok.gd _ ⟨id, r, kw, List.mem_cons_self⟩
    · exact ok.gd b ⟨i, rr, k, List.mem_cons_of_mem _ h⟩
  ex := ok.ex
  pot := ok.pot
theorem vals_strs : ∀ {ts : List Str} {its : List Value}, Vals (ts.map V.str) its → ∃ done : List (Str × Tok), its = strValues done ∧ done.map (·.1) = ts
  | [], _, .nil => ⟨[], rfl, rfl⟩
  | t :: ts, _, .cons ⟨tk, e⟩ r => by
    obtain ⟨done, e1, e2⟩ := vals_strs r
    subst e e1
    exact ⟨(t, tk) :: done, rfl, by rw [List.map_cons, e2]⟩
theorem dns_strs {K : PySem.W.Frag} {I : Hp} : ∀ {ts : List Str} {xs : List V}, Dns K I (ts.map D.str) xs → xs = ts.map V.str
  | [], _, .nil => rfl
  | t :: ts, _, .cons (.str _) r => by rw [List.map_cons, dns_strs r]
section
variable {A : Around} {g : List Code} {a P : Addr} {W1 : Wd} {H1 : Hp} {pins : List (Addr × Obj)} {σ : L2.St} {l : List D} {xs : List V} {ts : List Str} {base : Nat} {R : PySem.Result → Shared → Prop}
theorem wr_loop (hA : Ar X (k + 1) A) (hg : A.guards = some g) (ha : H1 a = some (.lst xs)) (nP : ¬ W1.P a) (hm : Dns X.K W1.I l xs) (hP : H1 P = none) (hlen : ts.length = l.length) (hl : l.length ≤ 1000)
    (hT : ∀ (i : Nat) d, l[i]? = some d → ∃ t, ts[i]? = some t ∧ Wr X k d t) (hsz : base + (listText ts).length ≤ sizeLine)
    (hR : ∀ W' H' s' u, Stp W1 H1 W' H' → (∀ r kw, Ok (.builtin "list.__repr__.loop" ⟨.ref a :: r, kw⟩ :: g) W' H') → Inv X pins σ H' s' → R (.ok (.ret (.str (listText ts) u))) s') :
    ∀ (n i : Nat) (s : Shared) (W : Wd) (H : Hp), l.length - i = n → i ≤ l.length → Mid X.K (.builtin "list.__repr__.loop" ⟨.ref a :: [], []⟩ :: g) W1 H1 P ((ts.take i).map D.str) W H → Inv X pins σ H s →
      codeAny (model X.prog X.w) A (.builtin "list.__repr__.loop" ⟨[.ref a, rawInt i, .ref P, rawInt ((base + piled (ts.take i) : Nat) : Int)], []⟩) R s := by
  have t0 := textFrom_len ts 0 "["
  have tx : (listText ts).length = (textFrom 0 "[" ts).length + 1 := by show (textFrom 0 "[" ts ++ "]").length = _; rw [strLen_append]; rfl
  have each : ∀ t ∈ ts, t.length ≤ sizeLine := fun t ht => by have := t0.2.1 t ht; omega
  have top := piled_le_listText ts
  intro n
  induction n with
  | zero =>
    intro i s W H hn hi m I
    have ei : i = l.length := by omega
    obtain ⟨_, its, n0, rv, _, get⟩ := I.lstM (m.st.keep a _ ha nP)
    have li : its.length = l.length := by rw [← rv.length, ← hm.length]
    refine codeAny_builtin F.entry_list_repr_loop ?_
    show wpAny _ _ («list.__repr__.loop» ⟨[.ref a, .int i 0, .ref P, .int ((base + piled (ts.take i) : Nat) : Int) 0], []⟩) _ _ s
    rw [repr_loop_tree]; refine wpAny_bind (wpAny_listItems get rfl ?_)
    have none_ : its.toArray[(i : Int).toNat]? = none := by simp; omega
    simp only [none_]; unfold reprEnd
    obtain ⟨ps, hp, dp⟩ := m.h
    obtain ⟨_, its2, n2, rv2, _, get2⟩ := I.lstM hp
    rw [dns_strs dp] at rv2
    obtain ⟨done, e1, e2⟩ := vals_strs rv2
    refine wpAny_bind (wpAny_listItems get2 rfl ?_)
    rw [show its2.toArray.toList = strValues done by simpa using e1, repr_fold]
    refine wpAny_bind (wpAny_pure ?_); rw [e2, ei, ← hlen, List.take_length]
    refine wpAny_bind (wpAny_mkStr (wpAny_pure ?_) (by show (listText ts).length ≤ sizeLine; omega))
    exact hR W H _ _ m.st (fun r kw => m.ok.swap) (I.tok _)
  | succ n ih =>
    intro i s W H hn hi m I
    have lt : i < l.length := by omega
    have el : l[i]? = some l[i] := List.getElem?_eq_getElem lt
    obtain ⟨t, et, wr⟩ := hT i _ el
    have p1 := piled_take_succ et
    have p2 := piled_take_le ts (i + 1)
    obtain ⟨_, its, n0, rv, _, get⟩ := I.lstM (m.st.keep a _ ha nP)
    obtain ⟨v, ev, dv⟩ := hm.get' el
    obtain ⟨u, eu, ru⟩ := rv.get ev
    refine codeAny_builtin F.entry_list_repr_loop ?_
    show wpAny _ _ («list.__repr__.loop» ⟨[.ref a, .int i 0, .ref P, .int ((base + piled (ts.take i) : Nat) : Int) 0], []⟩) _ _ s
    rw [repr_loop_tree]; refine wpAny_bind (wpAny_listItems get rfl ?_)
    have some_ : its.toArray[(i : Int).toNat]? = some u := by simpa using eu
    simp only [some_]; rw [Int.toNat_natCast]
    refine wpAny_bind (wpAny_holding (wr _ _ W H pins σ s v u (base + piled (ts.take i) + 1) _ _ (ar_loop hA) (guards_under_guard (isGuard_list_loop _) hg) m.ok.swap I (dv.mono m.st.I) ru (by omega) fun W2 H2 s2 st2 ok2 I2 => ?_))
    refine wpAny_bind (wpAny_mkStr ?_ (each t (List.mem_of_getElem? et)))
    have m2 := m.step st2 ok2.swap
    obtain ⟨ps, hp, dp⟩ := m2.h
    have lp := dp.length
    rw [List.length_map, List.length_take] at lp
    obtain ⟨_, its2, n2, rv2, l2, get2⟩ := I2.lstM hp
    have lq : its2.length ≤ 1000 := by rw [← l2]; omega
    obtain ⟨ps', hp', _, m3⟩ := m2.more (d := .str t) hP (.str t) (by rw [List.length_map, List.length_take]; omega)
    rw [hp] at hp'
    cases hp'
    refine wpAny_bind ?_; show wpAny _ _ (updateSeq P _) _ _ _
    refine wpAny_updateSeq get2 rfl (wpAny_pure ⟨F.quiet_list_repr_loop _, ?_⟩) (by rw [List.size_toArray]; exact Nat.le_trans lq (by decide))
    have I3 := I2.lset (its' := its2 ++ [.str t s2.toks]) (ys := ps ++ [V.str t]) (f := (·.push (.str t s2.toks))) (t' := s2.toks + 1) hp get2 (by simp) (rv2.append (.cons ⟨_, rfl⟩ .nil)) (by rw [List.length_append, List.length_singleton, l2]; exact Nat.le_trans (Nat.succ_le_succ lq) (by decide))
    have e3 : (ts.take i).map D.str ++ [D.str t] = (ts.take (i + 1)).map D.str := by rw [List.take_add_one, et, List.map_append]; rfl
    rw [e3] at m3
    have e4 : ((i : Int) + 1) = ((i + 1 : Nat) : Int) := by omega
    have e5 : base + piled (ts.take i) + (t.length + 2) = base + piled (ts.take (i + 1)) := by omega
    rw [e4, e5]
    exact ih (i + 1) _ _ _ (by omega) lt m3 I3
end
end
end DL

set_option Elab.async false
set_option linter.all false
set_option maxRecDepth 100000
set_option maxHeartbeats 4000000
namespace DL
open PySem PySem.Spec PyProof.Rows L2 Builtin Builtin.List
section
variable {X : Cx} {k : Nat}
theorem wr_lstBody {A : Around} {g : List Code} {l : List D} {ts : List Str} {a : Addr} {xs : List V} {W : Wd} {H : Hp} {pins : List (Addr × Obj)} {σ : L2.St} {s : Shared} {base : Nat} {R : PySem.Result → Shared → Prop} (hl : l.length ≤ 1000) (hA : Ar X (k + 1) A) (hg : A.guards = some g) (ok : Ok g W H) (I : Inv X pins σ H s) (ha : W.I a = some (.lst xs)) (hm : Dns X.K W.I l xs)
    (rp : Rps l) (hlen : ts.length = l.length) (hT : ∀ (i : Nat) d, l[i]? = some d → ∃ t, ts[i]? = some t ∧ Wr X k d t) (hb : base + (listText ts).length ≤ sizeLine) (q : ∀ W' H' s' u, Stp W H W' H' → Ok g W' H' → Inv X pins σ H' s' → R (.ok (.ret (.str (listText ts) u))) s') :
    wpAny (model X.prog X.w) A.in1 (Builtin.listReprAt base ⟨[.ref a], []⟩) (fun fin s' => match fin with | .done f => R (.ok f) s' | .again c' => c'.quiet = true ∧ codeAny (model X.prog X.w) A c' R s') (fun e s' => R (.error e) s') s := by
  have hH := ok.ex _ _ ha
  obtain ⟨_, its, n0, rv, le, get⟩ := I.lstM hH
  have nP : ¬ W.P a := fun z => by rw [(ok.pot a z).1] at ha; cases ha
  have clr : ∀ b, InG g b → b ≠ a := fun b z e => by rw [e] at z; rw [(ok.gd a z).1] at ha; cases ha
  cases its with
  | nil =>
    have l0 : l = [] := List.length_eq_zero_iff.mp (by rw [hm.length, le]; rfl)
    subst l0
    have t0 : ts = [] := List.length_eq_zero_iff.mp hlen
    subst t0
    exact wpAny_list_repr_empty get rfl (q W H _ _ Stp.refl ok (I.tok _))
  | cons x r =>
    refine wpAny_list_repr_head (A := A.in1) hg (fun v rest kw h => listSameRef_of_ne fun e => clr a ⟨_, rest, kw, e ▸ h⟩ rfl) get rfl ?_
    refine wpAny_bind (m := newList []) (wpAny_newObj_type ?_); refine wpAny_pure ⟨F.quiet_list_repr_loop _, ?_⟩
    have hP := I.fresh
    have ok1 : ∀ r kw, Ok (.builtin "list.__repr__.loop" ⟨.ref a :: r, kw⟩ :: g) ⟨del W.I a, W.P⟩ H := fun r kw => ok.write ha fun ks z => by cases z
    have I1 := I.lnew (its := []) (ys := []) (t' := s.toks) .nil (Nat.zero_le _)
    refine wr_loop (W1 := ⟨del W.I a, W.P⟩) (H1 := H) (xs := xs) (pins := pins) (σ := σ) hA hg hH nP (del_lst rp ha hm) hP hlen hl hT hb (fun W' H' s' u st okc I' => ?_) _ 0 _ ⟨del W.I a, W.P⟩ _ rfl (Nat.zero_le _) ⟨Stp.own hP, (ok1 [] []).own hP, (ok1 [] []).notP hP, (ok1 [] []).free hP, [], upd_same, .nil⟩ I1
    obtain ⟨st2, ok2⟩ := written_stp ⟨_, _, _, List.mem_cons_self ..⟩ ok ha st (okc [] [])
    exact q _ _ _ u st2 ok2 I'
theorem wr_list {l : List D} {ts : List Str} (hl : l.length ≤ 1000) (rp : Rps l) (hlen : ts.length = l.length) (hT : ∀ (i : Nat) d, l[i]? = some d → ∃ t, ts[i]? = some t ∧ Wr X k d t) : Wr X (k + 1) (.lst l) (listText ts) := fun A g W H pins σ s v u base Q E hA hg ok I n r hb q => by
  cases n with
  | @lst _ a xs ha hm =>
    cases r
    obtain ⟨_, its, n0, rv, le, get⟩ := I.lstM (ok.ex _ _ ha)
    have ty : s.TypeIs (.ref a) "list" := ⟨_, get, rfl⟩
    refine wpAny_pyReprUnder_ref (by omega) ?_
    refine wpAny_pyReprObjUnder_twin (twin := "list.__repr__.under") ty F.slot_list_repr.toG rfl hA.r.units0 ?_
    refine call_twin_plain F.plain_list_repr_under F.entry_list_repr_under F.check_list_repr_under ty F.slot_list_repr.toG (F.args_list_repr_1 _) ?_
    exact wr_lstBody hl hA hg ok I ha hm rp hlen hT hb fun W' H' s' u st ok' I' => ⟨⟨_, _, rfl⟩, _, _, rfl, q _ _ _ st ok' I'⟩
/-- an object by its own __repr__ -/
theorem wr_obj {C : Addr} {fs : List (Str × D)} {t : Str} {sp : SpD} (F : Sm X.prog X.w X.K X.mg X.base C "__repr__" k sp) (q : ∀ Q : D → Prop, Q (.str t) → sp [.val (.obj C fs)] Q) : Wr X k (.obj C fs) t := fun A g W H pins σ s v u base Q E hA hg ok I n r hb c => by
  cases id n with
  | @obj _ _ p _ _ ha _ =>
    have r' := r
    cases (show u = Value.ref p from r)
    obtain ⟨f, fd, ps, F, hf, hi, hbb⟩ := F.ex
    obtain ⟨ox, od, J⟩ := inst_at I (ok.ex _ _ ha)
    refine wpAny_pyReprUnder_ref (by omega) ?_
    unfold pyReprObjUnder pyReprObjBy
    refine wpAny_bind (wpAny_cRoomFor hA.r.units0 ?_); refine wpAny_bind (wpAny_bind (J.type.here ((PySem.W.looks_findIn I.kIn hf).here ?_)))
    show wpAny _ _ (if (some (Value.ref f)).isNone = true then _ else _) _ _ _
    rw [if_neg (by simp)]
    have run : wpAny (model X.prog X.w) A (call (.ref f) [.ref p]) (fun r s' => ∃ tk, r = .str t tk ∧ Q t s') E s := by
      have hsp : lift X.K sp g [.ref p] H (fun z H' => z = .str t ∧ ∀ s', Inv X pins σ H' s' → Q t s') :=
        ⟨_, W, fun d => d = .str t, ok, .cons (show Arg X.K W (.val (.obj C fs)) (.ref p) from n) .nil, q _ rfl, fun d v2 W' H' st ok' n' e => by
          subst e
          cases n'
          exact ⟨rfl, fun s' I' => c W' H' s' st ok' I'⟩⟩
      refine wpAny_call (run_gn (A := A) (us := [.ref p]) (vs := [.ref p]) F hA.r hg (hA.env I) hbb .nil I (.cons r' .nil) hsp fun u s' hv => ?_)
      obtain ⟨z, H', I3, rz, e, q3⟩ := hv
      subst e
      obtain ⟨tk, rfl⟩ := (show ∃ tk, u = Value.str t tk from rz)
      exact ⟨tk, rfl, q3 s' I3⟩
    have fin : wpAny (model X.prog X.w) A (call (.ref f) ([.ref p] ++ []) >>= fun v => pure (some v)) (fun r s' => ∃ tk, r = some (.str t tk) ∧ Q t s') E s := wpAny_bind (wpAny_mono run (fun r s' ⟨tk, e, q⟩ => wpAny_pure ⟨tk, by rw [e], q⟩) fun _ _ y => y)
    refine wpAny_bind (wpAny_mono (Q := fun r s' => ∃ tk, r = some (.str t tk) ∧ Q t s') ?_ (fun r s' ⟨tk, e, qq⟩ => ?_) fun _ _ y => y)
    · simp only [callSpecialIfBoundBy?, bindSpecialIfBound?]
      refine wpAny_holding (wpAny_bind (wpAny_bind (wpAny_bind (J.type.here ((PySem.W.looks_findIn I.kIn hf).here ?_)))))
      refine wpAny_bind (wpAny_askSetting (wpAny_ite ?_))
      split
      · exact wpAny_bind ((PySem.W.bind_fn I.kIn _ (beq_iff_eq.mp hi)).here (wpAny_pure (by exact fin)))
      · exact wpAny_tryCatch (wpAny_bind ((PySem.W.bind_fn I.kIn _ (beq_iff_eq.mp hi)).here (wpAny_pure (by exact fin))))
    · subst e
      refine wpAny_bind (wpAny_isInstance (typeIs_str _ _ _) isSubtype_str_str ?_)
      first
        | exact wpAny_pure ⟨_, _, rfl, qq⟩
        | (rw [if_pos rfl]; exact wpAny_pure ⟨_, _, rfl, qq⟩)
        | (simp only [if_true]; exact wpAny_pure ⟨_, _, rfl, qq⟩)
theorem ar_here {pins : List (Addr × Obj)} {σ : L2.St} {H : Hp} {s : Shared} (hr : Room (k + 1) X.A) (I : Inv X pins σ H s) : Ar X k X.A.in1 := ⟨hr.in1, I.env0.frames⟩
theorem cd_reprL {l : List D} {ts : List Str} {Q : D → Prop} (hr : Room (k + 2) X.A) (hG : X.A.guards = some (gOf X)) (hl : l.length ≤ 1000) (rp : Rps l) (hlen : ts.length = l.length) (hT : ∀ (i : Nat) d, l[i]? = some d → ∃ t, ts[i]? = some t ∧ Wr X k d t) (hb : (listText ts).length ≤ sizeLine) (q : Q (.str (listText ts))) : CD X (.builtin "repr") [.val (.lst l)] Q := fun vs W H ok ha R c pins s σ us I rv => by
  obtain ⟨v, rfl, n⟩ := one_arg ha
  cases rv with
  | cons r1 r2 =>
    cases r2
    cases n with
    | @lst _ a xs hI hm =>
      cases r1
      obtain ⟨_, its, n0, rv, le, get⟩ := I.lstM (ok.ex _ _ hI)
      have ty : s.TypeIs (.ref a) "list" := ⟨_, get, rfl⟩
      have u0 := hr.un
      refine call_repr_slot (by omega) ty F.slot_list_repr.toG (wpAny_call (codeAny_call_builtin F.slot_list_repr.plain F.entry_list_repr (F.slot_list_repr.check _ _ _ _ _ _ _ _ ty (F.args_list_repr_1 _) ?_)))
      exact wr_lstBody (base := 0) (R := callEnd (fun r s₁ => ∃ x t, r = .str x t ∧ EP X pins σ R r s₁) X.xe) hl (ar_here hr I) hG ok I hI hm rp hlen hT (by omega) fun W' H' s' u st ok' I' => ⟨_, _, rfl, .str _, H', I', ⟨u, rfl⟩, c (.str _) _ W' H' st ok' (.str _) q⟩
end
end DL

set_option Elab.async false
set_option linter.all false
set_option maxRecDepth 100000
set_option maxHeartbeats 8000000
/-! k85: texts -/
namespace DL
open PySem PySem.Spec PyProof.Rows L2
theorem textFrom_up {n : Nat} : ∀ (ts : List Str) (k : Nat) (acc : Str), (∀ t ∈ ts, t.length ≤ n) → (textFrom k acc ts).length ≤ acc.length + (n + 2) * ts.length
  | [], k, acc, _ => Nat.le_add_right _ _
  | t :: r, k, acc, h => by
    have ih := textFrom_up r (k + 1) (acc ++ (if k > 0 then ", " else "" : String) ++ t) fun x hx => h x (by simp [hx])
    have e : (acc ++ (if k > 0 then ", " else "" : String) ++ t).length = acc.length + (if k > 0 then 2 else 0) + t.length := by
      rw [Str.length_append, Str.length_append]
      split <;> rfl
    rw [e] at ih
    have ht := h t (by simp)
    have : (if k > 0 then 2 else 0) ≤ 2 := by split <;> omega
    rw [List.length_cons, Nat.mul_succ]
    exact Nat.le_trans ih (by omega)
theorem listText_up {n : Nat} {ts : List Str} (h : ∀ t ∈ ts, t.length ≤ n) : (listText ts).length ≤ (n + 2) * ts.length + 4 := by
  unfold listText
  rw [Str.length_append]
  have := textFrom_up ts 0 "[" h
  have e1 : (("[" : String) : Str).length = 1 := rfl
  have e2 : (("]" : String) : Str).length = 1 := rfl
  omega
/-- data with a text -/
def Tx (X : Cx) (k n : Nat) (d : D) : Prop := Rp d ∧ ∃ t, Wr X k d t ∧ t.length ≤ n
theorem tx_all {X : Cx} {k n : Nat} : ∀ {l : List D}, (∀ x ∈ l, Tx X k n x) → Rps l ∧ ∃ ts : List Str, ts.length = l.length ∧ (∀ t ∈ ts, t.length ≤ n) ∧ ∀ (i : Nat) d, l[i]? = some d → ∃ t, ts[i]? = some t ∧ Wr X k d t
  | [], _ => ⟨.nil, [], rfl, by simp, by simp⟩
  | x :: l, h => by
    obtain ⟨r, t, w, b⟩ := h x (by simp)
    obtain ⟨rs, ts, e, bs, ws⟩ := tx_all (l := l) fun y hy => h y (by simp [hy])
    refine ⟨.cons r rs, t :: ts, by rw [List.length_cons, List.length_cons, e], fun y hy => ?_, fun i d hd => ?_⟩
    · rcases List.mem_cons.mp hy with z | z
      · rw [z]; exact b
      · exact bs y z
    · cases i with
      | zero => cases hd; exact ⟨t, rfl, w⟩
      | succ i => exact ws i d hd
theorem tx_seq {X : Cx} {k n : Nat} {d : D} {l : List D} (sd : d = .lst l) (hl : l.length ≤ 1000) (h : ∀ x ∈ l, Tx X k n x) : Tx X (k + 1) ((n + 2) * l.length + 4) d := by
  obtain ⟨rs, ts, e, bs, ws⟩ := tx_all h
  subst sd
  · exact ⟨.lst rs, _, wr_list hl rs e ws, by rw [← e]; exact listText_up bs⟩
theorem Tx.mono {X : Cx} {k n m : Nat} {d : D} (h : Tx X k n d) (e : n ≤ m) : Tx X k m d := let ⟨r, t, w, b⟩ := h; ⟨r, t, w, Nat.le_trans b e⟩
end DL
namespace K85
open PySem L2 DL
section
variable {X : Cx} {C : Addr}
theorem tx_num (L : Lv X.prog X.w X.K X.mg X.base C) {d : D} {r : Rat} (h : Nq C 1900 d r) : Tx X 1 4000 d := by
  cases h with
  | rat r h =>
    refine ⟨.obj (.cons (.int _) (.cons (.int _) .nil)), reprF (fr r), wr_obj L.repr (fun Q q => ⟨fr r, rfl, h, q⟩), ?_⟩
    unfold reprF
    have l3 : (("Ratio(" : Str)).length ≤ 6 := by decide +kernel
    have l4 : ((", " : Str)).length ≤ 2 := by decide +kernel
    have l5 : ((")" : Str)).length ≤ 1 := by decide +kernel
    exact Nat.le_trans (app_len (app_len (app_len (app_len l3 (tlen h.t)) l4) (tlen h.b)) l5) (by decide)
  | int i h => exact ⟨.int _, _, wr_int (tl h.t), Nat.le_trans (tlen h.t) (by decide)⟩
theorem tx_nums (L : Lv X.prog X.w X.K X.mg X.base C) {d : D} {l : List D} {rs : List Rat} (sd : d = .lst l) (h : Nqs C 1900 l rs) (hl : l.length ≤ 5) : Tx X 2 20020 d := by
  refine (tx_seq (k := 1) (n := 4000) sd (by omega) fun x hx => ?_).mono ?_
  · obtain ⟨i, hi, e⟩ := List.getElem_of_mem hx
    obtain ⟨r, _, q⟩ := h.get (List.getElem?_eq_getElem hi)
    rw [e] at q
    exact tx_num L q
  · have : (4000 + 2) * l.length ≤ (4000 + 2) * 5 := Nat.mul_le_mul_left _ hl
    omega
end
end K85

set_option Elab.async false
set_option linter.all false
set_option maxRecDepth 100000
set_option maxHeartbeats 8000000
/-! l.index(i) of a list of ints -/
namespace DL
open PySem PySem.Spec PyProof.Rows L2
section
variable {X : Cx} {B : Hp} {S : En} {pos apos cpos : Pos} {Q : D → Prop} {o e : Expr}
theorem ints_at {K : PySem.W.Frag} {I : Hp} : ∀ {l : List Int} {xs : List V}, Dns K I (l.map D.int) xs → xs = l.map V.int
  | [], _, .nil => rfl
  | i :: l, _, .cons n m => by
    cases n
    rw [ints_at m]
    rfl
theorem ed_idxL {l : List Int} {i : Int} {k : Nat} (hk : l[k]? = some i) (hno : ∀ m, m < k → l[m]? ≠ some i) (h : ED X B S o fun d => d = .lst (l.map D.int) ∧ ED X B S e fun y => y = .int i ∧ Q (.int (k : Int)))
    (hps : PE X (.Call (.Attribute o "index" apos) [e] [] cpos) (tBM X.K "list" (rIndex X.K) (WE X o) (tCons (WE X e) tNil)) := by
      exact pe_bm PySem.F.plainAttrs_list PySem.F.slot_list_index PySem.F.type_list_index L2.mt_index DL.we_pe (pa_cons DL.we_pe pa_nil)) : ED X B S (.Call (.Attribute o "index" apos) [e] [] cpos) Q := fun σ W H r R k0 => by
  refine PE.w hps ?_
  refine h σ W H r _ fun d v W1 H1 s1 ok1 n1 q1 => ?_
  obtain ⟨rfl, q1⟩ := q1
  cases n1 with
  | @lst _ a xs ha m =>
    have ex := ints_at m
    subst ex
    refine ⟨.inl ⟨rfl, _, SqL.of (ok1.ex _ _ ha)⟩, ?_⟩
    refine q1 σ W1 H1 (r.step s1 ok1) _ fun d2 u W2 H2 s2 ok2 n2 q2 => ?_
    obtain ⟨rfl, q2⟩ := q2
    cases n2
    refine ⟨a, l.map V.int, .int i, k, .int i, rfl, rfl, SqL.of (ok2.ex _ _ (s2.I _ _ ha)), rfl, ?_, by rw [List.getElem?_map, hk]; rfl, by simp [eqV], fun m z' hm hz => ?_, ((k0.step s1 ok1).step s2 ok2).now ok2 (.int _) q2⟩
    · rw [List.all_map]
      exact List.all_eq_true.mpr fun x _ => rfl
    · rw [List.getElem?_map] at hz
      obtain ⟨j, hj, rfl⟩ := Option.map_eq_some_iff.mp hz
      have ne : j ≠ i := fun e => hno m hm (by rw [hj, e])
      simp [eqV, ne]
end
end DL

set_option Elab.async false
set_option linter.all false
set_option maxRecDepth 100000
set_option maxHeartbeats 4000000
/-! for x, y, z in zip(a, b, c) -/
namespace Z3
open PySem PySem.Spec PyProof.Rows ZX
def ItAt : Bool → Addr → Addr → Nat → Heap → Prop
  | true => fun it l i h => h.IsTupleIter it l i
  | false => fun it l i h => h.IsListIter it l i
/-- how the zip stands ahead of turn i -/
structure St (t u v : Bool) (a b c z TI TO i1 i2 i3 : Addr) (i : Nat) (h : Heap) : Prop where
  z : IsZip h z TI TO .none
  ti : IsTupOf3 h TI (.ref i1) (.ref i2) (.ref i3)
  to : ∃ x y w, IsTupOf3 h TO x y w
  f : ItAt t i1 a i h
  g : ItAt u i2 b i h
  e : ItAt v i3 c i h
end Z3
namespace DL
open PySem PySem.Spec PyProof.Rows L2 ZX Z3
def Itm3 (K : PySem.W.Frag) (t u v : Bool) (a b c : Addr) : It where
  go := fun i H => ∃ (xs ys ws : List V) (x y w : V), SqB K t H a xs ∧ SqB K u H b ys ∧ SqB K v H c ws ∧ xs[i]? = some x ∧ ys[i]? = some y ∧ ws[i]? = some w
  yld := fun i H r H' => ∃ T x y w, r = .ref T ∧ H T = none ∧ H' = upd H T (.tup [x, y, w]) ∧ (∀ xs, SqB K t H a xs → xs[i]? = some x) ∧ (∀ ys, SqB K u H b ys → ys[i]? = some y) ∧ ∀ ws, SqB K v H c ws → ws[i]? = some w
  stop := fun i H => ∃ xs ys ws : List V, SqB K t H a xs ∧ SqB K u H b ys ∧ SqB K v H c ws ∧ i ≤ xs.length ∧ i ≤ ys.length ∧ i ≤ ws.length ∧ (i = xs.length ∨ i = ys.length ∨ i = ws.length)
def iZm3 (K : PySem.W.Frag) (ta : TA) : TI := fun σ H R => ta σ H fun vs H1 => ∃ t u v a b c xs ys ws, vs = [.ref a, .ref b, .ref c] ∧ SqB K t H1 a xs ∧ SqB K u H1 b ys ∧ SqB K v H1 c ws ∧ R (Itm3 K t u v a b c) H1
section
variable {X : Cx} {B : Hp} {W0 : Wd} {S : En} {pos p p1 : Pos} {e e2 e3 : Expr} {E : Ends'}
end
end DL

set_option Elab.async false
set_option linter.all false
set_option maxRecDepth 100000
set_option maxHeartbeats 4000000
/-! dict != dict, both the same, by an own == inside where there is one -/
namespace DL
open PySem PySem.Spec PyProof.Rows L2
section
variable {X : Cx} {n : Nat} {Q : D → Prop}
end
end DL

set_option Elab.async false
set_option linter.all false
set_option maxRecDepth 100000
set_option maxHeartbeats 4000000
/-! dict(d) of a dict with keys of ints: a copy, where no two keys hash alike -/
namespace DCP
open PySem PySem.Spec PyProof.Rows
section
variable {prog : Program} {w : World} {K : Type} [DecidableEq K] {knd : HeapKind prog w K} {A : Around} {E : Value → Shared → Prop} {s : Shared}
end
end DCP

namespace DL
open PySem PySem.Spec PyProof.Rows L2
abbrev hK (P : Program) (w : World) (k : List Key) : Int := (tupleKind (mixKind P w)).hash k
section
variable {X : Cx} {B : Hp} {S : En} {pos p : Pos} {e : Expr}
end
end DL

set_option Elab.async false
set_option linter.all false
set_option maxRecDepth 100000
set_option maxHeartbeats 4000000
/-! == and != whatever comes out, by an own == inside where there is one -/
namespace NB
open PySem PySem.SeqAt
open AutoSeq1 (wpAny_loadPart')
open MeetsSeq MeetsSeq2 MeetsSeq3 SeqRoads2
/-- k of them from i on -/
def upTo (vs : Nat → Bool) (i : Nat) : Nat → Bool
  | 0 => true
  | k + 1 => vs i && upTo vs (i + 1) k
section
variable {prog : Program} {w : World} {A : Around} {R : Result → Shared → Prop}
/-- two lists, read anew at each turn -/
def Both (prog : Program) (w : World) (A : Around) (E : Value → Shared → Prop) (l b : Addr) (n m : Nat) (vs : Nat → Bool) (Z : Shared → Prop) : Prop :=
  ∀ t, Z t → ∃ (xs ys : Array Value) (c d : Nat), t.heap.get? l = some { cls := .type "list", data := .seq xs c } ∧ t.heap.get? b = some { cls := .type "list", data := .seq ys d } ∧ xs.size = n ∧ ys.size = m ∧
    ∀ i (p : i < xs.size) (q : i < ys.size), wpAny (model prog w) A.in1 (eqBool xs[i] ys[i]) (fun r t' => r = vs i ∧ Z t') E t
end
section
variable {prog : Program} {w : World} {A : Around} {E : Value → Shared → Prop} {t : Shared} {l b : Addr} {n m : Nat} {vs : Nat → Bool} {Q : Value → Shared → Prop}
end
end NB

set_option Elab.async false
set_option linter.all false
set_option maxRecDepth 100000
set_option maxHeartbeats 4000000
/-! the same for tuples and dicts; judgements with a verdict -/
namespace NB
open PySem PySem.SeqAt
open AutoSeq1 (wpAny_loadPart')
open MeetsSeq MeetsSeq2 MeetsSeq3 SeqRoads2
section
variable {prog : Program} {w : World} {A : Around} {R : Result → Shared → Prop}
end
section
variable {prog : Program} {w : World} {A : Around} {E : Value → Shared → Prop} {t : Shared} {l b : Addr} {vs : Nat → Bool} {Q : Value → Shared → Prop}
end
end NB

set_option Elab.async false
set_option linter.all false
set_option maxRecDepth 100000
set_option maxHeartbeats 4000000
/-! == with a verdict, of data that hold own objects -/
namespace DL
open PySem PySem.Spec PyProof.Rows L2
def EqB (X : Cx) (n : Nat) (x y : D) (b : Bool) : Prop := ∀ (A : Around) (pins : List (Addr × Obj)) (t : Shared) (τ : L2.St) (W : Wd) (H : Hp) (v u : V) (v' u' : Value), L2.Sub X n A → A.guards = some (gOf X) → Inv X pins τ H t → Ok (gOf X) W H → Dn X.K W.I x v → Dn X.K W.I y u → RelV v v' → RelV u u' →
  wpAny (model X.prog X.w) A (eqBool v' u') (fun r t' => r = b ∧ Later X pins τ W H t') X.xe t
def RcB (X : Cx) (n : Nat) (x y : D) (b : Bool) : Prop := ∀ (A : Around) (pins : List (Addr × Obj)) (t : Shared) (τ : L2.St) (W : Wd) (H : Hp) (v u : V) (v' u' : Value), L2.Sub X n A → A.guards = some (gOf X) → Inv X pins τ H t → Ok (gOf X) W H → Dn X.K W.I x v → Dn X.K W.I y u → RelV v v' → RelV u u' →
  wpAny (model X.prog X.w) A (richCompare .Eq v' u') (fun r t' => r = .bool b ∧ Later X pins τ W H t') X.xe t
/-- no value is both -/
def Apart (K : PySem.W.Frag) (x y : D) : Prop := ∀ I v, Dn K I x v → Dn K I y v → False
section
variable {X : Cx} {n m : Nat} {x y : D} {b : Bool}
end
section
variable {X : Cx} {n : Nat} {x y : D} {b : Bool} {Q : D → Prop}
end
end DL

set_option Elab.async false
set_option linter.all false
set_option maxRecDepth 100000
set_option maxHeartbeats 4000000
/-! an object == a list, an object != a text; data apart -/
namespace DL
open PySem PySem.Spec PyProof.Rows L2
section
variable {X : Cx} {Q : D → Prop} {C : Addr} {k : Nat} {sp : SpD} {fs : List (Str × D)}
end
end DL

set_option Elab.async false
set_option linter.all false
set_option maxRecDepth 100000
set_option maxHeartbeats 4000000
/-! a, b, c = a list -/
namespace UL
open PySem PyProof.Rows
section
variable {prog : Program} {w : World} {A : Around} {E : Value → Shared → Prop}
theorem drawn {p l : Addr} {xs : Array Value} (ne : l ≠ p) (k : Nat) : ∀ (i : Nat) (t : Shared) (Q : List Value → Shared → Prop), t.heap.IsListIter p l i → t.heap.IsList l xs → i + k ≤ xs.size →
    (∀ h', h'.IsListIter p l (i + k) → Heap.SameBut p t.heap h' → Q ((xs.toList.drop i).take k) { t with heap := h' }) → wpAny (model prog w) A (draw (.ref p) k) Q E t := by
  induction k with
  | zero =>
    intro i t Q hp hl le q
    show wpAny _ _ (pure []) Q E t
    exact wpAny_pure (by simpa using q t.heap hp (Heap.SameBut.refl ..))
  | succ k ih =>
    intro i t Q hp hl le q
    have lt : i < xs.size := by omega
    show wpAny _ _ (pyNext (.ref p) >>= _) Q E t
    refine wpAny_bind (wpAny_pyNext_list_item hp hl (x := xs[i]) (by simp [lt]) fun h1 p1 s1 => ?_)
    refine wpAny_bind (wpAny_holding (ih (i + 1) _ _ p1 (hl.extBut s1.extBut ne) (by omega) fun h2 p2 s2 => wpAny_pure ?_))
    have z := q h2 (by rw [show i + (k + 1) = i + 1 + k by omega]; exact p2) (s1.trans s2)
    rw [show xs.toList.drop i = xs[i] :: xs.toList.drop (i + 1) by simp [List.drop_eq_getElem_cons, lt], List.take_succ_cons] at z
    exact z
theorem unpacked {l : Addr} {xs : Array Value} {t : Shared} {Q : List Value → Shared → Prop} (hh : A.handled = none) (hl : t.heap.IsList l xs)
    (q : ∀ h', Heap.ExtBut t.heap.objs.size t.heap h' → Q xs.toList { t with heap := h' }) : wpAny (model prog w) A (unpackItems (.ref l) xs.size none) Q E t := by
  have ne : l ≠ t.heap.objs.size := by obtain ⟨o, e, _⟩ := hl; exact Nat.ne_of_lt (Heap.lt_size e)
  have push : ∀ o, ({ t with heap := t.heap.push o } : Shared).heap.IsList l xs := fun o => by
    obtain ⟨o', e, c, n, d⟩ := hl
    exact ⟨o', Heap.get?_push_of_some _ e, c, n, d⟩
  unfold unpackItems notIterableAtAll
  refine wpAny_bind (wpAny_bind (wpAny_specialOf hl.typeIs slot_list_iter.lookup (wpAny_pure ?_)))
  simp only [Bool.false_eq_true, if_false]
  refine wpAny_bind (wpAny_holding (wpAny_pyIter_list hl ?_))
  refine wpAny_bind (wpAny_holding (drawn ne xs.size 0 _ _ ⟨_, Heap.get?_push_size _ rfl, rfl, rfl⟩ (push _) (by omega) fun h1 p1 s1 => ?_))
  rw [show List.take xs.size (List.drop 0 xs.toList) = xs.toList by rw [List.drop_zero]; exact List.take_of_length_le (by simp), if_neg (by simp)]
  refine wpAny_bind (wpAny_holding (wpAny_pyNext_list_end hh p1 ((push _).extBut s1.extBut ne) (by simp) fun h2 e2 => ?_))
  simp only [Option.isSome_none, Bool.false_eq_true, if_false]
  exact wpAny_pure (q h2 fun b o hb e => e2 b o hb (s1.extBut b o hb (Heap.get?_push_of_some _ e)))
end
end UL
namespace DL
open PySem L2
section
variable {X : Cx} {B : Hp} {W0 : Wd} {S : En} {pos : Pos} {Q : En → Prop}
theorem gd_lst {es : List Expr} {k0 : Nat} {ds : List D} {n : Nat} (hc : X.calm = true) (h : GDs X B W0 S es ds Q) (hl : ds.length = n) (hn : (assignEach es X.env).length = n := by rfl) (hst : (assignEach es X.env).findIdx? (·.1) = none := by rfl) : GD X B W0 S (.Tuple es k0 pos) (.lst ds) Q := fun σ W H v r z m R k => by
  cases m with
  | @lst _ a xs hp m =>
    intro pins s u I rv
    cases rv
    obtain ⟨z1, its, kk, r1, e1⟩ := I.hok a _ (r.ok.ex _ _ hp)
    have il : s.heap.IsList a its.toArray := ⟨_, e1, rfl, _, rfl⟩
    have sz : (assignEach es X.env).length = its.toArray.size := by rw [hn, ← hl, m.length, r1.length, List.size_toArray]
    rw [PyProof.Rows.assign_Tuple]
    refine wpAny_bind (wpAny_standAt ?_)
    unfold unpack
    rw [sz, hst]
    refine wpAny_bind (wpAny_holding (UL.unpacked (I.ok.hd hc) il fun h' hx => ?_))
    have I1 : Inv X pins σ H { s with heap := h' } := I.kept (t' := s.toks) fun b o e => hx b o (Nat.ne_of_lt (Heap.lt_size e)) e
    exact h σ W H xs r z m R k pins _ _ I1 (by simpa using r1)
end
end DL

set_option Elab.async false
set_option linter.all false
set_option maxRecDepth 100000
set_option maxHeartbeats 8000000
/-! k85: slacks of rows turned about -/
namespace K85
open PySem L2 DL M85
theorem one_front {α : Type} : ∀ (l : List α) (i : Nat), i < l.length → ∃ rest : List α, rest.length + 1 = l.length ∧ (∀ r ∈ rest, r ∈ l) ∧ ∀ a, (l.set i a).Perm (a :: rest)
  | [], i, h => absurd h (Nat.not_lt_zero _)
  | x :: l, 0, _ => ⟨l, rfl, fun r hr => List.mem_cons_of_mem _ hr, fun a => .refl _⟩
  | x :: l, i + 1, h => by
    obtain ⟨rest, h1, h2, h3⟩ := one_front l i (Nat.lt_of_succ_lt_succ h)
    refine ⟨x :: rest, by rw [List.length_cons, List.length_cons, h1], fun r hr => ?_, fun a => ?_⟩
    · rcases List.mem_cons.mp hr with rfl | hr
      · exact List.mem_cons_self ..
      · exact List.mem_cons_of_mem _ (h2 r hr)
    · exact ((h3 a).cons x).trans (List.Perm.swap a x rest)
theorem two_front {α : Type} : ∀ (l : List α) (i j : Nat), i ≠ j → i < l.length → j < l.length → ∃ rest : List α, rest.length + 2 = l.length ∧ (∀ r ∈ rest, r ∈ l) ∧ ∀ a b, ((l.set i a).set j b).Perm (a :: b :: rest)
  | [], i, _, _, h, _ => absurd h (Nat.not_lt_zero _)
  | x :: l, 0, 0, ne, _, _ => absurd rfl ne
  | x :: l, 0, j + 1, _, _, hj => by
    obtain ⟨rest, h1, h2, h3⟩ := one_front l j (Nat.lt_of_succ_lt_succ hj)
    exact ⟨rest, by rw [List.length_cons, ← h1], fun r hr => List.mem_cons_of_mem _ (h2 r hr), fun a b => (h3 b).cons a⟩
  | x :: l, i + 1, 0, _, hi, _ => by
    obtain ⟨rest, h1, h2, h3⟩ := one_front l i (Nat.lt_of_succ_lt_succ hi)
    exact ⟨rest, by rw [List.length_cons, ← h1], fun r hr => List.mem_cons_of_mem _ (h2 r hr), fun a b => ((h3 a).cons b).trans (List.Perm.swap a b rest)⟩
  | x :: l, i + 1, j + 1, ne, hi, hj => by
    obtain ⟨rest, h1, h2, h3⟩ := two_front l i j (fun e => ne (by rw [e])) (Nat.lt_of_succ_lt_succ hi) (Nat.lt_of_succ_lt_succ hj)
    refine ⟨x :: rest, by rw [List.length_cons, List.length_cons, ← h1], fun r hr => ?_, fun a b => ?_⟩
    · rcases List.mem_cons.mp hr with rfl | hr
      · exact List.mem_cons_self ..
      · exact List.mem_cons_of_mem _ (h2 r hr)
    · exact ((h3 a b).cons x).trans ((List.Perm.swap a x (b :: rest)).trans ((List.Perm.swap b x rest).cons a))
def SF (f g : Row) (rest : List Row) (cs : List Nat) : Rat := perI (f :: g :: rest) cs * perI (f :: g :: rest) cs - perI (f :: f :: rest) cs * perI (g :: g :: rest) cs
theorem set_self {α : Type} {l : List α} {i : Nat} {a : α} (h : l[i]? = some a) : l.set i a = l := by
  refine List.ext_getElem? fun k => ?_
  rw [List.getElem?_set]
  by_cases c : i = k
  · subst c
    rw [if_pos rfl, if_pos (List.getElem?_eq_some_iff.mp h).1, h]
  · rw [if_neg c]
/-- two rows of a square ahead of the others -/
theorem front {fs : List Row} {i j : Nat} {f g : Row} (ne : i ≠ j) (hi : fs[i]? = some f) (hj : fs[j]? = some g) : ∃ rest : List Row, rest.length + 2 = fs.length ∧ (∀ r ∈ rest, r ∈ fs) ∧ (∀ a b, ((fs.set i a).set j b).Perm (a :: b :: rest)) ∧ fs.Perm (f :: g :: rest) ∧ ∀ cs, slackQ fs cs i j = SF f g rest cs := by
  obtain ⟨rest, h1, h2, h3⟩ := two_front fs i j ne (List.getElem?_eq_some_iff.mp hi).1 (List.getElem?_eq_some_iff.mp hj).1
  have p0 : fs.Perm (f :: g :: rest) := by
    have := h3 f g
    rw [set_self hi, set_self hj] at this
    exact this
  have p1 : (setR fs i j).Perm (f :: f :: rest) := by
    have := h3 f f
    rw [set_self hi] at this
    unfold setR
    rw [List.getD_eq_getElem?_getD, hi]
    exact this
  have p2 : (setR fs j i).Perm (g :: g :: rest) := by
    have := h3 g g
    rw [List.set_comm _ _ ne, set_self hj] at this
    unfold setR
    rw [List.getD_eq_getElem?_getD, hj]
    exact this
  exact ⟨rest, h1, h2, h3, p0, fun cs => by unfold slackQ SF; rw [perI_rows p0, perI_rows p1, perI_rows p2]⟩
theorem SF_perm {f g : Row} {r s : List Row} (p : r.Perm s) (cs : List Nat) : SF f g r cs = SF f g s cs := by
  unfold SF
  rw [perI_rows ((p.cons g).cons f), perI_rows ((p.cons f).cons f), perI_rows ((p.cons g).cons g)]
theorem slack_nn {b n : Nat} {fs : List Row} {i j : Nat} (nb : NB b fs) (lf : fs.length = n) (n2 : 2 ≤ n) (n4 : n ≤ 4) (ne : i ≠ j) (hi : i < n) (hj : j < n) : 0 ≤ slackQ fs (List.range n) i j := by
  have ei : fs[i]? = some (fs[i]'(by omega)) := List.getElem?_eq_getElem _
  have ej : fs[j]? = some (fs[j]'(by omega)) := List.getElem?_eq_getElem _
  obtain ⟨rest, h1, h2, _, _, h4⟩ := front ne ei ej
  rw [h4]
  have := twin (f := fs[i]'(by omega)) (g := fs[j]'(by omega)) (fs := rest) n2 n4 (by omega) (fun c => (nb _ (List.getElem_mem _) c).1) (fun c => (nb _ (List.getElem_mem _) c).1) (fun r hr c => (nb r (h2 r hr) c).1)
  unfold SF
  grind
/-- rows in another sequence -/
theorem slack_turn {fs : List Row} {os : List Nat} {i j i' j' : Nat} (p : os.Perm (List.range fs.length)) (ne : i ≠ j) (hi : i < fs.length) (hj : j < fs.length) (ei : os[i']? = some i) (ej : os[j']? = some j) (cs : List Nat) : slackQ (os.map fun a => fs.getD a fun _ => 0) cs i' j' = slackQ fs cs i j := by
  have gi : fs[i]? = some (fs[i]'hi) := List.getElem?_eq_getElem _
  have gj : fs[j]? = some (fs[j]'hj) := List.getElem?_eq_getElem _
  have oi : (os.map fun a => fs.getD a fun _ => 0)[i']? = some (fs[i]'hi) := by
    rw [List.getElem?_map, ei]
    show some (fs.getD i _) = _
    rw [List.getD_eq_getElem?_getD, gi]
    rfl
  have oj : (os.map fun a => fs.getD a fun _ => 0)[j']? = some (fs[j]'hj) := by
    rw [List.getElem?_map, ej]
    show some (fs.getD j _) = _
    rw [List.getD_eq_getElem?_getD, gj]
    rfl
  have ne' : i' ≠ j' := fun e => by
    rw [e, ej] at ei
    cases ei
    exact ne rfl
  have e : (List.range fs.length).map (fun a => fs.getD a fun _ => (0 : Rat)) = fs := by
    refine List.ext_getElem? fun k => ?_
    rw [List.getElem?_map]
    by_cases c : k < fs.length
    · rw [List.getElem?_range c]
      show some (fs.getD k _) = _
      rw [List.getD_eq_getElem?_getD, List.getElem?_eq_getElem c]
      rfl
    · rw [List.getElem?_eq_none (by rw [List.length_range]; omega), List.getElem?_eq_none (by omega)]
      rfl
  obtain ⟨r1, _, _, _, q1, s1⟩ := front ne gi gj
  obtain ⟨r2, _, _, _, q2, s2⟩ := front ne' oi oj
  have pp : (os.map fun a => fs.getD a fun _ => (0 : Rat)).Perm fs := by
    have := p.map (fun a => fs.getD a fun _ => (0 : Rat))
    rw [e] at this
    exact this
  rw [s1, s2]
  have := (q2.symm.trans (pp.trans q1)).cons_inv.cons_inv
  exact SF_perm this cs
theorem slack_cols {fs : List Row} {cs ds : List Nat} (p : cs.Perm ds) (i j : Nat) : slackQ fs cs i j = slackQ fs ds i j := by
  unfold slackQ
  rw [perI_cols _ p, perI_cols _ p, perI_cols _ p]
theorem scale2 (k : Rat) (f g : Row) (r : List Row) (cs : List Nat) : perI (g :: (fun c => f c * k) :: r) cs = k * perI (g :: f :: r) cs := by rw [perI_swap g, perI_scale, perI_swap f]
theorem slack_more {fs : List Row} {i j : Nat} {f : Row} (k : Rat) (ne : i ≠ j) (hi : fs[i]? = some f) (hj : j < fs.length) (cs : List Nat) : slackQ (fs.set i fun c => f c * k) cs i j = slackQ fs cs i j * (k * k) := by
  have hj' : fs[j]? = some (fs[j]'hj) := List.getElem?_eq_getElem _
  have il := (List.getElem?_eq_some_iff.mp hi).1
  obtain ⟨r1, _, _, a1, q1, s1⟩ := front ne hi hj'
  have m1 : (fs.set i fun c => f c * k)[i]? = some (fun c => f c * k) := by rw [List.getElem?_set, if_pos rfl, if_pos il]
  have m2 : (fs.set i fun c => f c * k)[j]? = some (fs[j]'hj) := by rw [List.getElem?_set, if_neg ne, hj']
  obtain ⟨r2, _, _, _, q2, s2⟩ := front ne m1 m2
  have pr : r2.Perm r1 := by
    have := a1 (fun c => f c * k) (fs[j]'hj)
    rw [set_self m2] at this
    exact (q2.symm.trans this).cons_inv.cons_inv
  rw [s1, s2, SF_perm pr]
  unfold SF
  rw [perI_scale, perI_scale k f ((fun c => f c * k) :: r1), scale2]
  grind
theorem slack_zero {fs : List Row} {i j : Nat} {f : Row} (k : Rat) (ne : i ≠ j) (hi : fs[i]? = some f) (hj : j < fs.length) (cs : List Nat) : slackQ (fs.set j fun c => f c * k) cs i j = 0 := by
  have m2 : (fs.set j fun c => f c * k)[j]? = some (fun c => f c * k) := by rw [List.getElem?_set, if_pos rfl, if_pos hj]
  have m1 : (fs.set j fun c => f c * k)[i]? = some f := by rw [List.getElem?_set, if_neg (fun e => ne e.symm), hi]
  obtain ⟨r2, _, _, _, q2, s2⟩ := front ne m1 m2
  rw [s2]
  unfold SF
  rw [scale2, perI_scale k f ((fun c => f c * k) :: r2), scale2]
  grind
/-! lists of places -/
theorem nat_list {n : Nat} {l : List Int} (p : l.Perm ((List.range n).map fun (i : Nat) => (i : Int))) : ∃ os : List Nat, os.Perm (List.range n) ∧ l = os.map fun (i : Nat) => (i : Int) := by
  have e : l = (l.map Int.toNat).map fun (i : Nat) => (i : Int) := by
    rw [List.map_map]
    refine (List.map_id l).symm.trans (List.map_congr_left fun x hx => ?_)
    obtain ⟨i, _, rfl⟩ := List.mem_map.mp (p.mem_iff.mp hx)
    simp
  refine ⟨l.map Int.toNat, ?_, e⟩
  have := p.map Int.toNat
  rw [List.map_map] at this
  have e2 : (List.range n).map (Int.toNat ∘ fun (i : Nat) => (i : Int)) = List.range n := by
    refine (List.map_congr_left fun i _ => ?_).trans (List.map_id _)
    simp
  rw [e2] at this
  exact this
theorem first_at {α : Type} [DecidableEq α] {x : α} : ∀ {l : List α}, x ∈ l → ∃ k : Nat, l[k]? = some x ∧ ∀ m, m < k → l[m]? ≠ some x
  | [], h => by cases h
  | y :: l, h => by
    by_cases c : y = x
    · exact ⟨0, by rw [c]; rfl, fun m hm => absurd hm (Nat.not_lt_zero _)⟩
    · rcases List.mem_cons.mp h with e | h
      · exact absurd e.symm c
      · obtain ⟨k, h1, h2⟩ := first_at h
        refine ⟨k + 1, h1, fun m hm => ?_⟩
        cases m with
        | zero => exact fun e => c (Option.some.inj e)
        | succ m => exact h2 m (Nat.lt_of_succ_lt_succ hm)
theorem range_set {α : Type} {n s : Nat} {g : Nat → α} {x : α} : ((List.range n).map g).set s x = (List.range n).map fun c => if c = s then x else g c := by
  refine List.ext_getElem? fun i => ?_
  rw [List.getElem?_set, List.getElem?_map, List.getElem?_map, List.length_map, List.length_range]
  by_cases c : i < n
  · rw [List.getElem?_range c]
    by_cases e : s = i
    · subst e
      rw [if_pos rfl, if_pos c]
      show _ = some (if s = s then x else _)
      rw [if_pos rfl]
    · rw [if_neg e]
      show _ = some (if i = s then x else _)
      rw [if_neg fun z => e z.symm]
      rfl
  · rw [List.getElem?_eq_none (l := List.range n) (by rw [List.length_range]; omega)]
    by_cases e : s = i
    · subst e
      rw [if_pos rfl, if_neg c]
      rfl
    · rw [if_neg e]
      rfl
theorem told_rows {C : Addr} {b : Nat} {cs : List Nat} : ∀ {fs : List Row}, NB b fs → RowsN C b (fs.map fun f => .lst (cs.map fun c => Ra C (fr (f c)))) fs cs
  | [], _ => .nil
  | f :: fs, h => by
    refine .cons ⟨_, rfl, ?_⟩ (told_rows h.tail)
    have := Nqs.rats (C := C) (n := b) (rs := cs.map f) fun r hr => by obtain ⟨c, _, rfl⟩ := List.mem_map.mp hr; exact (h f (List.mem_cons_self ..) c).2
    rw [List.map_map] at this
    exact this
theorem Sq.told {C : Addr} {b n : Nat} {fs : List Row} {cs : List Nat} (nb : NB b fs) (b13 : b ≤ 13) (lf : fs.length = n) (lc : cs.length = n) (nd : cs.Nodup) (n1 : 1 ≤ n) (n4 : n ≤ 4) : Sq C b n (matD C (vals fs cs)) fs cs :=
  ⟨⟨_, matD_eq, told_rows nb⟩, lf, lc, nd, n1, n4, b13, nb⟩
end K85

set_option Elab.async false
set_option linter.all false
set_option maxRecDepth 100000
set_option maxHeartbeats 16000000
/-! k85: the law -/
namespace K85
open PySem L2 DL M85
section
variable {X : Cx} {B : Hp} {W0 : Wd} {S : En} {p p2 pos pos2 : Pos} {e : Expr} {Q : D → Prop}
/-- list(range(n)) -/
theorem ed_listR {n : Nat} (hc : X.calm = true) (hl : X.mg "list" = none) (hr : X.mg "range" = none) (h : ED X B S e fun d => d = .int (n : Int) ∧ n ≤ 1000 ∧ Q (.lst ((List.range n).map fun (i : Nat) => D.int (i : Int))))
    (hps : X.mg "list" = none → X.mg "range" = none → PE X (.Call (.Name "list" p) [.Call (.Name "range" p2) [e] [] pos2] [] pos) (tLstRg (tRg1 (WE X e))) := by exact fun hl hr => pe_listRg rfl rfl hl (prg_1 rfl hr DL.we_pe)) : ED X B S (.Call (.Name "list" p) [.Call (.Name "range" p2) [e] [] pos2] [] pos) Q := fun σ W H r R k => by
  refine PE.w (hps hl hr) ?_
  refine h σ W H r _ fun d v W1 H1 s1 ok1 n1 q1 => ?_
  obtain ⟨rfl, hn, q⟩ := q1
  cases n1
  refine ⟨(n : Int), rfl, RgOk.of_le (by omega) (by omega) (by omega) (by omega), fun q2 hq => ?_⟩
  have st := Stp.new (o := .lst (rgV 0 (n : Int))) ok1 hq
  refine k _ _ _ _ (s1.trans ok1 st) (ok1.new hq) (.lst (show upd W1.I q2 _ q2 = _ from upd_same) ?_) q
  have e : rgV 0 (n : Int) = (List.range n).map fun (i : Nat) => V.int (i : Int) := by
    unfold rgV
    rw [Int.sub_zero, Int.toNat_natCast]
    exact List.map_congr_left fun i _ => by rw [Int.zero_add]
  rw [e]
  have key : ∀ l : List Nat, Dns X.K (W1.new q2 (.lst (rgV 0 (n : Int)))).I (l.map fun (i : Nat) => D.int (i : Int)) (l.map fun (i : Nat) => V.int (i : Int)) := by
    intro l
    induction l with
    | nil => exact .nil
    | cons a l ih => exact .cons (.int _) ih
  rw [← e]
  exact e ▸ key _
end
theorem Bq.neg {n : Nat} {r : Rat} (h : Bq n r) : Bq n (-r) := by
  refine ⟨?_, ?_, ?_⟩
  · show (-r).num.natAbs < _
    rw [Rat.neg_num, Int.natAbs_neg]; exact h.t
  · show ((-r).den : Int).natAbs < _
    rw [Rat.neg_den]; exact h.b
  · show (0 : Int) < ((-r).den : Int)
    rw [Rat.neg_den]; exact h.pos
theorem pb9 : ∀ k, k ≤ 4 → pb 9 k ≤ 705 := by decide +kernel
theorem slack_bq {n : Nat} {fs : List Row} {cs : List Nat} {i j : Nat} (nb : NB 9 fs) (lf : fs.length = n) (lc : cs.length = n) (n4 : n ≤ 4) (hi : i < n) (hj : j < n) : Bq 2821 (slackQ fs cs i j) := by
  have k : ∀ gs : List Row, NB 9 gs → gs.length = n → Bq 705 (perI gs cs) := fun gs h l => by
    have := per_bq gs cs h (by rw [l, lc])
    rw [l] at this
    exact this.le (pb9 n n4)
  have b0 := k fs nb lf
  have b1 := k _ (setR_nb (i := i) (j := j) nb (by omega)) (by rw [setR_len, lf])
  have b2 := k _ (setR_nb (i := j) (j := i) nb (by omega)) (by rw [setR_len, lf])
  have := (b0.mul b0).add (b1.mul b2).neg
  unfold slackQ
  rw [show ∀ a b : Rat, a - b = a + -b from fun a b => by grind]
  exact this.le (by decide)
theorem slack_sym (fs : List Row) (cs : List Nat) (i j : Nat) : slackQ fs cs j i = slackQ fs cs i j := by unfold slackQ; grind
theorem cd_reprT4 {X : Cx} {k n : Nat} {l : List D} (hr : Room (k + 2) X.A) (hG : X.A.guards = some (gOf X)) (hl : l.length ≤ 4) (h : ∀ x ∈ l, Tx X k n x) (hn : n ≤ 21000) : ∃ t, ∀ Q : D → Prop, Q (.str t) → CD X (.builtin "repr") [.val (.lst l)] Q := by
  obtain ⟨rs, ts, e, bs, ws⟩ := tx_all h
  refine ⟨listText ts, fun Q q => cd_reprL hr hG (by omega) rs e ws ?_ q⟩
  have := listText_up bs
  have : (n + 2) * ts.length ≤ 21002 * 4 := Nat.mul_le_mul (by omega) (by omega)
  have : 21002 * 4 + 4 ≤ sizeLine := by decide
  omega
abbrev NRi : List Str := ["_law_pot_here", "_law_many", "_law_rows_now", "_law_one", "_law_other", "_law_spot", "_law_near", "_law_told_here", "_law_due", "_law_shown", "_law_order", "_law_number", "_law_spots", "_law_more", "_law_due_more", "_law_here", "_law_twins", "_law_at", "_law_row", "_law_part"]
section
variable {P : Program} {w : World} {K : PySem.W.Frag} {mg : Str → Option Value} {base : Heap} {C : Addr}
theorem sc_ri : FnScope NRi ["_law_pot_here"] (defScope (top 47)) := ⟨rfl, rfl, rfl, by decide +kernel, rfl, by decide +kernel, by decide +kernel⟩
/-- what the law calls -/
structure Ri (P : Program) (w : World) (K : PySem.W.Frag) (mg : Str → Option Value) (base : Heap) (C : Addr) : Prop where
  L : Lv P w K mg base C
  dr : Df P w K mg base "_law_draw" 1 2 spDraw
  pi : Df P w K mg base "_law_pick" 2 2 spPick
  su : Df P w K mg base "_law_sum" 2 2 (spFF addF)
  pr : Df P w K mg base "_law_product" 2 2 (spFF mulF)
  ra : Df P w K mg base "_law_ratio" 4 1 (spRat1 C)
  am : Df P w K mg base "_law_amount" 3 2 spAm
  sq : Df P w K mg base "_law_square" 4 3 spSqr
  to : Df P w K mg base "_law_told" 5 1 (spTold C)
  pa : Df P w K mg base "_law_passed" 6 2 (spPass C)
  mi : Df P w K mg base "_law_mixed" 2 2 spMix
  wi : Df P w K mg base "_law_with" 1 3 spWith
  sl : Df P w K mg base "_law_slack" 8 3 spSlack
  tw : Df P w K mg base "twin_slack" 15 3 (spTws C)
  twK : DfK P w K mg base "twin_slack" 15 ["second", "first", "rows"] List.reverse (spTws C)
  pm : Df P w K mg base "permanent" 13 1 (spPerm C)
abbrev XR (P : Program) (w : World) (K : PySem.W.Frag) (mg : Str → Option Value) (base : Heap) (f : Addr) (cdv : Value) (A : Around) (outer : List Env) (s : Shared) (H : Hp) : Cx := Bx P w K mg base NRi "_law_right" (top 47) f cdv A outer s H
/-- behind the rows -/
theorem ri_rest {f : Addr} {cdv : Value} {A : Around} {outer : List Env} {s : Shared} {H : Hp} {W : Wd} {Q : D → Prop} (O : Ri P w K mg base C) (hr : Room 15 (XR P w K mg base f cdv A outer s H).A) (hG : (XR P w K mg base f cdv A outer s H).A.guards = some (gOf (XR P w K mg base f cdv A outer s H)))
    (n i j : Nat) (fs : List Row) (o5 o6 : Option Sl) (n2 : 2 ≤ n) (n4 : n ≤ 4) (lf : fs.length = n) (nb : NB 9 fs) (ne : i ≠ j) (hi : i < n) (hj : j < n) (q : Q (.bl true)) :
    SDs (XR P w K mg base f cdv A outer s H) H W [some .pot, some (.val (.int (n : Int))), some (.val (matP (List.range n) fs)), some (.val (.int (i : Int))), some (.val (.int (j : Int))), o5, o6, none, none, none, none, none, none, none, none, none, none, none, none, none] ((defBody (top 47)).drop 4) { nx := fun _ => Q .non, rt := Q } := by
  have nd := sc_ri.nd
  have L := O.L
  have T := L.V.T
  have lr : (List.range n).length = n := List.length_range
  have ndr : (List.range n).Nodup := List.nodup_range
  have r1 := hr.mono (j := 1) (by decide)
  have r2 := hr.mono (j := 2) (by decide)
  have r3 := hr.mono (j := 3) (by decide)
  have r4 := hr.mono (j := 4) (by decide)
  have r5 := hr.mono (j := 5) (by decide)
  have bdue := slack_bq (i := i) (j := j) nb lf lr n4 hi hj
  have lm : (fs.map (rowP (List.range n))).length = n := by rw [List.length_map, lf]
  have nb3 : NB 3000 fs := nb.le (by decide)
  refine sds_cons (sd_par 7 8 rfl nd rfl rfl (by decide) rfl rfl (ad_cons (ed_call O.pa (hr.mono (j := 6) (by decide)) hG (ad_pot 0 rfl rfl (ad_cons (nm 2 (ad_nil ⟨fs, List.range n, 9, rfl, by omega, by omega, by decide, nb, fun l ro => ?_⟩)))))))
  refine ad_cons (ed_call O.sl (hr.mono (j := 8) (by decide)) hG (ad_cons (nm 2 (ad_cons (nm 3 (ad_cons (nm 4 (ad_nil ⟨fs, List.range n, 9, n, i, j, rfl, lf, lr, ndr, n4, by decide, nb, hi, hj, ?_⟩))))))))
  refine ad_nil ⟨_, _, rfl, ?_⟩
  have sq : Sq C 9 n (.lst l) fs (List.range n) := ⟨⟨l, rfl, ro⟩, lf, lr, ndr, by omega, n4, by decide, nb⟩
  have ll : l.length = n := by rw [Paired.length ro, lf]
  obtain ⟨t, ht⟩ := cd_reprT4 (X := XR P w K mg base f cdv A outer s H) (k := 2) (n := 20020) (l := l) r4 hG (by omega) (fun x hx => by
    obtain ⟨k, hk⟩ := List.getElem?_of_mem hx
    obtain ⟨g, hg, le, e, nq⟩ := paired_get ro hk
    exact tx_nums L e (nq.mono (by decide)) (by rw [nq.len, List.length_map]; omega)) (by decide)
  refine sds_cons (sd_set 9 nd rfl (ed_callB T.repr (ad_cons (nm 7 (ad_nil (ht _ ?_))))))
  refine sds_st (S' := [some .pot, some (.val (.int (n : Int))), some (.val (matP (List.range n) fs)), some (.val (.int (i : Int))), some (.val (.int (j : Int))), o5, o6, some (.val (.lst l)), some (.val (prq (slackQ fs (List.range n) i j))), some (.val (.str t)), none, none, none, none, none, none, none, none, none, none]) rfl ?_
  refine sds_cons (sd_if (td_of (tw_or (td_cmp (i0 (p := fr (slackQ fs (List.range n) i j)) (nm 8 ⟨rfl, ed_int (od_lt (kB ?_))⟩))))))
  have due0 : 0 ≤ (fr (slackQ fs (List.range n) i j)).1 := Rat.num_nonneg.mpr (slack_nn nb lf n2 n4 ne hi hj)
  rw [decide_eq_false (by omega)]
  show TW _ _ _ _ _
  refine tw_or1 (td_cmp (ed_call O.tw hr hG (ad_cons (nm 7 (ad_cons (nm 3 (ad_cons (nm 4 (ad_nil ⟨_, 9, n, fs, List.range n, i, j, rfl, sq, hi, hj, ne, ed_call O.ra r4 hG (ad_cons (nm 8 (ad_nil ⟨_, rfl, bdue.le (by decide), od_neQ L r2 hG (kB ?_)⟩)))⟩)))))))))
  rw [decide_eq_true rfl]
  show SDs _ _ _ _ _ _
  refine sds_nil ?_
  refine sds_cons (sd_if (td_cmp (ed_callK0 O.twK hr hG (kd_cons (nm 3 (kd_cons (nm 4 (kd_cons (nm 7 (kd_nil ⟨rfl, _, 9, n, fs, List.range n, j, i, rfl, sq, hj, hi, fun e => ne e.symm, ed_call O.ra r4 hG (ad_cons (nm 8 (ad_nil ⟨_, rfl, bdue.le (by decide), od_neQ L r2 hG (kB ?_)⟩)))⟩))))))))))
  rw [decide_eq_true (slack_sym ..)]
  show SDs _ _ _ _ _ _
  refine sds_nil ?_
  refine sds_cons (sd_asg (ed_tup (ad_cons (ed_call O.mi r2 hG (ad_pot 0 rfl rfl (ad_cons (ed_listR (n := n) rfl T.list T.range (nm 1 ⟨rfl, by omega, ad_nil ⟨(List.range n).map fun (i : Nat) => (i : Int), by rw [List.map_map]; rfl, by rw [List.length_map]; omega, fun l' p => ?_⟩⟩))))))))
  obtain ⟨os, po, rfl⟩ := nat_list p
  have lo : os.length = n := by rw [po.length_eq, lr]
  have ndo : os.Nodup := po.nodup_iff.mpr ndr
  have mo : ∀ a ∈ os, a < n := fun a ha => List.mem_range.mp (po.mem_iff.mp ha)
  refine ad_cons (ed_call O.am r3 hG (ad_pot 0 rfl rfl (ad_cons (ed_int (ad_nil ⟨5, rfl, by decide, fun k k0 kb => ?_⟩)))))
  refine ad_nil ⟨[_, _], rfl, by simp, gd_tup rfl (gds_cons (gd_name 10 nd rfl (gds_cons (gd_name 11 nd rfl (gds_nil ?_))))) rfl⟩
  obtain ⟨i', hi', fi'⟩ := first_at (po.mem_iff.mpr (List.mem_range.mpr hi))
  obtain ⟨j', hj', fj'⟩ := first_at (po.mem_iff.mpr (List.mem_range.mpr hj))
  have il' := (List.getElem?_eq_some_iff.mp hi').1
  have jl' := (List.getElem?_eq_some_iff.mp hj').1
  have up : ∀ (x k : Nat), os[k]? = some x → (∀ m, m < k → os[m]? ≠ some x) → (os.map fun (i : Nat) => (i : Int))[k]? = some (x : Int) ∧ ∀ m, m < k → (os.map fun (i : Nat) => (i : Int))[m]? ≠ some (x : Int) := fun x k h1 h2 => by
    refine ⟨by rw [List.getElem?_map, h1]; rfl, fun m hm e => ?_⟩
    rw [List.getElem?_map] at e
    obtain ⟨y, hy, e⟩ := Option.map_eq_some_iff.mp e
    have : y = x := by omega
    exact h2 m hm (by rw [hy, this])
  obtain ⟨ui, vi⟩ := up i i' hi' fi'
  obtain ⟨uj, vj⟩ := up j j' hj' fj'
  refine sds_cons (sd_set 12 nd rfl (ed_lst (ad_cons (ed_idxL ui vi (nm 10 ⟨rfl, nm 3 ⟨rfl, ad_cons (ed_idxL uj vj (nm 10 ⟨rfl, nm 4 ⟨rfl, ad_nil ⟨[.int (i' : Int), .int (j' : Int)], rfl, by simp, ?_⟩⟩⟩))⟩⟩)))))
  refine sds_st (S' := [some .pot, some (.val (.int (n : Int))), some (.val (matP (List.range n) fs)), some (.val (.int (i : Int))), some (.val (.int (j : Int))), o5, o6, some (.val (.lst l)), some (.val (prq (slackQ fs (List.range n) i j))), some (.val (.str t)), some (.val (.lst ((os.map fun (i : Nat) => (i : Int)).map D.int))), some (.val (prq k)), some (.val (.lst [.int (i' : Int), .int (j' : Int)])), none, none, none, none, none, none, none]) rfl ?_
  have ne' : i' ≠ j' := fun e => by
    rw [e, hj'] at hi'
    cases hi'
    exact ne rfl
  have so : D.lst ((os.map fun (i : Nat) => (i : Int)).map D.int) = .lst (os.map fun (a : Nat) => D.int (a : Int)) := by rw [List.map_map]; rfl
  have gt : ∀ a, a < n → fs[a]? = some (fs.getD a fun _ => 0) := fun a ha => by
    rw [List.getD_eq_getElem?_getD, List.getElem?_eq_getElem (by omega)]
    rfl
  have nbt : NB 9 (os.map fun a => fs.getD a fun _ => 0) := fun g hg => by
    obtain ⟨a, ha, rfl⟩ := List.mem_map.mp hg
    exact nb _ (List.mem_of_getElem? (gt a (mo a ha)))
  have lt' : (os.map fun a => fs.getD a fun _ => (0 : Rat)).length = n := by rw [List.length_map, lo]
  -- rows turned about
  refine sds_cons (sd_if (td_cmp (ed_call O.tw hr hG (ad_cons (ed_call O.to r5 hG (ad_cons (ed_fd (fd_mp (f := fun (a : Nat) => D.int (a : Int)) (u := fun a => rowP (List.range n) (fs.getD a fun _ => 0)) (l := os) 17 rfl nd (own := [("_law_at", 17)]) (blkOk_by (by show blkC NRi (defScope (top 47)) _ _ = true; decide +kernel)) (fun _ _ _ _ _ => pg_name (i := 17) nd rfl (by first | exact Or.inl rfl | exact Or.inr rfl)) (by simp) (by omega) (.inl so) (nm 10 rfl) ?_ ?_))))))))
  · intro a ha s2 H0 C2 cl fp
    exact ed_ix (nm 2 (nm 17 ⟨fs.map (rowP (List.range n)), (a : Int), _, .inl rfl, rfl, atI_nat (by rw [List.getElem?_map, gt a (mo a ha)]; rfl), rfl⟩))
  refine ad_nil ⟨os.map fun a => fs.getD a fun _ => 0, List.range n, by unfold matP; rw [List.map_map]; rfl, by omega, by omega, nbt.le (by decide), ?_⟩
  refine ad_cons (ed_ix (nm 12 (ed_int ⟨_, 0, .int (i' : Int), .inl rfl, rfl, at0, ?_⟩)))
  refine ad_cons (ed_ix (nm 12 (ed_int ⟨_, 1, .int (j' : Int), .inl rfl, rfl, at1, ?_⟩)))
  refine ad_nil ⟨_, 9, n, _, List.range n, i', j', rfl, Sq.told nbt (by decide) lt' lr ndr (by omega) n4, by omega, by omega, ne', ?_⟩
  refine ed_call O.ra r4 hG (ad_cons (nm 8 (ad_nil ⟨_, rfl, bdue.le (by decide), od_neQ L r2 hG (kB ?_)⟩)))
  rw [decide_eq_true (slack_turn (by rw [lf]; exact po) ne (by omega) (by omega) hi' hj' _)]
  show SDs _ _ _ _ _ _
  refine sds_nil ?_
  -- columns
  refine sds_cons (sd_if (td_cmp (ed_call O.tw hr hG (ad_cons (ed_call O.to r5 hG (ad_cons (ed_fd (fd_mp (f := rowP (List.range n)) (u := rowP os) (l := fs) 18 rfl nd (own := [("_law_row", 18)]) (blkOk_by (by show blkC NRi (defScope (top 47)) _ _ = true; decide +kernel)) (fun _ _ _ _ _ => pg_name (i := 18) nd rfl (by first | exact Or.inl rfl | exact Or.inr rfl)) (by simp) (by omega) (.inl rfl) (nm 2 rfl) ?_ ?_))))))))
  · intro g hg s2 H0 C2 cl fp
    refine ed_fd (fd_mp (f := fun (a : Nat) => D.int (a : Int)) (u := fun a => prq (g a)) (l := os) 17 rfl nd (own := [("_law_at", 17)]) (blkOk_in (N := NRi) (blkOk_by (by decide +kernel))) (fun _ _ _ _ _ => pg_name (i := 17) nd rfl (by first | exact Or.inl rfl | exact Or.inr rfl)) (by simp) (by omega) (.inl so) (nm 10 rfl) ?_ rfl)
    intro a ha s3 H3 C3 cl3 fp3
    exact ed_ix (nm 18 (nm 17 ⟨(List.range n).map fun c => prq (g c), (a : Int), prq (g a), .inl rfl, rfl, atI_nat (by rw [List.getElem?_map, List.getElem?_range (mo a ha)]; rfl), rfl⟩))
  refine ad_nil ⟨fs, os, rfl, by omega, by omega, nb3, ?_⟩
  refine ad_cons (nm 3 (ad_cons (nm 4 (ad_nil ⟨_, 9, n, fs, os, i, j, rfl, Sq.told nb (by decide) lf lo ndo (by omega) n4, hi, hj, ne, ?_⟩))))
  refine ed_call O.ra r4 hG (ad_cons (nm 8 (ad_nil ⟨_, rfl, bdue.le (by decide), od_neQ L r2 hG (kB ?_)⟩)))
  rw [decide_eq_true (slack_cols po i j)]
  show SDs _ _ _ _ _ _
  refine sds_nil ?_
  -- a row multiplied
  have gi := gt i hi
  have nf := nb _ (List.mem_of_getElem? gi)
  refine sds_cons (sd_mpL (f := fun c => prq ((fs.getD i fun _ => 0) c)) (u := fun c => prq ((fs.getD i fun _ => 0) c * k)) (l := List.range n) 13 rfl rfl 19 rfl nd (own := [("_law_part", 19)]) (blkOk_by (by show blkC NRi (defScope (top 47)) _ _ = true; decide +kernel)) (fun _ _ _ _ _ => pg_name (i := 19) nd rfl (Or.inl rfl)) (by simp) (by omega) (ed_ix (nm 2 (nm 3 ⟨fs.map (rowP (List.range n)), (i : Int), rowP (List.range n) (fs.getD i fun _ => 0), .inl rfl, rfl, atI_nat (by rw [List.getElem?_map, gi]; rfl), rfl⟩))) ?_ ?_)
  · intro c hc s2 H0 C2 cl fp
    exact ed_call O.pr r2 hG (ad_cons (nm 19 (ad_cons (nm 11 (ad_nil ⟨fr _, fr k, rfl, (nf c).2.le (by decide), kb.le (by decide), by rw [mulF_fr]⟩)))))
  refine sds_frz 13 _ rfl ?_
  refine sds_cons (sd_set 14 nd rfl (ed_call O.ra r4 hG (ad_cons (ed_call O.pr r2 hG (ad_cons (nm 8 (ad_cons (ed_call O.pr r2 hG (ad_cons (nm 11 (ad_cons (nm 11 (ad_nil ⟨fr k, fr k, rfl, kb.le (by decide), kb.le (by decide), ?_⟩)))))))))))))
  rw [mulF_fr]
  refine ad_nil ⟨fr _, fr (k * k), rfl, bdue.le (by decide), (kb.mul kb).le (by decide), ?_⟩
  rw [mulF_fr]
  refine ad_nil ⟨_, rfl, (bdue.mul (kb.mul kb)).le (by decide), ?_⟩
  refine sds_st (S' := [some .pot, some (.val (.int (n : Int))), some (.val (matP (List.range n) fs)), some (.val (.int (i : Int))), some (.val (.int (j : Int))), o5, o6, some (.val (.lst l)), some (.val (prq (slackQ fs (List.range n) i j))), some (.val (.str t)), some (.val (.lst ((os.map fun (i : Nat) => (i : Int)).map D.int))), some (.val (prq k)), some (.val (.lst [.int (i' : Int), .int (j' : Int)])), some (.val (rowP (List.range n) fun c => (fs.getD i fun _ => 0) c * k)), some (.val (Ra C (fr (slackQ fs (List.range n) i j * (k * k))))), none, none, none, none, none]) rfl ?_
  have nbm : ∀ a, NB 13 (fs.set a fun c => (fs.getD i fun _ => 0) c * k) := fun a g hg c => by
    rcases List.mem_or_eq_of_mem_set hg with h | h
    · exact ⟨(nb g h c).1, (nb g h c).2.le (by decide)⟩
    · rw [h]
      exact ⟨Rat.mul_nonneg (nf c).1 k0, (nf c).2.mul kb⟩
  have ms : ∀ a, [Sl.val (D.lst ((fs.map (rowP (List.range n))).set a (rowP (List.range n) fun c => (fs.getD i fun _ => 0) c * k)))] = [Sl.val (matP (List.range n) (fs.set a fun c => (fs.getD i fun _ => 0) c * k))] := fun a => by unfold matP; rw [List.map_set]
  refine sds_cons (sd_if (td_cmp (ed_call O.tw hr hG (ad_cons (ed_call O.to r5 hG (ad_cons (ed_call O.wi r1 hG (ad_cons (nm 2 (ad_cons (nm 3 (ad_cons (nm 13 (ad_nil ⟨fs.map (rowP (List.range n)), i, _, rfl, by omega, by omega, ?_⟩))))))))))))))
  refine ad_nil ⟨_, List.range n, ms i, by rw [List.length_set]; omega, by omega, (nbm i).le (by decide), ?_⟩
  refine ad_cons (nm 3 (ad_cons (nm 4 (ad_nil ⟨_, 13, n, _, List.range n, i, j, rfl, Sq.told (nbm i) (by decide) (by rw [List.length_set, lf]) lr ndr (by omega) n4, hi, hj, ne, nm 14 (od_neQ L r2 hG (kB ?_))⟩))))
  rw [decide_eq_true (slack_more k ne gi (by omega) _)]
  show SDs _ _ _ _ _ _
  refine sds_nil ?_
  refine sds_cons (sd_if (td_cmp (ed_call O.tw hr hG (ad_cons (ed_call O.to r5 hG (ad_cons (ed_call O.wi r1 hG (ad_cons (nm 2 (ad_cons (nm 4 (ad_cons (nm 13 (ad_nil ⟨fs.map (rowP (List.range n)), j, _, rfl, by omega, by omega, ?_⟩))))))))))))))
  refine ad_nil ⟨_, List.range n, ms j, by rw [List.length_set]; omega, by omega, (nbm j).le (by decide), ?_⟩
  refine ad_cons (nm 3 (ad_cons (nm 4 (ad_nil ⟨_, 13, n, _, List.range n, i, j, rfl, Sq.told (nbm j) (by decide) (by rw [List.length_set, lf]) lr ndr (by omega) n4, hi, hj, ne, ?_⟩))))
  refine ed_make L.V.mk1 (hr.mono (j := 3) (by decide)) hG (ad_cons (ed_int (ad_nil (mk_ok (n := 1) (t := 0) (b := 1) (by decide) (by decide) (by decide) (by decide) ?_))))
  rw [low_one]
  refine od_neQ (s := 0) L r2 hG (kB ?_)
  rw [decide_eq_true (slack_zero k ne gi (by omega) _)]
  show SDs _ _ _ _ _ _
  refine sds_nil ?_
  -- told permanents
  obtain ⟨x1, e1, s1⟩ := matP_set (cs := List.range n) (fs := fs) (i := i) (j := j) (by omega)
  obtain ⟨x2, e2, s2⟩ := matP_set (cs := List.range n) (fs := fs) (i := j) (j := i) (by omega)
  have n1 := setR_nb (j := j) nb (show i < fs.length by omega)
  have n2 := setR_nb (j := i) nb (show j < fs.length by omega)
  have l1 : (setR fs i j).length = n := by rw [setR_len, lf]
  have l2 : (setR fs j i).length = n := by rw [setR_len, lf]
  have q0 := Sq.told (C := C) (b := 9) nb (by decide) lf lr ndr (by omega) n4
  have q1 := Sq.told (C := C) (b := 9) n1 (by decide) l1 lr ndr (by omega) n4
  have q2 := Sq.told (C := C) (b := 9) n2 (by decide) l2 lr ndr (by omega) n4
  refine sds_cons (sd_set 15 nd rfl (ed_call O.pm (hr.mono (j := 13) (by decide)) hG (ad_cons (ed_call O.to r5 hG (ad_cons (nm 2 (ad_nil ⟨fs, List.range n, rfl, by omega, by omega, nb3, ad_nil ⟨_, 9, n, fs, List.range n, rfl, q0, ?_⟩⟩)))))))
  refine sds_cons (sd_set 16 nd rfl (ed_call O.pm (hr.mono (j := 13) (by decide)) hG (ad_cons (ed_call O.to r5 hG (ad_cons (ed_call O.wi r1 hG ?_))))))
  refine ad_cons (nm 2 (ad_cons (nm 4 (ad_cons (ed_ix (nm 2 (nm 3 ⟨fs.map (rowP (List.range n)), (i : Int), x1, .inl rfl, rfl, atI_nat e1, ad_nil ⟨fs.map (rowP (List.range n)), j, x1, rfl, by omega, by omega, ?_⟩⟩)))))))
  rw [s1]
  refine ad_nil ⟨_, List.range n, rfl, by omega, by omega, n1.le (by decide), ad_nil ⟨_, 9, n, _, List.range n, rfl, q1, ?_⟩⟩
  refine sds_st (S' := [some .pot, some (.val (.int (n : Int))), some (.val (matP (List.range n) fs)), some (.val (.int (i : Int))), some (.val (.int (j : Int))), o5, o6, some (.val (.lst l)), some (.val (prq (slackQ fs (List.range n) i j))), some (.val (.str t)), some (.val (.lst ((os.map fun (i : Nat) => (i : Int)).map D.int))), some (.val (prq k)), some (.val (.lst [.int (i' : Int), .int (j' : Int)])), some (.val (rowP (List.range n) fun c => (fs.getD i fun _ => 0) c * k)), some (.val (Ra C (fr (slackQ fs (List.range n) i j * (k * k))))), some (.val (Ra C (fr (perI fs (List.range n))))), some (.val (Ra C (fr (perI (setR fs i j) (List.range n))))), none, none, none]) rfl ?_
  refine sds_cons (sd_ret (ed_and (ed_cmp (ed_bin (ed_bin (nm 15 (nm 15 (od_mulRR L r5 hG (q0.bq.le (by decide)) (q0.bq.le (by decide)) ?_))))))))
  refine ed_bin (nm 16 (ed_call O.pm (hr.mono (j := 13) (by decide)) hG (ad_cons (ed_call O.to r5 hG (ad_cons (ed_call O.wi r1 hG ?_))))))
  refine ad_cons (nm 2 (ad_cons (nm 3 (ad_cons (ed_ix (nm 2 (nm 4 ⟨fs.map (rowP (List.range n)), (j : Int), x2, .inl rfl, rfl, atI_nat e2, ad_nil ⟨fs.map (rowP (List.range n)), i, x2, rfl, by omega, by omega, ?_⟩⟩)))))))
  rw [s2]
  refine ad_nil ⟨_, List.range n, rfl, by omega, by omega, n2.le (by decide), ad_nil ⟨_, 9, n, _, List.range n, rfl, q2, ?_⟩⟩
  refine od_mulRR L r5 hG (q1.bq.le (by decide)) (q2.bq.le (by decide)) (od_subQ L (hr.mono (j := 6) (by decide)) hG ((q0.bq.mul q0.bq).le (by decide)) (.rat _ ((q1.bq.mul q2.bq).le (by decide))) ?_)
  refine ed_call O.ra r4 hG (ad_cons (nm 8 (ad_nil ⟨_, rfl, bdue.le (by decide), od_eqQ L r1 hG (kB ?_)⟩)))
  rw [decide_eq_true (show perI fs (List.range n) * perI fs (List.range n) - perI (setR fs i j) (List.range n) * perI (setR fs j i) (List.range n) = slackQ fs (List.range n) i j from rfl)]
  show ED _ _ _ _ _
  refine ed_one (ed_cmp (ed_callB T.repr (ad_cons (nm 7 (ad_nil (ht _ (nm 9 (od_eqs ?_))))))))
  rw [decide_eq_true rfl]
  exact q
abbrev spRight : SpD := fun as Q => as = [.pot] ∧ Q (.bl true)
theorem ok_right {f : Addr} {fd : FuncData} (F : FunS K "_law_right" "_law_right" (top 47) f fd) (O : Ri P w K mg base C) : GnOk P w K mg base 16 f fd ["_law_pot_here"] (lift K spRight) := by
  refine gn_dl F sc_ri (fun as Q h => by obtain ⟨rfl, _⟩ := h; rfl) (fun cdv A outer s H hr hG W as Q h => ?_)
  obtain ⟨rfl, q⟩ := h
  have nd := sc_ri.nd
  have L := O.L
  have T := L.V.T
  have r1 := hr.mono (j := 1) (by decide)
  have r2 := hr.mono (j := 2) (by decide)
  refine sds_cons (sd_set 1 nd rfl (ed_bin (ed_int (ed_call O.dr r1 hG (ad_pot 0 rfl rfl (ad_cons (ed_int (ad_nil ⟨3, rfl, by decide, by decide, fun d hd => od_add ?_⟩))))))))
  have ew : (2 : Int) + (d : Int) = ((d + 2 : Nat) : Int) := by omega
  rw [ew]
  obtain ⟨n, hn⟩ : ∃ n, n = d + 2 := ⟨_, rfl⟩
  rw [← hn]
  have n2 : 2 ≤ n := by omega
  have n4 : n ≤ 4 := by omega
  have lr : (List.range n).length = n := List.length_range
  refine sds_cons (sd_set 2 nd rfl (ed_call O.sq (hr.mono (j := 4) (by decide)) hG (ad_pot 0 rfl rfl (ad_cons (nm 1 ?_)))))
  refine ad_cons (ed_call O.pi r2 hG (ad_pot 0 rfl rfl (ad_cons (ed_lst ?_))))
  refine ad_cons (ed_int ?_)
  refine ad_cons (ed_int ?_)
  refine ad_cons (ed_int ?_)
  refine ad_nil ⟨[.int 1, .int 3, .int 9], rfl, by simp, ad_nil ⟨_, rfl, by simp, by simp, fun x hx => ?_⟩⟩
  have hx2 : ∃ m : Nat, x = .int (m : Int) ∧ m ≤ 9 := by
    simp only [List.mem_cons, List.not_mem_nil, or_false] at hx
    rcases hx with rfl | rfl | rfl
    · exact ⟨1, rfl, by decide⟩
    · exact ⟨3, rfl, by decide⟩
    · exact ⟨9, rfl, by decide⟩
  obtain ⟨m, rfl, m9⟩ := hx2
  refine ad_nil ⟨n, m, rfl, n4, m9, fun fs lf nb => ?_⟩
  refine sds_cons (sd_asg (ed_slLT (ed_call O.mi r2 hG (ad_pot 0 rfl rfl (ad_cons (ed_listR (n := n) rfl T.list T.range (nm 1 ⟨rfl, by omega, ad_nil ⟨(List.range n).map fun (i : Nat) => (i : Int), by rw [List.map_map]; rfl, by rw [List.length_map]; omega, fun l' p => ?_⟩⟩)))))))
  obtain ⟨os, po, rfl⟩ := nat_list p
  have ndo : os.Nodup := po.nodup_iff.mpr List.nodup_range
  obtain ⟨i, j, os', rfl⟩ : ∃ i j os', os = i :: j :: os' := by
    have := po.length_eq
    rw [lr] at this
    match os, this with
    | i :: j :: os', _ => exact ⟨i, j, os', rfl⟩
    | [], h => simp at h; omega
    | [_], h => simp at h; omega
  have hi : i < n := List.mem_range.mp (po.mem_iff.mp (List.mem_cons_self ..))
  have hj : j < n := List.mem_range.mp (po.mem_iff.mp (List.mem_cons_of_mem _ (List.mem_cons_self ..)))
  have ne : i ≠ j := fun e => by
    rw [List.nodup_cons] at ndo
    exact ndo.1 (by rw [e]; exact List.mem_cons_self ..)
  refine ed_int ⟨_, 2, rfl, rfl, .inl ⟨2, rfl, ?_⟩⟩
  show GD _ _ _ _ _ (.lst [.int (i : Int), .int (j : Int)]) _
  refine gd_lst rfl (gds_cons (gd_name 3 nd rfl (gds_cons (gd_name 4 nd rfl (gds_nil ?_))))) rfl
  refine sds_st (S' := [some .pot, some (.val (.int (n : Int))), some (.val (matP (List.range n) fs)), some (.val (.int (i : Int))), some (.val (.int (j : Int))), none, none, none, none, none, none, none, none, none, none, none, none, none, none, none]) rfl ?_
  refine sds_cons (sd_mid (fun S' => ∃ o5 o6, ∃ gs : List Row, gs.length = n ∧ NB 9 gs ∧ S' = [some .pot, some (.val (.int (n : Int))), some (.val (matP (List.range n) gs)), some (.val (.int (i : Int))), some (.val (.int (j : Int))), o5, o6, none, none, none, none, none, none, none, none, none, none, none, none, none]) ?_ (sd_if (td_cmp (ed_call O.dr r1 hG (ad_pot 0 rfl rfl (ad_cons (ed_int (ad_nil ⟨3, rfl, by decide, by decide, fun d2 hd2 => ed_int (od_eqi (kB ?_))⟩))))))))
  · rintro S' ⟨o5, o6, gs, lg, ng, rfl⟩
    exact ri_rest O hr hG n i j gs o5 o6 n2 n4 lg ng ne hi hj q
  cases decide ((d2 : Int) = 0) with
  | false => exact sds_nil ⟨none, none, fs, lf, nb.le (by decide), rfl⟩
  | true =>
    show SDs _ _ _ _ _ _
    have gi : fs[i]? = some (fs[i]'(by omega)) := List.getElem?_eq_getElem _
    generalize fs[i]'(by omega) = g at gi
    have ng := nb g (List.mem_of_getElem? gi)
    refine sds_cons (sd_set 5 nd rfl (ed_call O.dr r1 hG (ad_pot 0 rfl rfl (ad_cons (nm 1 (ad_nil ⟨(n : Int), rfl, by omega, by omega, fun sp hsp => ?_⟩))))))
    have hs : sp < n := by omega
    refine sds_cons (sd_own 6 nd rfl (fd_list T.list (ed_ix (nm 2 (nm 3 ⟨fs.map (rowP (List.range n)), (i : Int), rowP (List.range n) g, .inl rfl, rfl, atI_nat (by rw [List.getElem?_map, gi]; rfl), (List.range n).map fun c => prq (g c), .inl rfl, ?_⟩)))))
    refine sds_st (S' := [some .pot, some (.val (.int (n : Int))), some (.val (matP (List.range n) fs)), some (.val (.int (i : Int))), some (.val (.int (j : Int))), some (.val (.int (sp : Int))), some (.own ((List.range n).map fun c => prq (g c))), none, none, none, none, none, none, none, none, none, none, none, none, none]) rfl ?_
    have ex : ((List.range n).map fun c => prq (g c))[sp]? = some (prq (g sp)) := by rw [List.getElem?_map, List.getElem?_range hs]; rfl
    refine sds_cons (sd_asg (ed_call O.su r2 hG (ad_cons (ed_ixOwn 6 _ rfl rfl (nm 5 ⟨sp, prq (g sp), rfl, ex, ?_⟩)))))
    refine ad_cons (ed_call O.am (hr.mono (j := 3) (by decide)) hG (ad_pot 0 rfl rfl (ad_cons (ed_int (ad_nil ⟨3, rfl, by decide, fun r r0 rb => ?_⟩)))))
    refine ad_nil ⟨fr (g sp), fr r, rfl, (ng sp).2.le (by decide), rb.le (by decide), ?_⟩
    rw [addF_fr]
    refine gd_ownAt 6 5 _ rfl rfl rfl rfl (by rw [List.length_map]; omega) ?_
    rw [range_set]
    refine sds_frz 6 _ rfl ?_
    refine sds_cons (sd_set 2 nd rfl (ed_call O.wi r1 hG (ad_cons (nm 2 (ad_cons (nm 4 (ad_cons (nm 6 (ad_nil ⟨fs.map (rowP (List.range n)), j, _, rfl, by rw [List.length_map]; omega, by rw [List.length_map]; omega, ?_⟩)))))))))
    have em : (List.range n).map (fun c => if c = sp then prq (g sp + r) else prq (g c)) = (List.range n).map fun c => prq ((fun c => if c = sp then g sp + r else g c) c) := List.map_congr_left fun c _ => by
      show (if c = sp then prq (g sp + r) else prq (g c)) = prq (if c = sp then g sp + r else g c)
      by_cases z : c = sp
      · rw [if_pos z, if_pos z]
      · rw [if_neg z, if_neg z]
    refine sds_nil ⟨some (.val (.int (sp : Int))), some (.val (rowP (List.range n) fun c => if c = sp then g sp + r else g c)), fs.set j fun c => if c = sp then g sp + r else g c, by rw [List.length_set, lf], fun h hh c => ?_, ?_⟩
    · rcases List.mem_or_eq_of_mem_set hh with z | z
      · exact ⟨(nb h z c).1, (nb h z c).2.le (by decide)⟩
      · rw [z]
        show 0 ≤ (if c = sp then g sp + r else g c) ∧ Bq 9 (if c = sp then g sp + r else g c)
        by_cases e : c = sp
        · rw [if_pos e]
          exact ⟨Rat.add_nonneg (ng sp).1 r0, (ng sp).2.add rb⟩
        · rw [if_neg e]
          exact ⟨(ng c).1, (ng c).2.le (by decide)⟩
    · unfold matP
      rw [em, List.map_set]
      rfl
abbrev spLaw : SpD := fun as Q => ∃ ns, as = [.val (.frl ns)] ∧ Q (.bl true)
theorem sc_law : FnScope ["_law_script"] ["_law_script"] (defScope (top 48)) := ⟨rfl, rfl, rfl, by decide +kernel, rfl, by decide +kernel, by decide +kernel⟩
theorem ok_law {f : Addr} {fd : FuncData} (F : FunS K "law" "law" (top 48) f fd) (Pt : Nf P w K mg base "_law_pot" 1 spPot) (R : Df P w K mg base "_law_right" 16 1 spRight) : GnOk P w K mg base 17 f fd ["_law_script"] (lift K spLaw) := by
  refine gn_dl F sc_law (fun as Q h => by obtain ⟨_, rfl, _⟩ := h; rfl) (fun cdv A outer s H hr hG W as Q h => ?_)
  obtain ⟨ns, rfl, q⟩ := h
  exact sds_cons (sd_ret (ed_call R hr hG (ad_newpot (fd_callN Pt (hr.mono (j := 1) (by decide)) hG (ad_cons (nm 0 (ad_cons (ed_int (ad_nil ⟨ns, 0, rfl, by decide, fun a b h => ⟨a, b, rfl, h, ad_nil ⟨rfl, q⟩⟩⟩)))))))))
end
end K85

set_option Elab.async false
set_option linter.all false
set_option maxRecDepth 100000
set_option maxHeartbeats 8000000
/-! k85: what the top has written, put together -/
namespace K85
open PySem L2 DL PySem.Spec PyProof.Rows
theorem kit_ref {K : PySem.W.Frag} {t : Value} {C : Addr} {b : Bool} (hd : PySem.W.hasDictIn K C = true) (ty : PySem.W.typeIn K (.ref C) = some (.type "type")) (n : ¬ t = .ref C) (s : PySem.W.subIn K t (.ref C) = some b) : PySem.W.kitOne K t (.ref C) = some b := by
  obtain ⟨cd, hc, _⟩ := PySem.W.any_some hd
  unfold PySem.W.kitOne
  rw [if_neg (by simpa using n)]
  show (if ((PySem.W.clsIn K C).isSome && PySem.W.typeIn K (.ref C) == some (.type "type")) = true then PySem.W.subIn K t (.ref C) else none) = some b
  rw [hc, ty, if_pos (by simp)]
  exact s
theorem kit_tyc {K : PySem.W.Frag} {C : Addr} {T : String} {b : Bool} (m : PySem.W.kitMeta T = true) (s : PySem.W.subIn K (.ref C) (.type T) = some b) : PySem.W.kitOne K (.ref C) (.type T) = some b := by
  unfold PySem.W.kitOne
  rw [if_neg (by simp)]
  show (if PySem.W.kitMeta T = true then PySem.W.subIn K (.ref C) (.type T) else none) = some b
  rw [if_pos m]
  exact s
theorem paired_rev {α β : Type} {R : α → β → Prop} : ∀ {l : List α} {m : List β}, Paired R l m → Paired R l.reverse m.reverse
  | _, _, .nil => .nil
  | _, _, .cons h t => by
    rw [List.reverse_cons, List.reverse_cons]
    exact Paired.snoc h (paired_rev t)
theorem fun_kbnR {K : PySem.W.Frag} {x qual : Str} {st : Stmt} {f : Addr} {fd : FuncData} {ps : List Str} {n : Nat} {ks : List Str} (F : Fun K x qual st f fd)
    (h : ∀ (kV doc pm : Value) (an : Option Addr) (cdv ct : Value) (us ws : List Value), us.length = n → ws.length = ks.length → bindArgs (PySem.W.fnOf x qual (defArgs st) (defBody st) (defScope st) .none kV doc pm an cdv ct) ⟨us, ks.zip ws⟩ = pure (ps.zip (us ++ ws.reverse))) :
    KBn K fd ps n ks (fun us ws => us ++ ws.reverse) (fun vs zs => vs ++ zs.reverse) := by
  obtain ⟨oc, od, kV, doc, pm, an, cdv, ct, osl, rfl, lk, hcd⟩ := F.ex
  exact ⟨fun s us ws _ l1 l2 => .of_eq (h kV doc pm an cdv ct us ws l1 l2), fun r1 r2 => r1.append (paired_rev r2)⟩
theorem fund1 {K : PySem.W.Frag} {x qual : Str} {st : Stmt} {f T : Addr} {oc : Value} {od an : Option Addr} {osl : Array (Option Value)} {kV doc pm cdv ct : Value} {tk : Tok} {oT : Value} {dT : Option Addr} {n : Nat} {sT : Array (Option Value)}
    (l : K.lookup f = some ⟨oc, od, .func (PySem.W.fnOf x qual (defArgs st) (defBody st) (defScope st) (.ref T) kV doc pm an cdv ct), osl⟩) (c : PySem.W.codeIn K cdv qual = true) (k : PySem.W.keepIn K (.ref f) = true) (t : K.lookup T = some ⟨oT, dT, .seq [Value.int 1 tk].toArray n, sT⟩) :
    FunD K x qual (defArgs st) (defBody st) (defScope st) [.int 1] [] f (PySem.W.fnOf x qual (defArgs st) (defBody st) (defScope st) (.ref T) kV doc pm an cdv ct) :=
  ⟨⟨oc, od, .ref T, kV, doc, pm, an, cdv, ct, osl, rfl, l, c, .inr ⟨by simp, T, _, [.int 1 tk], n, rfl, t, rfl, .cons ⟨tk, rfl⟩ .nil⟩, .inl rfl⟩, k⟩
theorem law_gives {K : PySem.W.Frag} (H : Hp) (a : Addr) (ns : List Int) (h : SqL K H a (ns.map V.int)) : lift K spLaw [] [.ref a] H fun v _ => v = .bl true :=
  ⟨[.val (.frl ns)], ⟨H, fun _ => False⟩, fun d => d = .bl true, ⟨fun b ⟨_, _, _, z⟩ => absurd z List.not_mem_nil, Ex.refl H, fun _ z => z.elim⟩, .cons (.frl h) .nil, ⟨ns, rfl, rfl⟩, fun d v W' H' _ _ n q => by
    cases n <;> first | rfl | (cases q; done) | (cases q; rfl)⟩
theorem lw_mk {P : Program} {w : World} {K : PySem.W.Frag} {h : Heap} {mg : Str → Option Value} {fa : Addr} (X : K.In h) (G : h.Ns mainGlobals mg) (hfa : mg "law" = some (.ref fa))
    {C f_init f_total p_total f_isint f_iscount f_islist f_isnum f_nums f_ifn f_ratof f_ratios f_sqn f_rrows f_perm f_tws f_ckr f_per f_wt f_pot f_draw f_pick f_low f_sum f_prod f_ratio f_hand f_am f_ch f_sqr f_told f_pass f_mix f_with f_slack f_right f_law f_add f_radd f_sub f_rsub f_mul f_rmul f_eq f_repr f_ptop f_pbot f_psign p_ptop p_pbot p_psign : Addr} {r_ptop r_pbot r_psign r_total : List Value} {rlm rla rls : Option Value} {tk1 : Tok}
    (aC : PySem.W.nsIn K mainGlobals "Ratio" = some (some (.ref C)))
    (a_isint : PySem.W.nsIn K mainGlobals "is_integer" = some (some (.ref f_isint)))
    (F_isint : ∃ fd, Fun K "is_integer" "is_integer" (top 3) f_isint fd)
    (a_iscount : PySem.W.nsIn K mainGlobals "is_count" = some (some (.ref f_iscount)))
    (F_iscount : ∃ fd, Fun K "is_count" "is_count" (top 4) f_iscount fd)
    (a_islist : PySem.W.nsIn K mainGlobals "is_list" = some (some (.ref f_islist)))
    (F_islist : ∃ fd, Fun K "is_list" "is_list" (top 5) f_islist fd)
    (a_isnum : PySem.W.nsIn K mainGlobals "is_number" = some (some (.ref f_isnum)))
    (F_isnum : ∃ fd, Fun K "is_number" "is_number" (top 14) f_isnum fd)
    (a_nums : PySem.W.nsIn K mainGlobals "is_numbers" = some (some (.ref f_nums)))
    (F_nums : ∃ fd, Fun K "is_numbers" "is_numbers" (top 15) f_nums fd)
    (a_ifn : PySem.W.nsIn K mainGlobals "is_from_nought" = some (some (.ref f_ifn)))
    (F_ifn : ∃ fd, Fun K "is_from_nought" "is_from_nought" (top 16) f_ifn fd)
    (a_ratof : PySem.W.nsIn K mainGlobals "ratio_of" = some (some (.ref f_ratof)))
    (F_ratof : ∃ fd, Fun K "ratio_of" "ratio_of" (top 17) f_ratof fd)
    (a_ratios : PySem.W.nsIn K mainGlobals "ratios_of" = some (some (.ref f_ratios)))
    (F_ratios : ∃ fd, Fun K "ratios_of" "ratios_of" (top 18) f_ratios fd)
    (a_sqn : PySem.W.nsIn K mainGlobals "is_square_from_nought" = some (some (.ref f_sqn)))
    (F_sqn : ∃ fd, Fun K "is_square_from_nought" "is_square_from_nought" (top 21) f_sqn fd)
    (a_rrows : PySem.W.nsIn K mainGlobals "ratio_rows" = some (some (.ref f_rrows)))
    (F_rrows : ∃ fd, Fun K "ratio_rows" "ratio_rows" (top 23) f_rrows fd)
    (a_perm : PySem.W.nsIn K mainGlobals "permanent" = some (some (.ref f_perm)))
    (F_perm : ∃ fd, Fun K "permanent" "permanent" (top 25) f_perm fd)
    (a_tws : PySem.W.nsIn K mainGlobals "twin_slack" = some (some (.ref f_tws)))
    (F_tws : ∃ fd, Fun K "twin_slack" "twin_slack" (top 26) f_tws fd)
    (a_ckr : PySem.W.nsIn K mainGlobals "check_rows" = some (some (.ref f_ckr)))
    (F_ckr : ∃ fd, Fun K "check_rows" "check_rows" (top 27) f_ckr fd)
    (a_per : PySem.W.nsIn K mainGlobals "_permanent" = some (some (.ref f_per)))
    (F_per : ∃ fd, Fun K "_permanent" "_permanent" (top 28) f_per fd)
    (a_wt : PySem.W.nsIn K mainGlobals "_with_twin" = some (some (.ref f_wt)))
    (F_wt : ∃ fd, Fun K "_with_twin" "_with_twin" (top 29) f_wt fd)
    (a_pot : PySem.W.nsIn K mainGlobals "_law_pot" = some (some (.ref f_pot)))
    (F_pot : ∃ fd, Fun K "_law_pot" "_law_pot" (top 31) f_pot fd)
    (a_draw : PySem.W.nsIn K mainGlobals "_law_draw" = some (some (.ref f_draw)))
    (F_draw : ∃ fd, Fun K "_law_draw" "_law_draw" (top 32) f_draw fd)
    (a_pick : PySem.W.nsIn K mainGlobals "_law_pick" = some (some (.ref f_pick)))
    (F_pick : ∃ fd, Fun K "_law_pick" "_law_pick" (top 33) f_pick fd)
    (a_low : PySem.W.nsIn K mainGlobals "_law_low" = some (some (.ref f_low)))
    (F_low : ∃ fd, Fun K "_law_low" "_law_low" (top 34) f_low fd)
    (a_sum : PySem.W.nsIn K mainGlobals "_law_sum" = some (some (.ref f_sum)))
    (F_sum : ∃ fd, Fun K "_law_sum" "_law_sum" (top 35) f_sum fd)
    (a_prod : PySem.W.nsIn K mainGlobals "_law_product" = some (some (.ref f_prod)))
    (F_prod : ∃ fd, Fun K "_law_product" "_law_product" (top 36) f_prod fd)
    (a_ratio : PySem.W.nsIn K mainGlobals "_law_ratio" = some (some (.ref f_ratio)))
    (F_ratio : ∃ fd, Fun K "_law_ratio" "_law_ratio" (top 37) f_ratio fd)
    (a_hand : PySem.W.nsIn K mainGlobals "_law_handed" = some (some (.ref f_hand)))
    (F_hand : ∃ fd, Fun K "_law_handed" "_law_handed" (top 38) f_hand fd)
    (a_am : PySem.W.nsIn K mainGlobals "_law_amount" = some (some (.ref f_am)))
    (F_am : ∃ fd, Fun K "_law_amount" "_law_amount" (top 39) f_am fd)
    (a_ch : PySem.W.nsIn K mainGlobals "_law_choices" = some (some (.ref f_ch)))
    (F_ch : ∃ fd, Fun K "_law_choices" "_law_choices" (top 40) f_ch fd)
    (a_sqr : PySem.W.nsIn K mainGlobals "_law_square" = some (some (.ref f_sqr)))
    (F_sqr : ∃ fd, Fun K "_law_square" "_law_square" (top 41) f_sqr fd)
    (a_told : PySem.W.nsIn K mainGlobals "_law_told" = some (some (.ref f_told)))
    (F_told : ∃ fd, Fun K "_law_told" "_law_told" (top 42) f_told fd)
    (a_pass : PySem.W.nsIn K mainGlobals "_law_passed" = some (some (.ref f_pass)))
    (F_pass : ∃ fd, Fun K "_law_passed" "_law_passed" (top 43) f_pass fd)
    (a_mix : PySem.W.nsIn K mainGlobals "_law_mixed" = some (some (.ref f_mix)))
    (F_mix : ∃ fd, Fun K "_law_mixed" "_law_mixed" (top 44) f_mix fd)
    (a_with : PySem.W.nsIn K mainGlobals "_law_with" = some (some (.ref f_with)))
    (F_with : ∃ fd, Fun K "_law_with" "_law_with" (top 45) f_with fd)
    (a_slack : PySem.W.nsIn K mainGlobals "_law_slack" = some (some (.ref f_slack)))
    (F_slack : ∃ fd, Fun K "_law_slack" "_law_slack" (top 46) f_slack fd)
    (a_right : PySem.W.nsIn K mainGlobals "_law_right" = some (some (.ref f_right)))
    (F_right : ∃ fd, Fun K "_law_right" "_law_right" (top 47) f_right fd)
    (a_law : PySem.W.nsIn K mainGlobals "law" = some (some (.ref f_law)))
    (F_law : ∃ fd, Fun K "law" "law" (top 48) f_law fd)
    (a_init : PySem.W.findIn K (.ref C) "__init__" = some (some (.ref f_init)))
    (i_init : PySem.W.isFn K (.ref f_init) = true)
    (F_init : ∃ fd, FunD K "__init__" "Ratio.__init__" (defArgs sInit) (defBody sInit) (defScope sInit) [.int 1] [] f_init fd)
    (a_add : PySem.W.findIn K (.ref C) "__add__" = some (some (.ref f_add)))
    (i_add : PySem.W.isFn K (.ref f_add) = true)
    (F_add : ∃ fd, Fun K "__add__" "Ratio.__add__" (rat 5) f_add fd)
    (a_radd : PySem.W.findIn K (.ref C) "__radd__" = some (some (.ref f_radd)))
    (i_radd : PySem.W.isFn K (.ref f_radd) = true)
    (F_radd : ∃ fd, Fun K "__radd__" "Ratio.__radd__" (rat 6) f_radd fd)
    (a_sub : PySem.W.findIn K (.ref C) "__sub__" = some (some (.ref f_sub)))
    (i_sub : PySem.W.isFn K (.ref f_sub) = true)
    (F_sub : ∃ fd, Fun K "__sub__" "Ratio.__sub__" (rat 7) f_sub fd)
    (a_rsub : PySem.W.findIn K (.ref C) "__rsub__" = some (some (.ref f_rsub)))
    (i_rsub : PySem.W.isFn K (.ref f_rsub) = true)
    (F_rsub : ∃ fd, Fun K "__rsub__" "Ratio.__rsub__" (rat 8) f_rsub fd)
    (a_mul : PySem.W.findIn K (.ref C) "__mul__" = some (some (.ref f_mul)))
    (i_mul : PySem.W.isFn K (.ref f_mul) = true)
    (F_mul : ∃ fd, Fun K "__mul__" "Ratio.__mul__" (rat 9) f_mul fd)
    (a_rmul : PySem.W.findIn K (.ref C) "__rmul__" = some (some (.ref f_rmul)))
    (i_rmul : PySem.W.isFn K (.ref f_rmul) = true)
    (F_rmul : ∃ fd, Fun K "__rmul__" "Ratio.__rmul__" (rat 10) f_rmul fd)
    (a_eq : PySem.W.findIn K (.ref C) "__eq__" = some (some (.ref f_eq)))
    (i_eq : PySem.W.isFn K (.ref f_eq) = true)
    (F_eq : ∃ fd, Fun K "__eq__" "Ratio.__eq__" (rat 17) f_eq fd)
    (a_repr : PySem.W.findIn K (.ref C) "__repr__" = some (some (.ref f_repr)))
    (i_repr : PySem.W.isFn K (.ref f_repr) = true)
    (F_repr : ∃ fd, Fun K "__repr__" "Ratio.__repr__" (rat 19) f_repr fd)
    (a_ptop : PySem.W.findIn K (.ref C) "top" = some (some (.ref p_ptop)))
    (g_ptop : PySem.W.specialIn K (.ref p_ptop) "__get__" = some (some (.builtin "property.__get__")))
    (t_ptop : PySem.W.takesIn K (.ref p_ptop) = some true)
    (c_ptop : PySem.W.recIn K p_ptop "property" = some (.ref f_ptop :: r_ptop))
    (F_ptop : ∃ fd, Fun K "top" "Ratio.top" (rat 1) f_ptop fd)
    (a_pbot : PySem.W.findIn K (.ref C) "bottom" = some (some (.ref p_pbot)))
    (g_pbot : PySem.W.specialIn K (.ref p_pbot) "__get__" = some (some (.builtin "property.__get__")))
    (t_pbot : PySem.W.takesIn K (.ref p_pbot) = some true)
    (c_pbot : PySem.W.recIn K p_pbot "property" = some (.ref f_pbot :: r_pbot))
    (F_pbot : ∃ fd, Fun K "bottom" "Ratio.bottom" (rat 2) f_pbot fd)
    (a_psign : PySem.W.findIn K (.ref C) "sign" = some (some (.ref p_psign)))
    (g_psign : PySem.W.specialIn K (.ref p_psign) "__get__" = some (some (.builtin "property.__get__")))
    (t_psign : PySem.W.takesIn K (.ref p_psign) = some true)
    (c_psign : PySem.W.recIn K p_psign "property" = some (.ref f_psign :: r_psign))
    (F_psign : ∃ fd, Fun K "sign" "Ratio.sign" (rat 3) f_psign fd)
    (m1 : PySem.W.readsIn K C (.type "type") = true)
    (m2 : PySem.W.specialIn K (.ref C) "__getattribute__" = some (some (.builtin "type.__getattribute__")))
    (m3 : PySem.W.findCls K (.ref C) (.type "type") "total" = some (.get (.builtin "classmethod.__get__") (.ref p_total) .none (.ref C)))
    (m4 : PySem.W.recIn K p_total "classmethod" = some (.ref f_total :: r_total))
    (m5 : PySem.W.fnIn K f_total = true)
    (F_total : ∃ fd, Fun K "total" "Ratio.total" (rat 16) f_total fd)
    (pg : PySem.W.plainGet K C Str.empty = true)
    (hd : PySem.W.hasDictIn K C = true)
    (po : PySem.W.plainOver K C = true)
    (sa : PySem.W.findIn K (.ref C) "__setattr__" = some (some (.builtin "object.__setattr__")))
    (mk : PySem.W.makesIn K C = true)
    (kc : PySem.W.keepIn K (.ref C) = true)
    (nT : PySem.W.findIn K (.ref C) "_top" = some none)
    (nB : PySem.W.findIn K (.ref C) "_bottom" = some none)
    (ne : PySem.W.findIn K (.ref C) "__ne__" = some (some (.builtin "object.__ne__")))
    (sf : PySem.W.selfFirst K C = true)
    (nf : PySem.W.notFirst K C (.ref C) = true)
    (ni : PySem.W.notFirst K C (.type "int") = true)
    (sub_is : PySem.W.subIn K (.ref C) (.type "int") = some false)
    (sub_ob : PySem.W.subIn K (.ref C) (.type "object") = some true)
    (sub_li : PySem.W.subIn K (.ref C) (.type "list") = some false)
    (sub_tu : PySem.W.subIn K (.ref C) (.type "tuple") = some false)
    (ca : PySem.W.findIn K (.ref C) "__class__" = some (some (.builtin "object.__class__")))
    (cm : PySem.W.mroIn K C (.type "object") = some true)
    (cn : PySem.W.specialIn K (.builtin "object.__class__") "__get__" = some (some (.builtin "getset_descriptor.__get__")))
    (ct : PySem.W.takesIn K (.builtin "object.__class__") = some true)
    (tyC : PySem.W.typeIn K (.ref C) = some (.type "type"))
    (s_NoneType : PySem.W.subIn K (.type "NoneType") (.ref C) = some false)
    (s_bool : PySem.W.subIn K (.type "bool") (.ref C) = some false)
    (s_str : PySem.W.subIn K (.type "str") (.ref C) = some false)
    (s_tuple : PySem.W.subIn K (.type "tuple") (.ref C) = some false)
    (s_list : PySem.W.subIn K (.type "list") (.ref C) = some false)
    (s_int : PySem.W.subIn K (.type "int") (.ref C) = some false)
    (s_dict : PySem.W.subIn K (.type "dict") (.ref C) = some false)
    (lm : PySem.W.findIn K (.type "int") "__rmul__" = some rlm)
    (la : PySem.W.findIn K (.type "int") "__radd__" = some rla)
    (ls : PySem.W.findIn K (.type "int") "__rsub__" = some rls)
    (z_gcd : PySem.W.nsIn K mainGlobals "gcd" = some (some (.builtin "math.gcd")))
    (z_ms : PySem.W.nsIn K mainGlobals "MOST_IN_SQUARE" = some (some (.int 5 tk1)))
    (z_isinstance : PySem.W.nsIn K mainGlobals "isinstance" = some none)
    (z_int : PySem.W.nsIn K mainGlobals "int" = some none)
    (z_bool : PySem.W.nsIn K mainGlobals "bool" = some none)
    (z_list : PySem.W.nsIn K mainGlobals "list" = some none)
    (z_tuple : PySem.W.nsIn K mainGlobals "tuple" = some none)
    (z_abs : PySem.W.nsIn K mainGlobals "abs" = some none)
    (z_len : PySem.W.nsIn K mainGlobals "len" = some none)
    (z_max : PySem.W.nsIn K mainGlobals "max" = some none)
    (z_divmod : PySem.W.nsIn K mainGlobals "divmod" = some none)
    (z_str : PySem.W.nsIn K mainGlobals "str" = some none)
    (z_repr : PySem.W.nsIn K mainGlobals "repr" = some none)
    (z_range : PySem.W.nsIn K mainGlobals "range" = some none)
    (z_all : PySem.W.nsIn K mainGlobals "all" = some none)
    (z_zip : PySem.W.nsIn K mainGlobals "zip" = some none)
    (z_enumerate : PySem.W.nsIn K mainGlobals "enumerate" = some none)
    : ∃ fd : FuncData, (∀ (s : Shared) (v : Value), BindsTo s fd ⟨[v], []⟩ [("_law_script", v)]) ∧ ∀ base : Heap, K.In base → base.Ns mainGlobals mg → GnOk P w K mg base 17 fa fd ["_law_script"] (lift K spLaw) := by
  have e := hfa.symm.trans (PySem.W.mg_of X G a_law)
  cases e
  obtain ⟨d_isint, F_isint⟩ := F_isint
  obtain ⟨d_iscount, F_iscount⟩ := F_iscount
  obtain ⟨d_islist, F_islist⟩ := F_islist
  obtain ⟨d_isnum, F_isnum⟩ := F_isnum
  obtain ⟨d_nums, F_nums⟩ := F_nums
  obtain ⟨d_ifn, F_ifn⟩ := F_ifn
  obtain ⟨d_ratof, F_ratof⟩ := F_ratof
  obtain ⟨d_ratios, F_ratios⟩ := F_ratios
  obtain ⟨d_sqn, F_sqn⟩ := F_sqn
  obtain ⟨d_rrows, F_rrows⟩ := F_rrows
  obtain ⟨d_perm, F_perm⟩ := F_perm
  obtain ⟨d_tws, F_tws⟩ := F_tws
  obtain ⟨d_ckr, F_ckr⟩ := F_ckr
  obtain ⟨d_per, F_per⟩ := F_per
  obtain ⟨d_wt, F_wt⟩ := F_wt
  obtain ⟨d_pot, F_pot⟩ := F_pot
  obtain ⟨d_draw, F_draw⟩ := F_draw
  obtain ⟨d_pick, F_pick⟩ := F_pick
  obtain ⟨d_low, F_low⟩ := F_low
  obtain ⟨d_sum, F_sum⟩ := F_sum
  obtain ⟨d_prod, F_prod⟩ := F_prod
  obtain ⟨d_ratio, F_ratio⟩ := F_ratio
  obtain ⟨d_hand, F_hand⟩ := F_hand
  obtain ⟨d_am, F_am⟩ := F_am
  obtain ⟨d_ch, F_ch⟩ := F_ch
  obtain ⟨d_sqr, F_sqr⟩ := F_sqr
  obtain ⟨d_told, F_told⟩ := F_told
  obtain ⟨d_pass, F_pass⟩ := F_pass
  obtain ⟨d_mix, F_mix⟩ := F_mix
  obtain ⟨d_with, F_with⟩ := F_with
  obtain ⟨d_slack, F_slack⟩ := F_slack
  obtain ⟨d_right, F_right⟩ := F_right
  obtain ⟨d_law, F_law⟩ := F_law
  obtain ⟨d_init, F_init⟩ := F_init
  obtain ⟨d_total, F_total⟩ := F_total
  obtain ⟨d_add, F_add⟩ := F_add
  obtain ⟨d_radd, F_radd⟩ := F_radd
  obtain ⟨d_sub, F_sub⟩ := F_sub
  obtain ⟨d_rsub, F_rsub⟩ := F_rsub
  obtain ⟨d_mul, F_mul⟩ := F_mul
  obtain ⟨d_rmul, F_rmul⟩ := F_rmul
  obtain ⟨d_eq, F_eq⟩ := F_eq
  obtain ⟨d_repr, F_repr⟩ := F_repr
  obtain ⟨d_ptop, F_ptop⟩ := F_ptop
  obtain ⟨d_pbot, F_pbot⟩ := F_pbot
  obtain ⟨d_psign, F_psign⟩ := F_psign
  have b_isint := F_isint.binds (ps := ["value"]) fun _ _ _ _ _ _ us hl => match us, hl with | [_], _ => rfl
  have b_iscount := F_iscount.binds (ps := ["value"]) fun _ _ _ _ _ _ us hl => match us, hl with | [_], _ => rfl
  have b_islist := F_islist.binds (ps := ["value"]) fun _ _ _ _ _ _ us hl => match us, hl with | [_], _ => rfl
  have b_isnum := F_isnum.binds (ps := ["value"]) fun _ _ _ _ _ _ us hl => match us, hl with | [_], _ => rfl
  have b_nums := F_nums.binds (ps := ["value", "many"]) fun _ _ _ _ _ _ us hl => match us, hl with | [_, _], _ => rfl
  have b_ifn := F_ifn.binds (ps := ["value", "many"]) fun _ _ _ _ _ _ us hl => match us, hl with | [_, _], _ => rfl
  have b_ratof := F_ratof.binds (ps := ["value"]) fun _ _ _ _ _ _ us hl => match us, hl with | [_], _ => rfl
  have b_ratios := F_ratios.binds (ps := ["numbers"]) fun _ _ _ _ _ _ us hl => match us, hl with | [_], _ => rfl
  have b_sqn := F_sqn.binds (ps := ["value"]) fun _ _ _ _ _ _ us hl => match us, hl with | [_], _ => rfl
  have b_rrows := F_rrows.binds (ps := ["rows"]) fun _ _ _ _ _ _ us hl => match us, hl with | [_], _ => rfl
  have b_perm := F_perm.binds (ps := ["rows"]) fun _ _ _ _ _ _ us hl => match us, hl with | [_], _ => rfl
  have b_tws := F_tws.binds (ps := ["rows", "first", "second"]) fun _ _ _ _ _ _ us hl => match us, hl with | [_, _, _], _ => rfl
  have b_ckr := F_ckr.binds (ps := ["rows"]) fun _ _ _ _ _ _ us hl => match us, hl with | [_], _ => rfl
  have b_per := F_per.binds (ps := ["rows"]) fun _ _ _ _ _ _ us hl => match us, hl with | [_], _ => rfl
  have b_wt := F_wt.binds (ps := ["rows", "place", "other"]) fun _ _ _ _ _ _ us hl => match us, hl with | [_, _, _], _ => rfl
  have b_pot := F_pot.binds (ps := ["_law_script", "_law_k"]) fun _ _ _ _ _ _ us hl => match us, hl with | [_, _], _ => rfl
  have b_draw := F_draw.binds (ps := ["_law_pot_here", "_law_many"]) fun _ _ _ _ _ _ us hl => match us, hl with | [_, _], _ => rfl
  have b_pick := F_pick.binds (ps := ["_law_pot_here", "_law_some"]) fun _ _ _ _ _ _ us hl => match us, hl with | [_, _], _ => rfl
  have b_low := F_low.binds (ps := ["_law_top", "_law_base"]) fun _ _ _ _ _ _ us hl => match us, hl with | [_, _], _ => rfl
  have b_sum := F_sum.binds (ps := ["_law_one", "_law_other"]) fun _ _ _ _ _ _ us hl => match us, hl with | [_, _], _ => rfl
  have b_prod := F_prod.binds (ps := ["_law_one", "_law_other"]) fun _ _ _ _ _ _ us hl => match us, hl with | [_, _], _ => rfl
  have b_ratio := F_ratio.binds (ps := ["_law_one"]) fun _ _ _ _ _ _ us hl => match us, hl with | [_], _ => rfl
  have b_hand := F_hand.binds (ps := ["_law_pot_here", "_law_one"]) fun _ _ _ _ _ _ us hl => match us, hl with | [_, _], _ => rfl
  have b_am := F_am.binds (ps := ["_law_pot_here", "_law_most"]) fun _ _ _ _ _ _ us hl => match us, hl with | [_, _], _ => rfl
  have b_ch := F_ch.binds (ps := ["_law_rows_now"]) fun _ _ _ _ _ _ us hl => match us, hl with | [_], _ => rfl
  have b_sqr := F_sqr.binds (ps := ["_law_pot_here", "_law_many", "_law_most"]) fun _ _ _ _ _ _ us hl => match us, hl with | [_, _, _], _ => rfl
  have b_told := F_told.binds (ps := ["_law_rows_now"]) fun _ _ _ _ _ _ us hl => match us, hl with | [_], _ => rfl
  have b_pass := F_pass.binds (ps := ["_law_pot_here", "_law_rows_now"]) fun _ _ _ _ _ _ us hl => match us, hl with | [_, _], _ => rfl
  have b_mix := F_mix.binds (ps := ["_law_pot_here", "_law_some"]) fun _ _ _ _ _ _ us hl => match us, hl with | [_, _], _ => rfl
  have b_with := F_with.binds (ps := ["_law_rows_now", "_law_spot", "_law_row"]) fun _ _ _ _ _ _ us hl => match us, hl with | [_, _, _], _ => rfl
  have b_slack := F_slack.binds (ps := ["_law_rows_now", "_law_one", "_law_other"]) fun _ _ _ _ _ _ us hl => match us, hl with | [_, _, _], _ => rfl
  have b_right := F_right.binds (ps := ["_law_pot_here"]) fun _ _ _ _ _ _ us hl => match us, hl with | [_], _ => rfl
  have b_law := F_law.binds (ps := ["_law_script"]) fun _ _ _ _ _ _ us hl => match us, hl with | [_], _ => rfl
  have b_add := F_add.binds (ps := ["self", "other"]) fun _ _ _ _ _ _ us hl => match us, hl with | [_, _], _ => rfl
  have b_radd := F_radd.binds (ps := ["self", "other"]) fun _ _ _ _ _ _ us hl => match us, hl with | [_, _], _ => rfl
  have b_sub := F_sub.binds (ps := ["self", "other"]) fun _ _ _ _ _ _ us hl => match us, hl with | [_, _], _ => rfl
  have b_rsub := F_rsub.binds (ps := ["self", "other"]) fun _ _ _ _ _ _ us hl => match us, hl with | [_, _], _ => rfl
  have b_mul := F_mul.binds (ps := ["self", "other"]) fun _ _ _ _ _ _ us hl => match us, hl with | [_, _], _ => rfl
  have b_rmul := F_rmul.binds (ps := ["self", "other"]) fun _ _ _ _ _ _ us hl => match us, hl with | [_, _], _ => rfl
  have b_eq := F_eq.binds (ps := ["self", "other"]) fun _ _ _ _ _ _ us hl => match us, hl with | [_, _], _ => rfl
  have b_repr := F_repr.binds (ps := ["self"]) fun _ _ _ _ _ _ us hl => match us, hl with | [_], _ => rfl
  have b_ptop := F_ptop.binds (ps := ["self"]) fun _ _ _ _ _ _ us hl => match us, hl with | [_], _ => rfl
  have b_pbot := F_pbot.binds (ps := ["self"]) fun _ _ _ _ _ _ us hl => match us, hl with | [_], _ => rfl
  have b_psign := F_psign.binds (ps := ["self"]) fun _ _ _ _ _ _ us hl => match us, hl with | [_], _ => rfl
  have b_total := F_total.binds (ps := ["cls", "numbers"]) fun _ _ _ _ _ _ us hl => match us, hl with | [_, _], _ => rfl
  obtain ⟨ds2, v2, b2⟩ := F_init.binds1 (ps := ["self", "top", "bottom"]) 3 1 (by simp) rfl fun T kV doc pm an cdv ct us its l1 l2 => match us, its, l1, l2 with | [_, _, _], [_], _, _ => ⟨_, rfl, rfl⟩
  obtain ⟨ds1, v1, b1⟩ := F_init.binds1 (ps := ["self", "top", "bottom"]) 2 0 (by simp) rfl fun T kV doc pm an cdv ct us its l1 l2 => match us, its, l1, l2 with | [_, _], [_], _, _ => ⟨_, rfl, rfl⟩
  have bK_tws := fun_kbnR (ps := ["rows", "first", "second"]) (n := 0) (ks := ["second", "first", "rows"]) F_tws fun _ _ _ _ _ _ us ws l1 l2 => match us, ws, l1, l2 with | [], [_, _, _], _, _ => rfl
  have cl : Cls K C := ⟨pg, hd, po, sa⟩
  have T : Txt K mg C := {
    nu := ⟨cl, sf, nf, ni, s_int, sub_is, sub_ob⟩
    is := ⟨cl, ca, cn, ct, cm⟩
    nT := nT
    nB := nB
    ne := ne
    mC := PySem.W.mg_of X G aC
    gcd := PySem.W.mg_of X G z_gcd
    isi := PySem.W.mg_none_of X G z_isinstance
    int := PySem.W.mg_none_of X G z_int
    bool := PySem.W.mg_none_of X G z_bool
    list := PySem.W.mg_none_of X G z_list
    tuple := PySem.W.mg_none_of X G z_tuple
    abs := PySem.W.mg_none_of X G z_abs
    len := PySem.W.mg_none_of X G z_len
    max := PySem.W.mg_none_of X G z_max
    divmod := PySem.W.mg_none_of X G z_divmod
    str := PySem.W.mg_none_of X G z_str
    repr := PySem.W.mg_none_of X G z_repr
    range := PySem.W.mg_none_of X G z_range
    all := PySem.W.mg_none_of X G z_all
    zip := PySem.W.mg_none_of X G z_zip
    k1 := kit_ty (by decide +kernel)
    k2 := kit_ty (by decide +kernel)
    k3 := kit_ty (by decide +kernel)
    k4 := kit_ty (by decide +kernel)
    k5 := kit_ty (by decide +kernel)
    k7 := kit_ty (by decide +kernel)
    k8 := kit_ty (by decide +kernel)
    k6 := kit_tyc (by decide +kernel) sub_is
    r1 := kit_ref hd tyC (fun z => by cases z) s_NoneType
    r2 := kit_ref hd tyC (fun z => by cases z) s_bool
    r3 := kit_ref hd tyC (fun z => by cases z) s_str
    r4 := kit_ref hd tyC (fun z => by cases z) s_tuple
    r5 := kit_ref hd tyC (fun z => by cases z) s_list
    r7 := kit_ref hd tyC (fun z => by cases z) s_int
    r8 := kit_ref hd tyC (fun z => by cases z) s_dict
    l0 := fun T h => by rcases h with rfl | rfl | rfl | rfl | rfl <;> exact kitAny_cons (b := false) (kit_ty (by decide +kernel)) (fun _ => kitAny_cons (b := false) (kit_ty (by decide +kernel)) (fun _ => rfl) (fun z => Bool.noConfusion z)) (fun z => Bool.noConfusion z)
    l3 := kitAny_cons (b := false) (kit_tyc (by decide +kernel) sub_li) (fun _ => kitAny_cons (b := false) (kit_tyc (by decide +kernel) sub_tu) (fun _ => rfl) (fun z => Bool.noConfusion z)) (fun z => Bool.noConfusion z)
    l1 := kitAny_cons (b := true) (same (beq_self_eq_true _)) (fun z => Bool.noConfusion z) (fun _ => rfl)
    l2 := kitAny_cons (b := false) (kit_ty (by decide +kernel)) (fun _ => kitAny_cons (b := true) (same (beq_self_eq_true _)) (fun z => Bool.noConfusion z) (fun _ => rfl)) (fun z => Bool.noConfusion z) }
  have M : Mk K C f_init := ⟨mk, a_init, i_init, kc⟩
  have bL : ∀ (s : Shared) (v : Value), BindsTo s d_law ⟨[v], []⟩ [("_law_script", v)] := by
    obtain ⟨oc, od, kV, doc, pm, an, cdv, ct, osl, rfl, _⟩ := F_law.ex
    exact fun s v => .of_eq rfl
  refine ⟨d_law, bL, fun base _ _ => ?_⟩
  have D_isint : Df P w K mg base "is_integer" 1 1 (spB C isI) := df_of (fun_s F_isint) (ok_isint (fun_s F_isint) T) (PySem.W.mg_of X G a_isint) b_isint rfl
  have D_iscount : Df P w K mg base "is_count" 2 1 (spB C isC) := df_of (fun_s F_iscount) (ok_iscount (fun_s F_iscount) T D_isint) (PySem.W.mg_of X G a_iscount) b_iscount rfl
  have D_islist : Df P w K mg base "is_list" 1 1 (spB C isL) := df_of (fun_s F_islist) (ok_islist2 (fun_s F_islist) T) (PySem.W.mg_of X G a_islist) b_islist rfl
  have D_isnum : Df P w K mg base "is_number" 2 1 (spB C isN) := df_of (fun_s F_isnum) (ok_isnumber (fun_s F_isnum) T D_isint) (PySem.W.mg_of X G a_isnum) b_isnum rfl
  have GI := ok_init (P := P) (w := w) (base := base) (fund_s F_init) T D_isint
  have mk2 : Kl P w K mg base "Ratio" C 2 [] spInit := ⟨f_init, d_init, _, [], ds2, GI, M, T.mC, b2, v2, fun _ => .nil⟩
  have mk1 : Kl P w K mg base "Ratio" C 2 [.int 1] spInit := ⟨f_init, d_init, _, [.int 1], ds1, GI, M, T.mC, b1, v1, fun _ => .cons (.int 1) .nil⟩
  have D_ptop : Pr P w K mg base C "top" 1 (sp1 C fun p => .int p.1) := ⟨p_ptop, f_ptop, d_ptop, _, ok_top (fun_s F_ptop) T, ⟨a_ptop, g_ptop, t_ptop, _, c_ptop⟩, b_ptop⟩
  have D_pbot : Pr P w K mg base C "bottom" 1 (sp1 C fun p => .int p.2) := ⟨p_pbot, f_pbot, d_pbot, _, ok_bot (fun_s F_pbot) T, ⟨a_pbot, g_pbot, t_pbot, _, c_pbot⟩, b_pbot⟩
  have D_psign : Pr P w K mg base C "sign" 1 (sp1 C fun p => .int (sgF p)) := ⟨p_psign, f_psign, d_psign, _, ok_sign (fun_s F_psign) T, ⟨a_psign, g_psign, t_psign, _, c_psign⟩, b_psign⟩
  have V : Rt P w K mg base C := ⟨T, mk2, mk1, D_ptop, D_pbot⟩
  have D_ratof : Df P w K mg base "ratio_of" 4 1 (spRat C) := df_of (fun_s F_ratof) (ok_ratof (fun_s F_ratof) V) (PySem.W.mg_of X G a_ratof) b_ratof rfl
  have D_add : Sm P w K mg base C "__add__" 5 (spOp C fun p q => Ra C (addF p q)) := ⟨f_add, d_add, _, ok_add (fun_s F_add) V D_ratof, a_add, i_add, b_add⟩
  have D_radd : Sm P w K mg base C "__radd__" 6 (spOp C fun p q => Ra C (addF q p)) := ⟨f_radd, d_radd, _, ok_radd (fun_s F_radd) V D_ratof D_add, a_radd, i_radd, b_radd⟩
  have D_sub : Sm P w K mg base C "__sub__" 5 (spOp C fun p q => Ra C (subF p q)) := ⟨f_sub, d_sub, _, ok_sub (fun_s F_sub) V D_ratof, a_sub, i_sub, b_sub⟩
  have D_rsub : Sm P w K mg base C "__rsub__" 6 (spOp C fun p q => Ra C (subF q p)) := ⟨f_rsub, d_rsub, _, ok_rsub (fun_s F_rsub) V D_ratof D_sub, a_rsub, i_rsub, b_rsub⟩
  have D_mul : Sm P w K mg base C "__mul__" 5 (spOp C fun p q => Ra C (mulF p q)) := ⟨f_mul, d_mul, _, ok_mul (fun_s F_mul) V D_ratof, a_mul, i_mul, b_mul⟩
  have D_rmul : Sm P w K mg base C "__rmul__" 6 (spOp C fun p q => Ra C (mulF q p)) := ⟨f_rmul, d_rmul, _, ok_rmul (fun_s F_rmul) V D_ratof D_mul, a_rmul, i_rmul, b_rmul⟩
  have D_eq : Sm P w K mg base C "__eq__" 1 (spEq C) := ⟨f_eq, d_eq, _, ok_eq (fun_s F_eq) T, a_eq, i_eq, b_eq⟩
  have D_repr : Sm P w K mg base C "__repr__" 1 (sp1b C 1900 fun p => .str (reprF p)) := ⟨f_repr, d_repr, _, ok_repr (fun_s F_repr) T, a_repr, i_repr, b_repr⟩
  have LL : Lv P w K mg base C := { V := V, ratof := D_ratof, isnum := D_isnum, add := D_add, radd := D_radd, sub := D_sub, rsub := D_rsub, mul := D_mul, rmul := D_rmul, eq := D_eq, repr := D_repr, la := ⟨_, la⟩, lm := ⟨_, lm⟩, ls := ⟨_, ls⟩ }
  have GT := ok_total2 (P := P) (w := w) (base := base) (fun_s F_total) LL D_islist
  have D_total : Cm P w K mg base C "total" 7 (spTot C) := ⟨f_total, d_total, _, p_total, _, GT, ⟨m1, m2⟩, ⟨m3, ⟨_, m4⟩, m5⟩, b_total⟩
  have D_nums : Df P w K mg base "is_numbers" 3 2 (spNums C) := df_of (fun_s F_nums) (ok_nums (fun_s F_nums) LL D_islist) (PySem.W.mg_of X G a_nums) b_nums rfl
  have D_ratios : Df P w K mg base "ratios_of" 5 1 (spRatios C) := df_of (fun_s F_ratios) (ok_ratios (fun_s F_ratios) LL) (PySem.W.mg_of X G a_ratios) b_ratios rfl
  have D_rrows : Df P w K mg base "ratio_rows" 6 1 (spRows C) := df_of (fun_s F_rrows) (ok_rows (fun_s F_rrows) D_ratios) (PySem.W.mg_of X G a_rrows) b_rrows rfl
  have D_ifn : Df P w K mg base "is_from_nought" 5 2 (spIfn C) := df_of (fun_s F_ifn) (ok_ifn (fun_s F_ifn) LL D_psign D_nums) (PySem.W.mg_of X G a_ifn) b_ifn rfl
  have D_sqn : Df P w K mg base "is_square_from_nought" 6 1 (spSqn C) := df_of (fun_s F_sqn) (ok_sqn (fun_s F_sqn) T (PySem.W.mg_of X G z_ms) D_islist D_ifn) (PySem.W.mg_of X G a_sqn) b_sqn rfl
  have D_ckr : Df P w K mg base "check_rows" 7 1 (spCkr C) := df_of (fun_s F_ckr) (ok_ckr (fun_s F_ckr) D_sqn) (PySem.W.mg_of X G a_ckr) b_ckr rfl
  have D_per : ∀ k, Df P w K mg base "_permanent" (k + 8) 1 (spPer C k) := fun k => by
    induction k with
    | zero => exact df_of (fun_s F_per) (ok_per 0 (fun_s F_per) LL (PySem.W.mg_none_of X G z_enumerate) D_psign D_total fun j h => by omega) (PySem.W.mg_of X G a_per) b_per rfl
    | succ k ih => exact df_of (fun_s F_per) (ok_per (k + 1) (fun_s F_per) LL (PySem.W.mg_none_of X G z_enumerate) D_psign D_total fun j h => by have e : k = j := (by omega); subst e; exact ih) (PySem.W.mg_of X G a_per) b_per rfl
  have D_perm : Df P w K mg base "permanent" 13 1 (spPerm C) := df_of (fun_s F_perm) (ok_perm (fun_s F_perm) D_ckr D_rrows (fun k _ => D_per k)) (PySem.W.mg_of X G a_perm) b_perm rfl
  have D_wt : Df P w K mg base "_with_twin" 14 3 (spWt C) := df_of (fun_s F_wt) (ok_wt (fun_s F_wt) (PySem.W.mg_none_of X G z_enumerate) D_perm) (PySem.W.mg_of X G a_wt) b_wt rfl
  have D_tws : Df P w K mg base "twin_slack" 15 3 (spTws C) := df_of (fun_s F_tws) (ok_tws (fun_s F_tws) LL D_iscount D_ckr D_perm D_wt) (PySem.W.mg_of X G a_tws) b_tws rfl
  have DK_tws : DfK P w K mg base "twin_slack" 15 ["second", "first", "rows"] List.reverse (spTws C) := ⟨f_tws, d_tws, _, _, List.reverse, ok_tws (fun_s F_tws) LL D_iscount D_ckr D_perm D_wt, PySem.W.mg_of X G a_tws, F_tws.kp, bK_tws, fun _ _ _ h => paired_rev h⟩
  have D_draw : Df P w K mg base "_law_draw" 1 2 spDraw := df_of (fun_s F_draw) (ok_draw (fun_s F_draw) T) (PySem.W.mg_of X G a_draw) b_draw rfl
  have D_pick : Df P w K mg base "_law_pick" 2 2 spPick := df_of (fun_s F_pick) (ok_pick (fun_s F_pick) T D_draw) (PySem.W.mg_of X G a_pick) b_pick rfl
  have D_low : Df P w K mg base "_law_low" 1 2 spLow := df_of (fun_s F_low) (ok_low (fun_s F_low) T) (PySem.W.mg_of X G a_low) b_low rfl
  have D_sum : Df P w K mg base "_law_sum" 2 2 (spFF addF) := df_of (fun_s F_sum) (ok_sum (fun_s F_sum) D_low) (PySem.W.mg_of X G a_sum) b_sum rfl
  have D_prod : Df P w K mg base "_law_product" 2 2 (spFF mulF) := df_of (fun_s F_prod) (ok_prod (fun_s F_prod) D_low) (PySem.W.mg_of X G a_prod) b_prod rfl
  have D_ratio : Df P w K mg base "_law_ratio" 4 1 (spRat1 C) := df_of (fun_s F_ratio) (ok_ratio (fun_s F_ratio) V) (PySem.W.mg_of X G a_ratio) b_ratio rfl
  have D_hand : Df P w K mg base "_law_handed" 5 2 (spHand C) := df_of (fun_s F_hand) (ok_hand (fun_s F_hand) V D_draw D_ratio) (PySem.W.mg_of X G a_hand) b_hand rfl
  have D_am : Df P w K mg base "_law_amount" 3 2 spAm := df_of (fun_s F_am) (ok_am (fun_s F_am) D_draw D_pick D_low) (PySem.W.mg_of X G a_am) b_am rfl
  have D_ch : ∀ k, Df P w K mg base "_law_choices" (k + 3) 1 (spCh k) := fun k => by
    induction k with
    | zero => exact df_of (fun_s F_ch) (ok_ch 0 (fun_s F_ch) (PySem.W.mg_none_of X G z_enumerate) D_sum D_prod fun j h => by omega) (PySem.W.mg_of X G a_ch) b_ch rfl
    | succ k ih => exact df_of (fun_s F_ch) (ok_ch (k + 1) (fun_s F_ch) (PySem.W.mg_none_of X G z_enumerate) D_sum D_prod fun j h => by have e : k = j := (by omega); subst e; exact ih) (PySem.W.mg_of X G a_ch) b_ch rfl
  have D_sqr : Df P w K mg base "_law_square" 4 3 spSqr := df_of (fun_s F_sqr) (ok_sqr (fun_s F_sqr) T D_am) (PySem.W.mg_of X G a_sqr) b_sqr rfl
  have D_told : Df P w K mg base "_law_told" 5 1 (spTold C) := df_of (fun_s F_told) (ok_told (fun_s F_told) D_ratio) (PySem.W.mg_of X G a_told) b_told rfl
  have D_pass : Df P w K mg base "_law_passed" 6 2 (spPass C) := df_of (fun_s F_pass) (ok_pass (fun_s F_pass) D_hand) (PySem.W.mg_of X G a_pass) b_pass rfl
  have D_mix : Df P w K mg base "_law_mixed" 2 2 spMix := df_of (fun_s F_mix) (ok_mix (fun_s F_mix) T D_draw) (PySem.W.mg_of X G a_mix) b_mix rfl
  have D_with : Df P w K mg base "_law_with" 1 3 spWith := df_of (fun_s F_with) (ok_with (fun_s F_with)) (PySem.W.mg_of X G a_with) b_with rfl
  have D_slack : Df P w K mg base "_law_slack" 8 3 spSlack := df_of (fun_s F_slack) (ok_slack (fun_s F_slack) D_sum D_prod (fun k _ => D_ch k) D_with) (PySem.W.mg_of X G a_slack) b_slack rfl
  have RI : Ri P w K mg base C := { L := LL, dr := D_draw, pi := D_pick, su := D_sum, pr := D_prod, ra := D_ratio, am := D_am, sq := D_sqr, to := D_told, pa := D_pass, mi := D_mix, wi := D_with, sl := D_slack, tw := D_tws, twK := DK_tws, pm := D_perm }
  have D_right : Df P w K mg base "_law_right" 16 1 spRight := df_of (fun_s F_right) (ok_right (fun_s F_right) RI) (PySem.W.mg_of X G a_right) b_right rfl
  have D_pot : Nf P w K mg base "_law_pot" 1 spPot := ⟨f_pot, d_pot, _, ok_pot (fun_s F_pot) T, PySem.W.mg_of X G a_pot, F_pot.kp, b_pot⟩
  exact ok_law (fun_s F_law) D_pot D_right
end K85

set_option Elab.async false
open PySem PySem.W PyProof.Rows
set_option maxRecDepth 100000 in
set_option maxHeartbeats 0 in
theorem PySem.Challenge.cw_onecrest_k85_whole_twins_holds : PySem.Challenge.rw_onecrest_k85_whole_twins.Holds := by
  w_on; o_law; k_head; (case hw => w_witness2)
  k_fill
  refine DL.walk_gn (l := PySem.Challenge.rw_onecrest_k85_whole_twins) (n := 63) (k := 17) (x := "_law_script") (sp := fun w => DL.lift _ K85.spLaw) rfl (by decide) rfl ⟨rfl, by decide, by decide⟩ (fun w h Y => PySem.W.kIn_of Y) ?F (fun _ H a ns _ hS => K85.law_gives H a ns hS)
  case F =>
    intro w mg fa h KX G hmg
    refine' K85.lw_mk KX G hmg ?aC ?a_isint ?F_isint ?a_iscount ?F_iscount ?a_islist ?F_islist ?a_isnum ?F_isnum ?a_nums ?F_nums ?a_ifn ?F_ifn ?a_ratof ?F_ratof ?a_ratios ?F_ratios ?a_sqn ?F_sqn ?a_rrows ?F_rrows ?a_perm ?F_perm ?a_tws ?F_tws ?a_ckr ?F_ckr ?a_per ?F_per ?a_wt ?F_wt ?a_pot ?F_pot ?a_draw ?F_draw ?a_pick ?F_pick ?a_low ?F_low ?a_sum ?F_sum ?a_prod ?F_prod ?a_ratio ?F_ratio ?a_hand ?F_hand ?a_am ?F_am ?a_ch ?F_ch ?a_sqr ?F_sqr ?a_told ?F_told ?a_pass ?F_pass ?a_mix ?F_mix ?a_with ?F_with ?a_slack ?F_slack ?a_right ?F_right ?a_law ?F_law ?a_init ?i_init ?F_init ?a_add ?i_add ?F_add ?a_radd ?i_radd ?F_radd ?a_sub ?i_sub ?F_sub ?a_rsub ?i_rsub ?F_rsub ?a_mul ?i_mul ?F_mul ?a_rmul ?i_rmul ?F_rmul ?a_eq ?i_eq ?F_eq ?a_repr ?i_repr ?F_repr ?a_ptop ?g_ptop ?t_ptop ?c_ptop ?F_ptop ?a_pbot ?g_pbot ?t_pbot ?c_pbot ?F_pbot ?a_psign ?g_psign ?t_psign ?c_psign ?F_psign ?m1 ?m2 ?m3 ?m4 ?m5 ?F_total ?pg ?hd ?po ?sa ?mk ?kc ?nT ?nB ?ne ?sf ?nf ?ni ?sub_is ?sub_ob ?sub_li ?sub_tu ?ca ?cm ?cn ?ct ?tyC ?s_NoneType ?s_bool ?s_str ?s_tuple ?s_list ?s_int ?s_dict ?lm ?la ?ls ?z_gcd ?z_ms ?z_isinstance ?z_int ?z_bool ?z_list ?z_tuple ?z_abs ?z_len ?z_max ?z_divmod ?z_str ?z_repr ?z_range ?z_all ?z_zip ?z_enumerate
    (case aC => k_is)
    (case a_isint => k_is)
    (case F_isint => (refine' ⟨_, L2.fun_mk ?l ?c ?k⟩; (case l => k_is); (case c => k_is); (case k => k_is)))
    (case a_iscount => k_is)
    (case F_iscount => (refine' ⟨_, L2.fun_mk ?l ?c ?k⟩; (case l => k_is); (case c => k_is); (case k => k_is)))
    (case a_islist => k_is)
    (case F_islist => (refine' ⟨_, L2.fun_mk ?l ?c ?k⟩; (case l => k_is); (case c => k_is); (case k => k_is)))
    (case a_isnum => k_is)
    (case F_isnum => (refine' ⟨_, L2.fun_mk ?l ?c ?k⟩; (case l => k_is); (case c => k_is); (case k => k_is)))
    (case a_nums => k_is)
    (case F_nums => (refine' ⟨_, L2.fun_mk ?l ?c ?k⟩; (case l => k_is); (case c => k_is); (case k => k_is)))
    (case a_ifn => k_is)
    (case F_ifn => (refine' ⟨_, L2.fun_mk ?l ?c ?k⟩; (case l => k_is); (case c => k_is); (case k => k_is)))
    (case a_ratof => k_is)
    (case F_ratof => (refine' ⟨_, L2.fun_mk ?l ?c ?k⟩; (case l => k_is); (case c => k_is); (case k => k_is)))
    (case a_ratios => k_is)
    (case F_ratios => (refine' ⟨_, L2.fun_mk ?l ?c ?k⟩; (case l => k_is); (case c => k_is); (case k => k_is)))
    (case a_sqn => k_is)
    (case F_sqn => (refine' ⟨_, L2.fun_mk ?l ?c ?k⟩; (case l => k_is); (case c => k_is); (case k => k_is)))
    (case a_rrows => k_is)
    (case F_rrows => (refine' ⟨_, L2.fun_mk ?l ?c ?k⟩; (case l => k_is); (case c => k_is); (case k => k_is)))
    (case a_perm => k_is)
    (case F_perm => (refine' ⟨_, L2.fun_mk ?l ?c ?k⟩; (case l => k_is); (case c => k_is); (case k => k_is)))
    (case a_tws => k_is)
    (case F_tws => (refine' ⟨_, L2.fun_mk ?l ?c ?k⟩; (case l => k_is); (case c => k_is); (case k => k_is)))
    (case a_ckr => k_is)
    (case F_ckr => (refine' ⟨_, L2.fun_mk ?l ?c ?k⟩; (case l => k_is); (case c => k_is); (case k => k_is)))
    (case a_per => k_is)
    (case F_per => (refine' ⟨_, L2.fun_mk ?l ?c ?k⟩; (case l => k_is); (case c => k_is); (case k => k_is)))
    (case a_wt => k_is)
    (case F_wt => (refine' ⟨_, L2.fun_mk ?l ?c ?k⟩; (case l => k_is); (case c => k_is); (case k => k_is)))
    (case a_pot => k_is)
    (case F_pot => (refine' ⟨_, L2.fun_mk ?l ?c ?k⟩; (case l => k_is); (case c => k_is); (case k => k_is)))
    (case a_draw => k_is)
    (case F_draw => (refine' ⟨_, L2.fun_mk ?l ?c ?k⟩; (case l => k_is); (case c => k_is); (case k => k_is)))
    (case a_pick => k_is)
    (case F_pick => (refine' ⟨_, L2.fun_mk ?l ?c ?k⟩; (case l => k_is); (case c => k_is); (case k => k_is)))
    (case a_low => k_is)
    (case F_low => (refine' ⟨_, L2.fun_mk ?l ?c ?k⟩; (case l => k_is); (case c => k_is); (case k => k_is)))
    (case a_sum => k_is)
    (case F_sum => (refine' ⟨_, L2.fun_mk ?l ?c ?k⟩; (case l => k_is); (case c => k_is); (case k => k_is)))
    (case a_prod => k_is)
    (case F_prod => (refine' ⟨_, L2.fun_mk ?l ?c ?k⟩; (case l => k_is); (case c => k_is); (case k => k_is)))
    (case a_ratio => k_is)
    (case F_ratio => (refine' ⟨_, L2.fun_mk ?l ?c ?k⟩; (case l => k_is); (case c => k_is); (case k => k_is)))
    (case a_hand => k_is)
    (case F_hand => (refine' ⟨_, L2.fun_mk ?l ?c ?k⟩; (case l => k_is); (case c => k_is); (case k => k_is)))
    (case a_am => k_is)
    (case F_am => (refine' ⟨_, L2.fun_mk ?l ?c ?k⟩; (case l => k_is); (case c => k_is); (case k => k_is)))
    (case a_ch => k_is)
    (case F_ch => (refine' ⟨_, L2.fun_mk ?l ?c ?k⟩; (case l => k_is); (case c => k_is); (case k => k_is)))
    (case a_sqr => k_is)
    (case F_sqr => (refine' ⟨_, L2.fun_mk ?l ?c ?k⟩; (case l => k_is); (case c => k_is); (case k => k_is)))
    (case a_told => k_is)
    (case F_told => (refine' ⟨_, L2.fun_mk ?l ?c ?k⟩; (case l => k_is); (case c => k_is); (case k => k_is)))
    (case a_pass => k_is)
    (case F_pass => (refine' ⟨_, L2.fun_mk ?l ?c ?k⟩; (case l => k_is); (case c => k_is); (case k => k_is)))
    (case a_mix => k_is)
    (case F_mix => (refine' ⟨_, L2.fun_mk ?l ?c ?k⟩; (case l => k_is); (case c => k_is); (case k => k_is)))
    (case a_with => k_is)
    (case F_with => (refine' ⟨_, L2.fun_mk ?l ?c ?k⟩; (case l => k_is); (case c => k_is); (case k => k_is)))
    (case a_slack => k_is)
    (case F_slack => (refine' ⟨_, L2.fun_mk ?l ?c ?k⟩; (case l => k_is); (case c => k_is); (case k => k_is)))
    (case a_right => k_is)
    (case F_right => (refine' ⟨_, L2.fun_mk ?l ?c ?k⟩; (case l => k_is); (case c => k_is); (case k => k_is)))
    (case a_law => k_is)
    (case F_law => (refine' ⟨_, L2.fun_mk ?l ?c ?k⟩; (case l => k_is); (case c => k_is); (case k => k_is)))
    (case a_init => k_is)
    (case i_init => k_is)
    (case F_init => (refine' ⟨_, K85.fund1 ?l ?c ?k ?t⟩; (case l => k_is); (case c => k_is); (case k => k_is); (case t => k_is)))
    (case a_add => k_is)
    (case i_add => k_is)
    (case F_add => (refine' ⟨_, L2.fun_mk ?l ?c ?k⟩; (case l => k_is); (case c => k_is); (case k => k_is)))
    (case a_radd => k_is)
    (case i_radd => k_is)
    (case F_radd => (refine' ⟨_, L2.fun_mk ?l ?c ?k⟩; (case l => k_is); (case c => k_is); (case k => k_is)))
    (case a_sub => k_is)
    (case i_sub => k_is)
    (case F_sub => (refine' ⟨_, L2.fun_mk ?l ?c ?k⟩; (case l => k_is); (case c => k_is); (case k => k_is)))
    (case a_rsub => k_is)
    (case i_rsub => k_is)
    (case F_rsub => (refine' ⟨_, L2.fun_mk ?l ?c ?k⟩; (case l => k_is); (case c => k_is); (case k => k_is)))
    (case a_mul => k_is)
    (case i_mul => k_is)
    (case F_mul => (refine' ⟨_, L2.fun_mk ?l ?c ?k⟩; (case l => k_is); (case c => k_is); (case k => k_is)))
    (case a_rmul => k_is)
    (case i_rmul => k_is)
    (case F_rmul => (refine' ⟨_, L2.fun_mk ?l ?c ?k⟩; (case l => k_is); (case c => k_is); (case k => k_is)))
    (case a_eq => k_is)
    (case i_eq => k_is)
    (case F_eq => (refine' ⟨_, L2.fun_mk ?l ?c ?k⟩; (case l => k_is); (case c => k_is); (case k => k_is)))
    (case a_repr => k_is)
    (case i_repr => k_is)
    (case F_repr => (refine' ⟨_, L2.fun_mk ?l ?c ?k⟩; (case l => k_is); (case c => k_is); (case k => k_is)))
    (case a_ptop => k_is)
    (case g_ptop => k_is)
    (case t_ptop => k_is)
    (case c_ptop => k_is)
    (case F_ptop => (refine' ⟨_, L2.fun_mk ?l ?c ?k⟩; (case l => k_is); (case c => k_is); (case k => k_is)))
    (case a_pbot => k_is)
    (case g_pbot => k_is)
    (case t_pbot => k_is)
    (case c_pbot => k_is)
    (case F_pbot => (refine' ⟨_, L2.fun_mk ?l ?c ?k⟩; (case l => k_is); (case c => k_is); (case k => k_is)))
    (case a_psign => k_is)
    (case g_psign => k_is)
    (case t_psign => k_is)
    (case c_psign => k_is)
    (case F_psign => (refine' ⟨_, L2.fun_mk ?l ?c ?k⟩; (case l => k_is); (case c => k_is); (case k => k_is)))
    (case m1 => k_is)
    (case m2 => k_is)
    (case m3 => k_is)
    (case m4 => k_is)
    (case m5 => k_is)
    (case F_total => (refine' ⟨_, L2.fun_mk ?l ?c ?k⟩; (case l => k_is); (case c => k_is); (case k => k_is)))
    (case pg => k_is)
    (case hd => k_is)
    (case po => k_is)
    (case sa => k_is)
    (case mk => k_is)
    (case kc => k_is)
    (case nT => k_is)
    (case nB => k_is)
    (case ne => k_is)
    (case sf => k_is)
    (case nf => k_is)
    (case ni => k_is)
    (case sub_is => k_is)
    (case sub_ob => k_is)
    (case sub_li => k_is)
    (case sub_tu => k_is)
    (case ca => k_is)
    (case cm => k_is)
    (case cn => k_is)
    (case ct => k_is)
    (case tyC => k_is)
    (case s_NoneType => k_is)
    (case s_bool => k_is)
    (case s_str => k_is)
    (case s_tuple => k_is)
    (case s_list => k_is)
    (case s_int => k_is)
    (case s_dict => k_is)
    (case lm => k_is)
    (case la => k_is)
    (case ls => k_is)
    (case z_gcd => k_is)
    (case z_ms => k_is)
    (case z_isinstance => k_is)
    (case z_int => k_is)
    (case z_bool => k_is)
    (case z_list => k_is)
    (case z_tuple => k_is)
    (case z_abs => k_is)
    (case z_len => k_is)
    (case z_max => k_is)
    (case z_divmod => k_is)
    (case z_str => k_is)
    (case z_repr => k_is)
    (case z_range => k_is)
    (case z_all => k_is)
    (case z_zip => k_is)
    (case z_enumerate => k_is)

