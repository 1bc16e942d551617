import PyProof.Rows.All
import Wide.All
import OpenK.AllK
import Wide.FinOn
import HandS.ForMost
import HandS.Property
import HandS.Defaults
import HandS.IsInst
import HandS.Wide
import HandS.WideBits
import HandS.ClsMeth
import HandS.MakeKw
import HandS.MakeKwOnly
import HandS.FStr
import HandS.RaiseMore
import HandS.Gcd
import KE.KFmtOwn
import PyProof.ReprNest
import PyProof.ReprRoads
import HandS.Zip
import HandS.List
import PyProof.StrOps2
import HandS.Dict
import HandS.Walk
import HandS.Conv
import HandS.TupLen
import HandS.TupSets
import HandS.DictComp
import KE.KDictPairs
import HandS.DictTup
import HandS.OwnEq
import HandS.DictEq
import KE.GoesZip
import HandS.Text
import HandS.Codes
import HandS.StrMore
import KE.KMathGC
import KE.GoesEnum
import PyProof.CollectStr
import PyProof.ListStr
import HandS.More
import HandS.TupAny
import HandS.Ends
import KE.IntBitsLaws
import PySem.Challenge.RW_onecrest_k21_whole_pieces_and_halves
import KE.SortKeyHeap
import HandS.SortKw
import PyProof.TupleOfSeq
import HandS.Deep
import KE.KDictDisplayH
import KE.GoesMore
import PyProof.ReprLen
import HandS.SortInts
import KE.KDictCopyH
import KE.KDictOf
import HandS.TupMul
import HandS.SetFor
import HandS.Strs
set_option Elab.async false
set_option linter.all false
set_option maxRecDepth 100000
set_option maxHeartbeats 2000000
/-! DL: a layer of data over the heap: what an expression, a statement, a def does, told of data alone (immutable data, lists owned by one name, pots) -/
namespace DL
open PySem L2

/-! ### data -/
inductive D where
  | non | bl (b : Bool) | int (i : Int) | str (s : Str) | ty (n : String) | cls (a : Addr)
  | tup (l : List D) | lst (l : List D) | frl (l : List Int)
  | obj (C : Addr) (fs : List (Str × D))
  | dct
  | dcT (kvs : List (List Key × D)) | dcK (kvs : List (Key × D))

mutual
/-- v is the datum d, in the heap I of what never changes -/
inductive Dn (K : PySem.W.Frag) (I : Hp) : D → V → Prop
  | non : Dn K I .non .non
  | bl (b) : Dn K I (.bl b) (.bl b)
  | int (i) : Dn K I (.int i) (.int i)
  | str (s) : Dn K I (.str s) (.str s)
  | ty (n) : Dn K I (.ty n) (.ty n)
  | cls (a) : Dn K I (.cls a) (.ref a)
  | tup {l a xs} : I a = some (.tup xs) → Dns K I l xs → Dn K I (.tup l) (.ref a)
  | lst {l a xs} : I a = some (.lst xs) → Dns K I l xs → Dn K I (.lst l) (.ref a)
  | frl {l : List Int} {a} : SqL K I a (l.map V.int) → Dn K I (.frl l) (.ref a)
  | obj {C fs a dx vs} : I a = some (.ins C dx vs) → Dnf K I fs vs → Dn K I (.obj C fs) (.ref a)
  | dct {a kvs} : I a = some (.dK kvs) → Dn K I .dct (.ref a)
  | dcT {kvs a o ws} : I a = some (.frz o (.dT ws)) → Dnt K I kvs ws → Dn K I (.dcT kvs) (.ref a)
  | dcK {kvs a ws} : I a = some (.dK ws) → Dnk K I kvs ws → Dn K I (.dcK kvs) (.ref a)
inductive Dns (K : PySem.W.Frag) (I : Hp) : List D → List V → Prop
  | nil : Dns K I [] []
  | cons {d v l xs} : Dn K I d v → Dns K I l xs → Dns K I (d :: l) (v :: xs)
inductive Dnf (K : PySem.W.Frag) (I : Hp) : List (Str × D) → List (Str × V) → Prop
  | nil : Dnf K I [] []
  | cons {f d v l xs} : Dn K I d v → Dnf K I l xs → Dnf K I ((f, d) :: l) ((f, v) :: xs)
inductive Dnt (K : PySem.W.Frag) (I : Hp) : List (List Key × D) → List (List Key × V) → Prop
  | nil : Dnt K I [] []
  | cons {f d v l xs} : Dn K I d v → Dnt K I l xs → Dnt K I ((f, d) :: l) ((f, v) :: xs)
inductive Dnk (K : PySem.W.Frag) (I : Hp) : List (Key × D) → List (Key × V) → Prop
  | nil : Dnk K I [] []
  | cons {f d v l xs} : Dn K I d v → Dnk K I l xs → Dnk K I ((f, d) :: l) ((f, v) :: xs)
end
def Ex (H H' : Hp) : Prop := ∀ a o, H a = some o → H' a = some o
theorem Ex.refl (H : Hp) : Ex H H := fun _ _ h => h
theorem Ex.trans {H H1 H2 : Hp} (a : Ex H H1) (b : Ex H1 H2) : Ex H H2 := fun x o h => b x o (a x o h)
theorem Ex.new {H : Hp} {p : Addr} {o : HO} (h : H p = none) : Ex H (upd H p o) := fun a u e => by
  rw [upd_ne (ne_of_none e h)]
  exact e
theorem Ex.free {H H' : Hp} (e : Ex H H') {p : Addr} (h : H' p = none) : H p = none := by
  cases h1 : H p with
  | none => rfl
  | some o =>
    rw [e p o h1] at h
    cases h
theorem Ex.l {K : PySem.W.Frag} {H H' : Hp} {a : Addr} {xs : List V} (e : Ex H H') (h : SqL K H a xs) : SqL K H' a xs := by
  rcases h with (h | ⟨o, h⟩) | h
  · exact .inl (.inl (e _ _ h))
  · exact .inl (.inr ⟨o, e _ _ h⟩)
  · exact .inr h
section
variable {K : PySem.W.Frag} {I I' : Hp}
mutual
theorem Dn.mono (e : Ex I I') : ∀ {d : D} {v : V}, Dn K I d v → Dn K I' d v
  | _, _, .non => .non
  | _, _, .bl b => .bl b
  | _, _, .int i => .int i
  | _, _, .str s => .str s
  | _, _, .ty n => .ty n
  | _, _, .cls a => .cls a
  | _, _, .tup h r => .tup (e _ _ h) (Dns.mono e r)
  | _, _, .lst h r => .lst (e _ _ h) (Dns.mono e r)
  | _, _, .frl h => .frl (e.l h)
  | _, _, .obj h r => .obj (e _ _ h) (Dnf.mono e r)
  | _, _, .dct h => .dct (e _ _ h)
  | _, _, .dcT h r => .dcT (e _ _ h) (Dnt.mono e r)
  | _, _, .dcK h r => .dcK (e _ _ h) (Dnk.mono e r)
theorem Dns.mono (e : Ex I I') : ∀ {l : List D} {xs : List V}, Dns K I l xs → Dns K I' l xs
  | _, _, .nil => .nil
  | _, _, .cons h r => .cons (Dn.mono e h) (Dns.mono e r)
theorem Dnf.mono (e : Ex I I') : ∀ {l : List (Str × D)} {xs : List (Str × V)}, Dnf K I l xs → Dnf K I' l xs
  | _, _, .nil => .nil
  | _, _, .cons h r => .cons (Dn.mono e h) (Dnf.mono e r)
theorem Dnt.mono (e : Ex I I') : ∀ {l : List (List Key × D)} {xs : List (List Key × V)}, Dnt K I l xs → Dnt K I' l xs
  | _, _, .nil => .nil
  | _, _, .cons h r => .cons (Dn.mono e h) (Dnt.mono e r)
theorem Dnk.mono (e : Ex I I') : ∀ {l : List (Key × D)} {xs : List (Key × V)}, Dnk K I l xs → Dnk K I' l xs
  | _, _, .nil => .nil
  | _, _, .cons h r => .cons (Dn.mono e h) (Dnk.mono e r)
end
theorem Dns.length : ∀ {l : List D} {xs : List V}, Dns K I l xs → l.length = xs.length
  | _, _, .nil => rfl
  | _, _, .cons _ r => congrArg (· + 1) (Dns.length r)
theorem Dns.append : ∀ {l m : List D} {xs ys : List V}, Dns K I l xs → Dns K I m ys → Dns K I (l ++ m) (xs ++ ys)
  | _, _, _, _, .nil, s => s
  | _, _, _, _, .cons h r, s => .cons h (Dns.append r s)
theorem Dns.get : ∀ {l : List D} {xs : List V} {i : Nat} {v : V}, Dns K I l xs → xs[i]? = some v → ∃ d, l[i]? = some d ∧ Dn K I d v
  | _, _, _, _, .nil, e => by simp at e
  | _, _, 0, _, .cons h _, e => by
    simp at e
    subst e
    exact ⟨_, rfl, h⟩
  | _, _, i + 1, _, .cons _ r, e => by
    obtain ⟨d, h1, h2⟩ := Dns.get (i := i) r (by simpa using e)
    exact ⟨d, by simpa using h1, h2⟩
theorem Dns.get' : ∀ {l : List D} {xs : List V} {i : Nat} {d : D}, Dns K I l xs → l[i]? = some d → ∃ v, xs[i]? = some v ∧ Dn K I d v
  | _, _, _, _, .nil, e => by simp at e
  | _, _, 0, _, .cons h _, e => by
    simp at e
    subst e
    exact ⟨_, rfl, h⟩
  | _, _, i + 1, _, .cons _ r, e => by
    obtain ⟨d, h1, h2⟩ := Dns.get' (i := i) r (by simpa using e)
    exact ⟨d, by simpa using h1, h2⟩
theorem Dns.rep {l : List D} {xs : List V} (h : Dns K I l xs) : ∀ n : Nat, Dns K I (List.replicate n l).flatten (List.replicate n xs).flatten
  | 0 => .nil
  | n + 1 => by
    rw [List.replicate_succ, List.replicate_succ, List.flatten_cons, List.flatten_cons]
    exact h.append (Dns.rep h n)
theorem Dnf.look : ∀ {fs : List (Str × D)} {vs : List (Str × V)} {f : Str} {d : D}, Dnf K I fs vs → fs.lookup f = some d → ∃ v, vs.lookup f = some v ∧ Dn K I d v
  | _, _, _, _, .nil, e => by simp at e
  | _, _, f, d, .cons (f := g) h r, e => by
    by_cases q : f = g
    · subst q
      simp only [List.lookup_cons, beq_self_eq_true] at e ⊢
      cases e
      exact ⟨_, rfl, h⟩
    · have z : (f == g) = false := beq_eq_false_iff_ne.mpr q
      simp only [List.lookup_cons, z] at e ⊢
      exact Dnf.look r e
theorem Dnf.nolook : ∀ {fs : List (Str × D)} {vs : List (Str × V)} {f : Str}, Dnf K I fs vs → fs.lookup f = none → vs.lookup f = none
  | _, _, _, .nil, _ => rfl
  | _, _, f, .cons (f := g) h r, e => by
    by_cases q : f = g
    · subst q
      simp only [List.lookup_cons, beq_self_eq_true] at e
      cases e
    · have z : (f == g) = false := beq_eq_false_iff_ne.mpr q
      simp only [List.lookup_cons, z] at e ⊢
      exact Dnf.nolook r e
end

/-! ### worlds -/
/-- what never changes; which addresses are pots -/
structure Wd where
  I : Hp
  P : Addr → Prop
def PotAt (H : Hp) (a : Addr) : Prop := ∃ x y : Int, H a = some (.lst [.int x, .int y]) ∧ 0 ≤ y ∧ y < 2 ^ 31
def InG (g : List Code) (b : Addr) : Prop := ∃ id rest kw, Code.builtin id ⟨.ref b :: rest, kw⟩ ∈ g
theorem clear_of {g : List Code} {b : Addr} (h : ¬ InG g b) : Clear g b := fun id v rest kw hm e => h ⟨id, rest, kw, e ▸ hm⟩
/-- the guards that stand around: what is being written as a text -/
def gOf (X : Cx) : List Code := X.A.guards.getD []
structure Ok (g : List Code) (W : Wd) (H : Hp) : Prop where
  gd : ∀ b, InG g b → W.I b = none ∧ H b ≠ none ∧ ∀ ks : List Key, H b ≠ some (.tup (ks.map kV))
  ex : Ex W.I H
  pot : ∀ a, W.P a → W.I a = none ∧ PotAt H a
structure Stp (W : Wd) (H : Hp) (W' : Wd) (H' : Hp) : Prop where
  I : Ex W.I W'.I
  P : ∀ a, W.P a → W'.P a
  keep : ∀ b o, H b = some o → ¬ W.P b → H' b = some o
  old : ∀ b o, H b = some o → (∀ xs, o ≠ .tup xs) → W.I b = none → W'.I b = none
  oldP : ∀ b o, H b = some o → W'.P b → W.P b
section
variable {g : List Code} {W W1 W2 : Wd} {H H1 H2 : Hp}
theorem Stp.refl : Stp W H W H := ⟨Ex.refl _, fun _ h => h, fun _ _ h _ => h, fun _ _ _ _ h => h, fun _ _ _ h => h⟩
theorem Stp.some (a : Stp W H W1 H1) (ok : Ok g W1 H1) {b : Addr} {o : HO} (h : H b = .some o) : ∃ o', H1 b = .some o' := by
  by_cases q : W.P b
  · obtain ⟨x, y, e, _⟩ := (ok.pot b (a.P b q)).2
    exact ⟨_, e⟩
  · exact ⟨o, a.keep b o h q⟩
theorem Stp.trans (a : Stp W H W1 H1) (ok : Ok g W1 H1) (b : Stp W1 H1 W2 H2) : Stp W H W2 H2 where
  I := a.I.trans b.I
  P := fun x h => b.P x (a.P x h)
  keep := fun x o h n => b.keep x o (a.keep x o h n) fun z => n (a.oldP x o h z)
  old := fun x o h t n => by
    by_cases q : W.P x
    · obtain ⟨y1, y2, e, _⟩ := (ok.pot x (a.P x q)).2
      exact b.old x _ e (fun _ z => by cases z) (a.old x o h t n)
    · exact b.old x o (a.keep x o h q) t (a.old x o h t n)
  oldP := fun x o h p => by
    obtain ⟨o', h'⟩ := a.some ok h
    exact a.oldP x o h (b.oldP x o' h' p)
theorem Stp.free (a : Stp W H W1 H1) (ok : Ok g W1 H1) {p : Addr} (h : H1 p = none) : H p = none := by
  cases e : H p with
  | none => rfl
  | some o =>
    obtain ⟨o', e'⟩ := a.some ok e
    rw [h] at e'
    cases e'
theorem Ok.free (ok : Ok g W H) {p : Addr} (h : H p = none) : W.I p = none := ok.ex.free h
theorem Ok.notP (ok : Ok g W H) {p : Addr} (h : H p = none) : ¬ W.P p := fun z => by
  obtain ⟨x, y, e, _⟩ := (ok.pot p z).2
  rw [h] at e
  cases e
/-- something new that never changes -/
abbrev Wd.new (W : Wd) (p : Addr) (o : HO) : Wd := ⟨upd W.I p o, W.P⟩
theorem Ok.new {p : Addr} {o : HO} (ok : Ok g W H) (h : H p = none) : Ok g (W.new p o) (upd H p o) where
  gd := fun b hb => by
    obtain ⟨n, m, m2⟩ := ok.gd b hb
    have ne : b ≠ p := fun z => m (z ▸ h)
    refine ⟨?_, by rw [upd_ne ne]; exact m, by rw [upd_ne ne]; exact m2⟩
    show upd W.I p o b = none
    rw [upd_ne ne]
    exact n
  ex := fun a u e => by
    have e' : upd W.I p o a = some u := e
    by_cases q : a = p
    · subst q
      rw [upd_same] at e' ⊢
      exact e'
    · rw [upd_ne q] at e' ⊢
      exact ok.ex a u e'
  pot := fun a pa => by
    have q : a ≠ p := fun z => ok.notP h (z ▸ pa)
    obtain ⟨n, x, y, e⟩ := ok.pot a pa
    refine ⟨?_, x, y, ?_⟩
    · show upd W.I p o a = none
      rw [upd_ne q]
      exact n
    · rw [upd_ne q]
      exact e
theorem Stp.new {p : Addr} {o : HO} (ok : Ok g W H) (h : H p = none) : Stp W H (W.new p o) (upd H p o) where
  I := Ex.new (ok.free h)
  P := fun _ z => z
  keep := fun b u e _ => Ex.new h b u e
  old := fun b u e _ n => by
    show upd W.I p o b = none
    rw [upd_ne (ne_of_none e h)]
    exact n
  oldP := fun _ _ _ z => z
/-- a new object that is not (yet) part of what never changes -/
theorem Ok.own {p : Addr} {o : HO} (ok : Ok g W H) (h : H p = none) : Ok g W (upd H p o) where
  gd := fun b hb => by
    obtain ⟨n, m, m2⟩ := ok.gd b hb
    have ne : b ≠ p := fun z => m (z ▸ h)
    exact ⟨n, by rw [upd_ne ne]; exact m, by rw [upd_ne ne]; exact m2⟩
  ex := ok.ex.trans (Ex.new h)
  pot := fun a pa => by
    obtain ⟨n, x, y, e⟩ := ok.pot a pa
    exact ⟨n, x, y, Ex.new h _ _ e.1, e.2⟩
theorem Stp.own {p : Addr} {o : HO} (h : H p = none) : Stp W H W (upd H p o) :=
  ⟨Ex.refl _, fun _ z => z, fun b u e _ => Ex.new h b u e, fun _ _ _ _ n => n, fun _ _ _ z => z⟩
end

/-! ### slots -/
inductive Sl where
  | val (d : D) | own (l : List D) | pot | inst (C p dx : Addr) (fs : List (Str × D))
  | ownT (kvs : List (List Key × D))
abbrev En := List (Option Sl)
/-- dicts owned by unlike names are unlike -/
def DistT (S : En) (σ : L2.St) : Prop := ∀ (i j : Nat) (l m : List (List Key × D)) (p : Addr), i ≠ j → S[i]? = some (some (Sl.ownT l)) → S[j]? = some (some (Sl.ownT m)) → σ[i]? = some (some (.ref p)) → σ[j]? ≠ some (some (.ref p))
theorem DistT.set {S : En} {σ : L2.St} (h : DistT S σ) (i : Nat) {x : Option Sl} {y : Option V} (hx : ∀ l, x ≠ some (Sl.ownT l)) : DistT (S.set i x) (σ.set i y) := fun a b l m p ne e1 e2 e3 => by
  have key : ∀ c l, (S.set i x)[c]? = some (some (Sl.ownT l)) → i ≠ c := fun c l e z => by
    subst z
    by_cases q : i < S.length
    · rw [List.getElem?_set_self q] at e
      exact hx l (Option.some.inj e)
    · rw [List.getElem?_eq_none (by simpa using q)] at e
      cases e
  have qa := key a l e1
  have qb := key b m e2
  rw [List.getElem?_set_ne qa] at e1 e3
  rw [List.getElem?_set_ne qb] at e2 ⊢
  exact h a b l m p ne e1 e2 e3
theorem DistT.setS {S : En} {σ : L2.St} (h : DistT S σ) (i : Nat) {x : Option Sl} (hx : ∀ l, x = some (Sl.ownT l) → ∃ m, S[i]? = some (some (Sl.ownT m))) : DistT (S.set i x) σ := fun a b l m p ne e1 e2 e3 => by
  have key : ∀ c l, (S.set i x)[c]? = some (some (Sl.ownT l)) → ∃ m, S[c]? = some (some (Sl.ownT m)) := fun c l e => by
    by_cases z : i = c
    · subst z
      by_cases q : i < S.length
      · rw [List.getElem?_set_self q] at e
        exact hx l (Option.some.inj e)
      · rw [List.getElem?_eq_none (by simpa using q)] at e
        cases e
    · rw [List.getElem?_set_ne z] at e
      exact ⟨l, e⟩
  obtain ⟨l', f1⟩ := key a l e1
  obtain ⟨m', f2⟩ := key b m e2
  exact h a b l' m' p ne f1 f2 e3
section
variable (K : PySem.W.Frag)
def SlOk (B : Hp) (W : Wd) (H : Hp) : Sl → V → Prop
  | .val d, v => Dn K W.I d v
  | .own l, v => ∃ p xs, v = .ref p ∧ B p = none ∧ ¬ W.P p ∧ W.I p = none ∧ H p = some (.lst xs) ∧ Dns K W.I l xs
  | .pot, v => ∃ p, v = .ref p ∧ W.P p
  | .ownT kvs, v => ∃ p ws, v = .ref p ∧ B p = none ∧ ¬ W.P p ∧ W.I p = none ∧ H p = some (.dT ws) ∧ Dnt K W.I kvs ws
  | .inst C p dx fs, v => ∃ vs, v = .ref p ∧ B p = none ∧ B dx = none ∧ dx ≠ p ∧ ¬ W.P p ∧ ¬ W.P dx ∧ W.I p = none ∧ W.I dx = none ∧ H p = some (.ins C dx vs) ∧ H dx = some (.own p) ∧ Dnf K W.I fs vs
structure Rep (g : List Code) (B : Hp) (S : En) (σ : L2.St) (W : Wd) (H : Hp) : Prop where
  ok : Ok g W H
  gb : ∀ b, InG g b → B b ≠ none
  len : S.length = σ.length
  sl : ∀ (i : Nat) (s : Sl), S[i]? = some (some s) → ∃ v, σ[i]? = some (some v) ∧ SlOk K B W H s v
  dist : ∀ (i j : Nat) (l m : List D) (p : Addr), i ≠ j → S[i]? = some (some (.own l)) → S[j]? = some (some (.own m)) → σ[i]? = some (some (.ref p)) → σ[j]? ≠ some (some (.ref p))
  distT : DistT S σ
end
section
variable {K : PySem.W.Frag} {g : List Code} {B : Hp} {S : En} {σ : L2.St} {W W1 : Wd} {H H1 : Hp}
theorem SlOk.step {s : Sl} {v : V} (h : SlOk K B W H s v) (a : Stp W H W1 H1) : SlOk K B W1 H1 s v := by
  cases s with
  | val d => exact Dn.mono a.I h
  | own l =>
    obtain ⟨p, xs, e, b, n, i, hp, r⟩ := h
    exact ⟨p, xs, e, b, fun z => n (a.oldP p _ hp z), a.old p _ hp (fun _ z => by cases z) i, a.keep p _ hp n, r.mono a.I⟩
  | ownT l =>
    obtain ⟨p, xs, e, b, n, i, hp, r⟩ := h
    exact ⟨p, xs, e, b, fun z => n (a.oldP p _ hp z), a.old p _ hp (fun _ z => by cases z) i, a.keep p _ hp n, r.mono a.I⟩
  | pot =>
    obtain ⟨p, e, z⟩ := h
    exact ⟨p, e, a.P p z⟩
  | inst C p dx fs =>
    obtain ⟨vs, e, b, b2, ne, n, n2, i, i2, hp, hd, r⟩ := h
    exact ⟨vs, e, b, b2, ne, fun z => n (a.oldP p _ hp z), fun z => n2 (a.oldP dx _ hd z), a.old p _ hp (fun _ z => by cases z) i, a.old dx _ hd (fun _ z => by cases z) i2, a.keep p _ hp n, a.keep dx _ hd n2, r.mono a.I⟩
theorem Rep.step (r : Rep K g B S σ W H) (a : Stp W H W1 H1) (ok : Ok g W1 H1) : Rep K g B S σ W1 H1 :=
  ⟨ok, r.gb, r.len, fun i s e => let ⟨v, h1, h2⟩ := r.sl i s e; ⟨v, h1, h2.step a⟩, r.dist, r.distT⟩
theorem Rep.set {i : Nat} {d : D} {v : V} (r : Rep K g B S σ W H) (h : Dn K W.I d v) : Rep K g B (S.set i (some (.val d))) (σ.set i (some v)) W H where
  ok := r.ok
  gb := r.gb
  len := by simpa using r.len
  sl := fun j s e => by
    by_cases q : i = j
    · subst q
      by_cases z : i < S.length
      · rw [List.getElem?_set_self z] at e
        cases e
        exact ⟨v, List.getElem?_set_self (r.len ▸ z), h⟩
      · rw [List.getElem?_eq_none (by simpa using z)] at e
        cases e
    · rw [List.getElem?_set_ne q] at e ⊢
      exact r.sl j s e
  dist := fun a b l m p n e1 e2 e3 => by
    have qa : i ≠ a := fun z => by
      subst z
      by_cases y : i < S.length
      · rw [List.getElem?_set_self y] at e1; cases e1
      · rw [List.getElem?_eq_none (by simpa using y)] at e1; cases e1
    have qb : i ≠ b := fun z => by
      subst z
      by_cases y : i < S.length
      · rw [List.getElem?_set_self y] at e2; cases e2
      · rw [List.getElem?_eq_none (by simpa using y)] at e2; cases e2
    rw [List.getElem?_set_ne qa] at e1 e3
    rw [List.getElem?_set_ne qb] at e2 ⊢
    exact r.dist a b l m p n e1 e2 e3
  distT := r.distT.set i fun l z => by cases z
end

/-! ### the weakest readings -/
section
variable (X : Cx)
def WE (e : Expr) : TE := fun σ H Q => ∀ pins s, Inv X pins σ H s → wpAny (model X.prog X.w) X.A (eval e X.env) (EP X pins σ Q) X.xe s
def WT (e : Expr) : TT := fun σ H Q => ∀ pins s, Inv X pins σ H s → wpAny (model X.prog X.w) X.A (isTrue e X.env (eval e X.env)) (TP X pins σ Q) X.xe s
def WW (e : Expr) : TT := fun σ H Q => ∀ whole pins s, Inv X pins σ H s → wpAny (model X.prog X.w) X.A (isTrue e X.env whole) (TP X pins σ Q) X.xe s
def WA (es : List Expr) : TA := fun σ H Q => ∀ pos pins s, Inv X pins σ H s → wpAny (model X.prog X.w) X.A (spliced (backTo pos (starEach es X.env))) (AP X pins σ Q) X.xe s
def WS (st : Stmt) : TS := fun Dd σ H => ∀ pins s, Inv X pins σ H s → wpAny (model X.prog X.w) X.A (exec st X.env) (SP X pins Dd) X.xe s
def WSs (sts : List Stmt) : TS := fun Dd σ H => ∀ pins s, Inv X pins σ H s → wpAny (model X.prog X.w) X.A (execs sts X.env) (SP X pins Dd) X.xe s
def WO (f : Value → Value → Sem Value) : R2 := fun x y H Q => ∀ pins s σ v u, Inv X pins σ H s → RelV x v → RelV y u → wpAny (model X.prog X.w) X.A (f v u) (EP X pins σ Q) X.xe s
end
section
variable {X : Cx} {e : Expr} {es : List Expr} {st : Stmt} {sts : List Stmt}
theorem we_pe : PE X e (WE X e) := ⟨fun pins s _ _ _ I h => h pins s I⟩
theorem wt_pt : PT X e (WT X e) := ⟨fun pins s _ _ _ I h => h pins s I⟩
theorem ww_pw : PW X e (WW X e) := ⟨fun wh pins s _ _ _ I h => h wh pins s I⟩
theorem wa_pa : PA X es (WA X es) := ⟨fun pos pins s _ _ _ I h => h pos pins s I⟩
theorem ws_ps : PS X st (WS X st) := ⟨fun pins s _ _ _ I h => h pins s I⟩
theorem wss_pss : PSs X sts (WSs X sts) := ⟨fun pins s _ _ _ I h => h pins s I⟩
theorem wo_op {f : Value → Value → Sem Value} : OpR X f (WO X f) := fun pins s σ _ _ _ v u _ I r1 r2 h => h pins s σ v u I r1 r2
theorem PE.w {t : TE} (h : PE X e t) {σ : L2.St} {H : Hp} {Q : VK} (q : t σ H Q) : WE X e σ H Q := fun pins s I => h.run pins s σ H Q I q
theorem PT.w {t : TT} (h : PT X e t) {σ : L2.St} {H : Hp} {Q : Bool → Hp → Prop} (q : t σ H Q) : WT X e σ H Q := fun pins s I => h.run pins s σ H Q I q
theorem PW.w {t : TT} (h : PW X e t) {σ : L2.St} {H : Hp} {Q : Bool → Hp → Prop} (q : t σ H Q) : WW X e σ H Q := fun wh pins s I => h.run wh pins s σ H Q I q
theorem PA.w {t : TA} (h : PA X es t) {σ : L2.St} {H : Hp} {Q : List V → Hp → Prop} (q : t σ H Q) : WA X es σ H Q := fun pos pins s I => h.run pos pins s σ H Q I q
theorem PS.w {t : TS} (h : PS X st t) {σ : L2.St} {H : Hp} {Dd : Ends} (q : t Dd σ H) : WS X st Dd σ H := fun pins s I => h.run pins s σ H Dd I q
theorem PSs.w {t : TS} (h : PSs X sts t) {σ : L2.St} {H : Hp} {Dd : Ends} (q : t Dd σ H) : WSs X sts Dd σ H := fun pins s I => h.run pins s σ H Dd I q
theorem OpR.w {f : Value → Value → Sem Value} {r : R2} (h : OpR X f r) {x y : V} {H : Hp} {Q : VK} (q : r x y H Q) : WO X f x y H Q := fun pins s σ v u I r1 r2 => h pins s σ H x y v u Q I r1 r2 q
end

/-! ### judgements on data -/
/-- what follows: from any later world, a value that is a datum wanted -/
def Cont (K : PySem.W.Frag) (g : List Code) (W : Wd) (H : Hp) (Q : D → Prop) (R : VK) : Prop := ∀ d v W' H', Stp W H W' H' → Ok g W' H' → Dn K W'.I d v → Q d → R v H'
def ContB (g : List Code) (W : Wd) (H : Hp) (Q : Bool → Prop) (R : Bool → Hp → Prop) : Prop := ∀ b W' H', Stp W H W' H' → Ok g W' H' → Q b → R b H'
/-- arguments: data, or pots -/
def Arg (K : PySem.W.Frag) (W : Wd) : Sl → V → Prop
  | .val d, v => Dn K W.I d v
  | .pot, v => ∃ p, v = .ref p ∧ W.P p
  | .own _, _ => False
  | .ownT _, _ => False
  | .inst _ _ _ _, _ => False
abbrev Args (K : PySem.W.Frag) (W : Wd) (as : List Sl) (vs : List V) : Prop := Paired (Arg K W) as vs
def ContA (K : PySem.W.Frag) (g : List Code) (W : Wd) (H : Hp) (Q : List Sl → Prop) (R : List V → Hp → Prop) : Prop := ∀ as vs W' H', Stp W H W' H' → Ok g W' H' → Args K W' as vs → Q as → R vs H'
section
variable (X : Cx) (B : Hp) (S : En)
def ED (e : Expr) (Q : D → Prop) : Prop := ∀ σ W H, Rep X.K (gOf X) B S σ W H → ∀ R, Cont X.K (gOf X) W H Q R → WE X e σ H R
def TD (e : Expr) (Q : Bool → Prop) : Prop := ∀ σ W H, Rep X.K (gOf X) B S σ W H → ∀ R, ContB (gOf X) W H Q R → WT X e σ H R
def TW (e : Expr) (Q : Bool → Prop) : Prop := ∀ σ W H, Rep X.K (gOf X) B S σ W H → ∀ R, ContB (gOf X) W H Q R → WW X e σ H R
def AD (es : List Expr) (Q : List Sl → Prop) : Prop := ∀ σ W H, Rep X.K (gOf X) B S σ W H → ∀ R, ContA X.K (gOf X) W H Q R → WA X es σ H R
def OD (f : Value → Value → Sem Value) (x y : D) (Q : D → Prop) : Prop := ∀ v u W H, Ok (gOf X) W H → Dn X.K W.I x v → Dn X.K W.I y u → ∀ R, Cont X.K (gOf X) W H Q R → WO X f v u H R
end
section
variable {K : PySem.W.Frag} {g : List Code} {W W1 : Wd} {H H1 : Hp}
theorem Cont.step {Q : D → Prop} {R : VK} (c : Cont K g W H Q R) (a : Stp W H W1 H1) (ok : Ok g W1 H1) : Cont K g W1 H1 Q R := fun d v W' H' b ok' h q => c d v W' H' (a.trans ok b) ok' h q
theorem Cont.now {Q : D → Prop} {R : VK} (c : Cont K g W H Q R) (ok : Ok g W H) {d : D} {v : V} (h : Dn K W.I d v) (q : Q d) : R v H := c d v W H Stp.refl ok h q
theorem ContB.step {Q : Bool → Prop} {R : Bool → Hp → Prop} (c : ContB g W H Q R) (a : Stp W H W1 H1) (ok : Ok g W1 H1) : ContB g W1 H1 Q R := fun b W' H' s ok' q => c b W' H' (a.trans ok s) ok' q
theorem ContB.now {Q : Bool → Prop} {R : Bool → Hp → Prop} (c : ContB g W H Q R) (ok : Ok g W H) {b : Bool} (q : Q b) : R b H := c b W H Stp.refl ok q
theorem Args.step {as : List Sl} {vs : List V} (h : Args K W as vs) (a : Stp W H W1 H1) : Args K W1 as vs := by
  refine Paired.mapP h fun x v h1 => ?_
  · cases x with
    | val d => exact Dn.mono a.I h1
    | own l => exact h1
    | pot => obtain ⟨p, e, q⟩ := h1; exact ⟨p, e, a.P p q⟩
    | inst _ _ _ _ => exact h1
    | ownT _ => exact h1
end

/-! ### expressions -/
section
variable {X : Cx} {B : Hp} {S : En} {pos : Pos} {Q : D → Prop} {a b : Expr}
theorem ed_name {x : Str} {d : D} (i : Nat) (hN : X.N[i]? = some x) (h : S[i]? = some (some (.val d))) (q : Q d) (hv : Vis X.env.scope x := by first | exact Or.inl rfl | exact Or.inr (Or.inl rfl) | exact Or.inr (Or.inr rfl))
    (hd : (x == ("__debug__" : Str)) = false := by decide) (hcd : (x == ("__classdict__" : Str)) = false := by decide) : ED X B S (.Name x pos) Q := fun σ W H r R c => by
  obtain ⟨v, e, z⟩ := r.sl i _ h
  exact PE.w (pe_var hN hv hd hcd) ⟨v, e, c.now r.ok z q⟩
theorem ed_int {i j} (q : Q (.int i)) : ED X B S (.Constant (.int i) j pos) Q := fun σ W H r R c => PE.w pe_int (c.now r.ok (.int i) q)
theorem ed_non {j} (q : Q .non) : ED X B S (.Constant .none j pos) Q := fun σ W H r R c => PE.w pe_non (c.now r.ok .non q)
theorem ed_str {x j} (q : Q (.str x)) : ED X B S (.Constant (.str x) j pos) Q := fun σ W H r R c => PE.w pe_str (c.now r.ok (.str x) q)
theorem ed_two {f : Value → Value → Sem Value} (h : ED X B S a fun x => ED X B S b fun y => OD X f x y Q) {σ : L2.St} {W : Wd} {H : Hp} (r : Rep X.K (gOf X) B S σ W H) {R : VK} (c : Cont X.K (gOf X) W H Q R) :
    WE X a σ H fun x H1 => WE X b σ H1 fun y H2 => WO X f x y H2 R := by
  refine h σ W H r _ fun d v W1 H1 s1 ok1 n1 q1 => ?_
  refine q1 σ W1 H1 (r.step s1 ok1) _ fun d2 u W2 H2 s2 ok2 n2 q2 => ?_
  exact q2 v u W2 H2 ok2 (n1.mono s2.I) n2 R ((c.step s1 ok1).step s2 ok2)
theorem ed_bin {op : Operator} (h : ED X B S a fun x => ED X B S b fun y => OD X (binaryOp op) x y Q) : ED X B S (.BinOp a op b pos) Q := fun σ W H r R c =>
  PE.w (pe_op wo_op we_pe we_pe) (ed_two h r c)
theorem ed_cmp {op : CmpOp} (h : ED X B S a fun x => ED X B S b fun y => OD X (compareOp op) x y Q) (hm : behindInMarks op b = false := by first | exact nomark _ | rfl) : ED X B S (.Compare a [op] [b] pos) Q := fun σ W H r R c =>
  PE.w (pe_cmpR wo_op we_pe we_pe hm) (ed_two h r c)
theorem od_of {f : Value → Value → Sem Value} {r : R2} (ho : OpR X f r) {x y : D} (h : ∀ v u W H, Ok (gOf X) W H → Dn X.K W.I x v → Dn X.K W.I y u → ∀ R, Cont X.K (gOf X) W H Q R → r v u H R) : OD X f x y Q :=
  fun v u W H ok h1 h2 R c => OpR.w ho (h v u W H ok h1 h2 R c)
/-- operators on ints -/
theorem od_I0 {f : Value → Value → Sem Value} {g : Int → Int → V} {i j : Int} {d : D} (ho : OpR X f (rI0 g)) (hg : ∀ K I, Dn K I d (g i j)) (q : Q d) : OD X f (.int i) (.int j) Q := by
  refine od_of ho fun v u W H ok h1 h2 R c => ?_
  cases h1; cases h2
  exact ⟨i, j, rfl, rfl, c.now ok (hg _ _) q⟩
theorem od_I {f : Value → Value → Sem Value} {C : Int → Int → Prop} {g : Int → Int → V} {i j : Int} {d : D} (ho : OpR X f (rI C g)) (hc : C i j) (hg : ∀ K I, Dn K I d (g i j)) (q : Q d) : OD X f (.int i) (.int j) Q := by
  refine od_of ho fun v u W H ok h1 h2 R c => ?_
  cases h1; cases h2
  exact ⟨i, j, rfl, rfl, hc, c.now ok (hg _ _) q⟩
theorem od_add {i j : Int} (q : Q (.int (i + j))) : OD X (binaryOp .Add) (.int i) (.int j) Q := od_I0 op_add (fun _ _ => .int _) q
theorem od_sub {i j : Int} (q : Q (.int (i - j))) : OD X (binaryOp .Sub) (.int i) (.int j) Q := od_I0 op_sub (fun _ _ => .int _) q
theorem od_lt {i j : Int} (q : Q (.bl (decide (i < j)))) : OD X (compareOp .Lt) (.int i) (.int j) Q := od_I0 op_lt (fun _ _ => .bl _) q
theorem od_le {i j : Int} (q : Q (.bl (decide (i ≤ j)))) : OD X (compareOp .LtE) (.int i) (.int j) Q := od_I0 op_le (fun _ _ => .bl _) q
theorem od_gt {i j : Int} (q : Q (.bl (decide (j < i)))) : OD X (compareOp .Gt) (.int i) (.int j) Q := od_I0 op_gt (fun _ _ => .bl _) q
theorem od_ge {i j : Int} (q : Q (.bl (decide (j ≤ i)))) : OD X (compareOp .GtE) (.int i) (.int j) Q := od_I0 op_ge (fun _ _ => .bl _) q
end
end DL

set_option Elab.async false
set_option linter.all false
set_option maxRecDepth 100000
set_option maxHeartbeats 2000000
/-! what a def promises where it is known what is being written as a text around it (the guards) -/
namespace DL
open PySem PySem.Spec PyProof.Rows L2
abbrev SpG := List Code → List V → Hp → VK → Prop
structure GnOk (P : Program) (w : World) (K : PySem.W.Frag) (mg : Str → Option Value) (base : Heap) (k : Nat) (f : Addr) (fd : FuncData) (ps : List Str) (sp : SpG) : Prop where
  len : ∀ g vs H Q, sp g vs H Q → vs.length = ps.length
  run : ∀ (A : Around) (g : List Code) (outer : List Env) (s : Shared) (H : Hp) (args : PySem.Args) (us : List Value) (vs : List V) (Q : VK), Room k A → A.guards = some g → Env0 P w K mg base A outer s H → BindsTo s fd args (ps.zip us) → Vals vs us → sp g vs H Q →
    codeAny (model P w) A (.call (.ref f) args) (CR CX0 outer P w H s Q E0) s
/-- a def of the text, its defaults whatever they are -/
structure FunS (K : PySem.W.Frag) (x qual : Str) (st : Stmt) (f : Addr) (fd : FuncData) : Prop where
  ex : ∃ (oc : Value) (od : Option Addr) (dV kV doc pm : Value) (an : Option Addr) (cdv ct : Value) (osl : Array (Option Value)),
    fd = PySem.W.fnOf x qual (defArgs st) (defBody st) (defScope st) dV kV doc pm an cdv ct ∧ K.lookup f = some ⟨oc, od, .func fd, osl⟩ ∧ PySem.W.codeIn K cdv qual = true
  kp : PySem.W.keepIn K (.ref f) = true
theorem fun_s {K : PySem.W.Frag} {x qual : Str} {st : Stmt} {f : Addr} {fd : FuncData} (F : Fun K x qual st f fd) : FunS K x qual st f fd :=
  ⟨let ⟨oc, od, kV, doc, pm, an, cdv, ct, osl, a, b, c⟩ := F.ex; ⟨oc, od, .none, kV, doc, pm, an, cdv, ct, osl, a, b, c⟩, F.kp⟩
theorem fund_s {K : PySem.W.Frag} {x qual : Str} {st : Stmt} {dvs : List V} {kws : List (Str × V)} {f : Addr} {fd : FuncData} (F : FunD K x qual (defArgs st) (defBody st) (defScope st) dvs kws f fd) : FunS K x qual st f fd :=
  ⟨let ⟨oc, od, dV, kV, doc, pm, an, cdv, ct, osl, a, b, c, _⟩ := F.ex; ⟨oc, od, dV, kV, doc, pm, an, cdv, ct, osl, a, b, c⟩, F.kp⟩
section
variable {P : Program} {w : World} {K : PySem.W.Frag} {mg : Str → Option Value} {base : Heap} {j k : Nat} {f : Addr} {fd : FuncData} {ps : List Str} {sp sp' : SpG}
abbrev Bx (P : Program) (w : World) (K : PySem.W.Frag) (mg : Str → Option Value) (base : Heap) (N : List Str) (qual : Str) (st : Stmt) (f : Addr) (cdv : Value) (A : Around) (outer : List Env) (s : Shared) (H : Hp) : Cx := (cxOf CX0 P w K mg base N qual (defScope st) f cdv A outer s H E0).nox
/-- a def by its body, the guards known -/
theorem gn_of {x qual : Str} {st : Stmt} {N : List Str} (F : FunS K x qual st f fd) (S : FnScope N ps (defScope st)) (len : ∀ g vs H Q, sp g vs H Q → vs.length = ps.length)
    (body : ∀ cdv A outer s H g vs Q, Room k (A.deeper (PyProof.Rows.envOfC qual (defScope st) s.heap.objs.size f cdv)) → A.guards = some g → sp g vs H Q →
      ∃ t, PSs (Bx P w K mg base N qual st f cdv A outer s H) (defBody st) t ∧ t { nx := fun _ H' => Q .non H', rt := Q } (L2.start N vs) H) : GnOk P w K mg base (k + 1) f fd ps sp := by
  obtain ⟨oc, od, dV, kV, doc, pm, an, cdv, ct, osl, rfl, lk, hcd⟩ := F.ex
  refine ⟨len, fun A g outer s H args us vs Q hr hg e0 hb r hsp => ?_⟩
  have old := fun b o (e : base.get? b = some o) => (e0.bs b o e).1
  have KX : K.In s.heap := e0.mod.kin.keeps old
  have par : ∀ y ∈ ps.zip us, (defScope st).names.lookup y.1 = some .local ∨ ((defScope st).names.lookup y.1 = some .cell ∧ ((cellsFrom (s.heap.objs.size + 1) (defScope st).names []).lookup y.1).isSome = true) := fun y hy =>
    (S.par y.1 (List.of_mem_zip (show (y.1, y.2) ∈ _ from hy)).1).imp id fun q => ⟨q, PySem.W.cellsFrom_some _ _ _ (.inl q)⟩
  refine codeAny_call_function hr.depth (KX _ _ lk) rfl S.co S.gen rfl (PySem.W.codeRec_of KX hcd) (hb _ _ _ _ ?_)
  refine wpAny_newFunctionEnv_cells S.kind par fun env he s1 x => ?_
  subst he
  refine ⟨(e0.mod.nolimit.keeps old).keeps x.toInCall.keep, codeAny_func ?_⟩
  obtain ⟨t, ht, hq⟩ := body cdv A outer s H g vs Q (hr.deeper _) hg hsp
  have I := inv_start (CX := CX0) (E := E0) S hr.hd e0 (len _ _ _ _ hsp) r x
  refine wpAny_mono (ht.nox.run [] s1 (L2.start N vs) H _ I hq) (fun fl s' hs => ?_) fun e s' hs => hs
  match fl, hs with
  | .ret u, ⟨v, σ', H', J, rv, q⟩ => exact ⟨v, H', J.os, J.bare, J.base, J.hok, rv, q⟩
  | .next, ⟨σ', H', J, q⟩ => exact ⟨V.non, H', J.os, J.bare, J.base, J.hok, rfl, q⟩
  | .brk, ⟨_, _, _, q⟩ => exact q.elim
  | .cont, ⟨_, _, _, q⟩ => exact q.elim
theorem deeper_guards {A : Around} {qual : Str} {sc : Scope} {n : Nat} {f : Addr} {cdv : Value} {g : List Code} (h : A.guards = some g) : (A.deeper (PyProof.Rows.envOfC qual sc n f cdv)).guards = some g := by
  first | exact h | (simpa [Around.deeper] using h)
end
section
variable {X : Cx} {k : Nat} {f C g0 : Addr} {fd : FuncData} {ps : List Str} {sp : SpG} {dvs : List V} {ds : List Value} {x m : Str} {p pos apos : Pos} {e o : Expr} {es : List Expr} {g : List Code}
theorem run_cr {pins : List (Addr × Obj)} {σ : L2.St} {H : Hp} {s : Shared} {Q : VK} {c : Code} {A : Around} (I : Inv X pins σ H s) (h : codeAny (model X.prog X.w) A c (CR CX0 X.stack X.prog X.w H s Q E0) s) :
    codeAny (model X.prog X.w) A c (fun r s' => match r with | .ok (.ret v) => EP X pins σ Q v s' | .ok _ => False | .error e => False) s := by
  refine codeAny_mono h fun r s' hq => ?_
  match r, hq with
  | .error e, hq => exact hq
  | .ok (.ret u), hq => exact I.after hq
/-- the callee runs -/
theorem run_gn {A : Around} {pins : List (Addr × Obj)} {σ : L2.St} {H : Hp} {s : Shared} {Q : VK} {us : List Value} {vs : List V} {R : PySem.Result → Shared → Prop} (F : GnOk X.prog X.w X.K X.mg X.base k f fd ps sp) (hr : Room k A) (hG : A.guards = some g) (e0 : Env0 X.prog X.w X.K X.mg X.base A X.stack s H)
    (hb : Binds X.K fd ps ds) (hd : Vals dvs ds) (I : Inv X pins σ H s) (r : Vals vs us) (h : sp g (vs ++ dvs) H Q) (k : ∀ v s', EP X pins σ Q v s' → R (.ok (.ret v)) s') : codeAny (model X.prog X.w) A (.call (.ref f) ⟨us, []⟩) R s := by
  have r2 : Vals (vs ++ dvs) (us ++ ds) := r.append hd
  have hl : (us ++ ds).length = ps.length := r2.length.symm.trans (F.len _ _ _ _ h)
  refine codeAny_mono (run_cr I (F.run A g X.stack s H ⟨us, []⟩ (us ++ ds) (vs ++ dvs) Q hr hG e0 (hb s us I.kIn hl) r2 h)) fun r s' hq => ?_
  match r, hq with
  | .error e, hq => exact hq.elim
  | .ok (.ret u), hq => exact k u s' hq
/-- .. its arguments bound in any way -/
theorem run_gb {A : Around} {pins : List (Addr × Obj)} {σ : L2.St} {H : Hp} {s : Shared} {Q : VK} {args : PySem.Args} {us : List Value} {vs : List V} {R : PySem.Result → Shared → Prop} (F : GnOk X.prog X.w X.K X.mg X.base k f fd ps sp) (hr : Room k A) (hG : A.guards = some g) (e0 : Env0 X.prog X.w X.K X.mg X.base A X.stack s H)
    (hb : BindsTo s fd args (ps.zip us)) (I : Inv X pins σ H s) (r : Vals vs us) (h : sp g vs H Q) (k : ∀ v s', EP X pins σ Q v s' → R (.ok (.ret v)) s') : codeAny (model X.prog X.w) A (.call (.ref f) args) R s := by
  refine codeAny_mono (run_cr I (F.run A g X.stack s H args us vs Q hr hG e0 hb r h)) fun r s' hq => ?_
  match r, hq with
  | .error e, hq => exact hq.elim
  | .ok (.ret u), hq => exact k u s' hq
theorem call_gn {pins : List (Addr × Obj)} {σ : L2.St} {H : Hp} {s : Shared} {Q : VK} {us : List Value} {vs : List V} {E : Value → Shared → Prop} (F : GnOk X.prog X.w X.K X.mg X.base k f fd ps sp) (hr : Room k X.A) (hG : X.A.guards = some g)
    (hb : Binds X.K fd ps ds) (hd : Vals dvs ds) (I : Inv X pins σ H s) (r : Vals vs us) (h : sp g (vs ++ dvs) H Q) : wpAny (model X.prog X.w) X.A (call (.ref f) us) (EP X pins σ Q) E s :=
  wpAny_call (run_gn F hr hG I.env0 hb hd I r h fun _ _ q => q)
/-- f(e, ..) -/
theorem we_call {σ : L2.St} {H : Hp} {Q : VK} (F : GnOk X.prog X.w X.K X.mg X.base k f fd ps sp) (hr : Room k X.A) (hG : X.A.guards = some g) (hg : Gl X x) (hm : X.mg x = some (.ref f)) (hk : PySem.W.keepIn X.K (.ref f) = true) (hb : Binds X.K fd ps ds) (hd : Vals dvs ds)
    (h : WA X (e :: es) σ H fun vs H1 => sp g (vs ++ dvs) H1 Q) (hdb : (x == ("__debug__" : Str)) = false) (he : starEach (e :: es) X.env = (false, eval e X.env) :: starEach es X.env) (hpl : (backTo pos (starEach es X.env)).any (·.1) = false) : WE X (.Call (.Name x p) (e :: es) [] pos) σ H Q := fun pins s I =>
  wpAny_Call_Name_kw (ld_glob I hg hm (PySem.W.callWith_K (h₀ := X.base) I.ok.mod.kin hk (thn (h pos pins s I) fun us s1 ⟨vs, H1, I1, r, q⟩ => ⟨I1.kIn, call_gn F hr hG hb hd I1 r q⟩) he hpl) hdb)
/-- o.m(e, ..) -/
theorem we_meth {σ : L2.St} {H : Hp} {Q : VK} {pl : Sem Bool} (c : Cls X.K C) (hm : Meth X.K C m f) (F : GnOk X.prog X.w X.K X.mg X.base k f fd ps sp) (hr : Room k X.A) (hG : X.A.guards = some g) (hb : Binds X.K fd ps ds) (hd : Vals dvs ds)
    (h : WE X o σ H fun x H1 => ∃ a dx fs, x = .ref a ∧ H1 a = some (.ins C dx fs) ∧ fs.lookup m = none ∧ WA X (e :: es) σ H1 fun vs H2 => sp g (x :: (vs ++ dvs)) H2 Q)
    (hst : starEach (e :: es) X.env = (false, eval e X.env) :: starEach es X.env) (hpl : (backTo pos (starEach es X.env)).any (·.1) = false)
    (ht : eval (.Call (.Attribute o m apos) (e :: es) [] pos) X.env = (do
      let ov ← eval o X.env
      standAt apos.atName
      let (f, first) ← holding [ov] (getMethod ov m pl)
      callWith pos f first (backTo pos (starEach (e :: es) X.env)) (backToKw pos (keywordEach [] X.env)))) : WE X (.Call (.Attribute o m apos) (e :: es) [] pos) σ H Q := fun pins s I => by
  refine PySem.W.methodCall_KW (pl := pl) (thn (h pins s I) fun u s1 ⟨x, H1, I1, rx, a, dx, fs, ex, ea, l, q⟩ => ?_) ht
  subst ex
  cases (show u = Value.ref a from rx)
  exact getmeth_ok I1 ea c hm l (PySem.W.callWith_K (first := [.ref a]) (h₀ := X.base) I.ok.mod.kin hm.kp (thn (q pos pins s1 I1) fun us s2 ⟨vs, H2, I2, r, q2⟩ => ⟨I2.kIn, call_gn (us := .ref a :: us) (vs := .ref a :: vs) F hr hG hb hd I2 (.cons rfl r) q2⟩) hst hpl)
theorem we_meth0 {σ : L2.St} {H : Hp} {Q : VK} {pl : Sem Bool} (c : Cls X.K C) (hm : Meth X.K C m f) (F : GnOk X.prog X.w X.K X.mg X.base k f fd ps sp) (hr : Room k X.A) (hG : X.A.guards = some g) (hb : Binds X.K fd ps ds) (hd : Vals dvs ds)
    (h : WE X o σ H fun x H1 => ∃ a dx fs, x = .ref a ∧ H1 a = some (.ins C dx fs) ∧ fs.lookup m = none ∧ sp g (x :: dvs) H1 Q)
    (ht : eval (.Call (.Attribute o m apos) [] [] pos) X.env = (do
      let ov ← eval o X.env
      standAt apos.atName
      let (f, first) ← holding [ov] (getMethod ov m pl)
      callWith pos f first (backTo pos (starEach [] X.env)) (backToKw pos (keywordEach [] X.env)))) : WE X (.Call (.Attribute o m apos) [] [] pos) σ H Q := fun pins s I => by
  refine PySem.W.methodCall_KW (pl := pl) (thn (h pins s I) fun u s1 ⟨x, H1, I1, rx, a, dx, fs, ex, ea, l, q⟩ => ?_) ht
  subst ex
  cases (show u = Value.ref a from rx)
  exact getmeth_ok I1 ea c hm l (PySem.W.callWith_K0 (first := [.ref a]) I1.kIn hm.kp (call_gn (us := [.ref a]) (vs := [.ref a]) F hr hG hb hd I1 (.cons rfl .nil) q))
/-- e.f, a property -/
theorem we_prop {σ : L2.St} {H : Hp} {Q : VK} {f : Str} {pp : Addr} (c : Cls X.K C) (hp : PropOf X.K C f pp g0) (F : GnOk X.prog X.w X.K X.mg X.base k g0 fd ps sp) (hr : Room (k + 1) X.A) (hG : X.A.guards = some g) (hb : Binds X.K fd ps ds) (hd : Vals dvs ds)
    (h : WE X o σ H fun x H1 => ∃ a dx fs, x = .ref a ∧ H1 a = some (.ins C dx fs) ∧ sp g (x :: dvs) H1 Q) (hab : attributeBase o f X.env (eval o X.env) = eval o X.env) : WE X (.Attribute o f pos) σ H Q := fun pins s I => by
  refine attr_of hab (thn (h pins s I) fun u s1 ⟨x, H1, I1, rx, a, dx, fs, ex, ea, q⟩ => ?_)
  subst ex
  cases (show u = Value.ref a from rx)
  obtain ⟨mA, O, _⟩ := ins_get I1.hok ea
  obtain ⟨od, J, _⟩ := O.look
  obtain ⟨rest, hrec⟩ := hp.rec_
  have I2 := I1.tok (s1.toks + 1)
  have hc : (PySem.W.clsIn X.K C).isSome = true := by
    obtain ⟨cd, hc, _⟩ := PySem.W.any_some c.hd
    rw [hc]
    rfl
  refine PySem.W.get_bind I1.kIn J (PySem.W.plainGet_of (c.get f)).1 (PySem.W.findObj_data hc hp.at_ hp.get hp.tak) (PySem.W.plainGet_of (c.get f)).2 (wpAny_call (PySem.W.prop_get (s := { s1 with toks := s1.toks + 1 }) I1.kIn hrec ?_))
  refine codeAny_mono (run_gn (A := X.A.in1) (us := [.ref a]) (vs := [.ref a]) (R := fun r s' => match r with | .ok (.ret v) => EP X pins σ Q v s' | _ => False) F hr.in1 hG I2.env0.in1 hb hd I2 (.cons rfl .nil) q fun _ _ q => q) fun r s' hq => ?_
  match r, hq with
  | .ok (.ret u), hq =>
    obtain ⟨v, H', I3, rv, q3⟩ := id hq
    exact wpAny_of_eq (PySem.W.handedOut_of (handed_of rv)) hq
/-- C(e, ..) -/
theorem make_guards {A : Around} {us : List Value} (h : A.guards = some g) : (A.under (.builtin "type.__call__" ⟨.ref C :: us, []⟩)).guards = some g := by
  have e : (Code.builtin "type.__call__" ⟨.ref C :: us, []⟩).guards = [] := by
    unfold Code.guards Code.isGuard
    have h0 : guardIds.contains "type.__call__" = false := by decide +kernel
    rw [if_neg (by show ¬ (guardIds.contains "type.__call__" = true); rw [h0]; exact Bool.false_ne_true)]
  show pushGuards (Code.builtin "type.__call__" ⟨.ref C :: us, []⟩).guards A.guards = some g
  rw [e]
  exact h
theorem run_gmake {pins : List (Addr × Obj)} {σ : L2.St} {H : Hp} {s : Shared} {Q : VK} {us : List Value} {vs : List V} {E : Value → Shared → Prop} (M : Mk X.K C f) (F : GnOk X.prog X.w X.K X.mg X.base k f fd ps sp) (hr : Room (k + 1) X.A) (hG : X.A.guards = some g) (hb : Binds X.K fd ps ds) (hd : Vals dvs ds)
    (I : Inv X pins σ H s) (r : Vals vs us) (h : ∀ x dx, H x = none → H dx = none → dx ≠ x → sp g (.ref x :: (vs ++ dvs)) (upd (upd H dx (.own x)) x (.ins C dx [])) (fun v H2 => v = .non ∧ Q (.ref x) H2)) : wpAny (model X.prog X.w) X.A (call (.ref C) us) (EP X pins σ Q) E s := by
  have hq := h (s.heap.objs.size + 1) s.heap.objs.size (I.hok.fresh (Nat.le_succ _)) (I.hok.fresh (Nat.le_refl _)) (Nat.ne_of_lt (Nat.lt_succ_self _))
  have I2 := Inv.made (C := C) I
  refine wpAny_call (make_map (f := f) I.kIn M.makes M.init (beq_iff_eq.mp M.fn) ?_)
  refine run_gn (us := Value.ref (s.heap.objs.size + 1) :: us) (vs := V.ref (s.heap.objs.size + 1) :: vs) F (hr.make C us []) (make_guards hG) (I2.env0.make C us []) hb hd I2 (.cons rfl r) hq fun v s' hv => ?_
  obtain ⟨z, H', I3, rv, ez, q3⟩ := hv
  subst ez
  exact ⟨rv, ⟨V.ref (s.heap.objs.size + 1), H', I3, rfl, q3⟩⟩
theorem we_make {σ : L2.St} {H : Hp} {Q : VK} (M : Mk X.K C f) (F : GnOk X.prog X.w X.K X.mg X.base k f fd ps sp) (hr : Room (k + 1) X.A) (hG : X.A.guards = some g) (hg : Gl X x) (hm : X.mg x = some (.ref C)) (hb : Binds X.K fd ps ds) (hd : Vals dvs ds)
    (h : WA X (e :: es) σ H fun vs H1 => ∀ y dy, H1 y = none → H1 dy = none → dy ≠ y → sp g (.ref y :: (vs ++ dvs)) (upd (upd H1 dy (.own y)) y (.ins C dy [])) (fun v H2 => v = .non ∧ Q (.ref y) H2))
    (hdb : (x == ("__debug__" : Str)) = false) (he : starEach (e :: es) X.env = (false, eval e X.env) :: starEach es X.env) (hpl : (backTo pos (starEach es X.env)).any (·.1) = false) : WE X (.Call (.Name x p) (e :: es) [] pos) σ H Q := fun pins s I =>
  wpAny_Call_Name_kw (ld_glob I hg hm (PySem.W.callWith_K (h₀ := X.base) I.ok.mod.kin M.kp (thn (h pos pins s I) fun us s1 ⟨vs, H1, I1, r, q⟩ => ⟨I1.kIn, run_gmake M F hr hG hb hd I1 r q⟩) he hpl) hdb)
end
end DL

set_option Elab.async false
set_option linter.all false
set_option maxRecDepth 100000
set_option maxHeartbeats 2000000
namespace DL
open PySem L2

/-! ### more expressions -/
section
variable {X : Cx} {B : Hp} {S : En} {pos : Pos} {Q : D → Prop} {QB : Bool → Prop} {a b c e : Expr} {es : List Expr}

theorem ed_chain {op op' : CmpOp} (h : ED X B S a fun x => ED X B S b fun y => OD X (compareOp op) x y fun z => ∃ k, z = .bl k ∧ if k = true then ED X B S c fun w => OD X (compareOp op') y w Q else Q (.bl false))
    (hm : lastMarks [op, op'] [b, c] = false := by rfl) : ED X B S (.Compare a [op, op'] [b, c] pos) Q := fun σ W H r R k => by
  refine PE.w (pe_chain wo_op wo_op we_pe we_pe we_pe hm) ?_
  refine h σ W H r _ fun d v W1 H1 s1 ok1 n1 q1 => ?_
  refine q1 σ W1 H1 (r.step s1 ok1) _ fun d2 u W2 H2 s2 ok2 n2 q2 => ?_
  refine q2 v u W2 H2 ok2 (n1.mono s2.I) n2 _ fun d3 z W3 H3 s3 ok3 n3 q3 => ?_
  obtain ⟨t, e, q3⟩ := q3
  subst e
  cases n3
  have k3 := ((k.step s1 ok1).step s2 ok2).step s3 ok3
  refine ⟨t, rfl, ?_⟩
  cases t with
  | false => exact iteF (k3.now ok3 (.bl false) (by simpa using q3))
  | true =>
    have q3 : ED X B S c fun w => OD X (compareOp op') d2 w Q := by simpa using q3
    refine iteT (q3 σ W3 H3 (((r.step s1 ok1).step s2 ok2).step s3 ok3) _ fun d4 w' W4 H4 s4 ok4 n4 q4 => ?_)
    exact q4 u w' W4 H4 ok4 ((n2.mono s3.I).mono s4.I) n4 R (k3.step s4 ok4)
theorem ed_one {op} (h : ED X B S a Q) : ED X B S (.BoolOp op [a] pos) Q := fun σ W H r R k => PE.w (pe_one we_pe) (h σ W H r R k)
theorem ed_and {rest : List Expr} (h : ED X B S a fun x => ∃ k, x = .bl k ∧ if k = true then ED X B S (.BoolOp .And (b :: rest) pos) Q else Q (.bl false)) : ED X B S (.BoolOp .And (a :: b :: rest) pos) Q := fun σ W H r R k => by
  refine PE.w (pe_and we_pe we_pe) ?_
  refine h σ W H r _ fun d v W1 H1 s1 ok1 n1 q1 => ?_
  obtain ⟨t, e, q1⟩ := q1
  subst e
  cases n1
  refine ⟨t, rfl, ?_⟩
  cases t with
  | false => exact iteF ((k.step s1 ok1).now ok1 (.bl false) (by simpa using q1))
  | true => exact iteT ((show ED X B S (.BoolOp .And (b :: rest) pos) Q by simpa using q1) σ W1 H1 (r.step s1 ok1) R (k.step s1 ok1))
theorem ed_or {rest : List Expr} (h : ED X B S a fun x => ∃ k, x = .bl k ∧ if k = true then Q (.bl true) else ED X B S (.BoolOp .Or (b :: rest) pos) Q) : ED X B S (.BoolOp .Or (a :: b :: rest) pos) Q := fun σ W H r R k => by
  refine PE.w (pe_or we_pe we_pe) ?_
  refine h σ W H r _ fun d v W1 H1 s1 ok1 n1 q1 => ?_
  obtain ⟨t, e, q1⟩ := q1
  subst e
  cases n1
  refine ⟨t, rfl, ?_⟩
  cases t with
  | true => exact iteT ((k.step s1 ok1).now ok1 (.bl true) (by simpa using q1))
  | false => exact iteF ((show ED X B S (.BoolOp .Or (b :: rest) pos) Q by simpa using q1) σ W1 H1 (r.step s1 ok1) R (k.step s1 ok1))
theorem ed_not (h : ED X B S a fun x => ∃ k, x = .bl k ∧ Q (.bl (!k))) : ED X B S (.UnaryOp .Not a pos) Q := fun σ W H r R k => by
  refine PE.w (pe_not we_pe) ?_
  refine h σ W H r _ fun d v W1 H1 s1 ok1 n1 q1 => ?_
  obtain ⟨t, e, q1⟩ := q1
  subst e
  cases n1
  exact ⟨t, rfl, (k.step s1 ok1).now ok1 (.bl _) q1⟩
theorem ed_ifx (h : TD X B S c fun k => if k = true then ED X B S a Q else ED X B S b Q) : ED X B S (.IfExp c a b pos) Q := fun σ W H r R k => by
  refine PE.w (pe_ifExp wt_pt we_pe we_pe) ?_
  refine h σ W H r _ fun t W1 H1 s1 ok1 q1 => ?_
  cases t with
  | true => exact iteT ((show ED X B S a Q by simpa using q1) σ W1 H1 (r.step s1 ok1) R (k.step s1 ok1))
  | false => exact iteF ((show ED X B S b Q by simpa using q1) σ W1 H1 (r.step s1 ok1) R (k.step s1 ok1))
theorem ed_neg (h : ED X B S a fun x => ∃ i, x = .int i ∧ Q (.int (-i))) : ED X B S (.UnaryOp .USub a pos) Q := fun σ W H r R k => by
  refine PE.w (pe_un un_neg we_pe) ?_
  refine h σ W H r _ fun d v W1 H1 s1 ok1 n1 q1 => ?_
  obtain ⟨i, e, q1⟩ := q1
  subst e
  cases n1
  exact ⟨i, rfl, (k.step s1 ok1).now ok1 (.int _) q1⟩

/-! ### tests -/
theorem td_val (h : ED X B S e fun x => ∃ k, x = .bl k ∧ QB k) (he : ∀ whole, isTrue e X.env whole = (do let v ← whole; standAt e.pos; holding [v] (truthy v)) := by intro _; rfl) : TD X B S e QB := fun σ W H r R k => by
  refine PT.w (pt_val we_pe he) ?_
  refine h σ W H r _ fun d v W1 H1 s1 ok1 n1 q1 => ?_
  obtain ⟨t, e, q1⟩ := q1
  subst e
  cases n1
  exact ⟨t, rfl, (k.step s1 ok1).now ok1 q1⟩
theorem td_cmp {op : CmpOp} (h : ED X B S a fun x => ED X B S b fun y => OD X (compareOp op) x y fun z => ∃ k, z = .bl k ∧ QB k) (hm : behindInMarks op b = false := by first | exact nomark _ | rfl) : TD X B S (.Compare a [op] [b] pos) QB := fun σ W H r R k => by
  refine PT.w (pt_cmpR wo_op we_pe we_pe hm) ?_
  refine h σ W H r _ fun d v W1 H1 s1 ok1 n1 q1 => ?_
  refine q1 σ W1 H1 (r.step s1 ok1) _ fun d2 u W2 H2 s2 ok2 n2 q2 => ?_
  refine q2 v u W2 H2 ok2 (n1.mono s2.I) n2 _ fun d3 z W3 H3 s3 ok3 n3 q3 => ?_
  obtain ⟨t, e, q3⟩ := q3
  subst e
  cases n3
  exact ⟨t, rfl, (((k.step s1 ok1).step s2 ok2).step s3 ok3).now ok3 q3⟩
theorem td_of (h : TW X B S e QB) : TD X B S e QB := fun σ W H r R k => PT.w (PW.pt ww_pw) (h σ W H r R k)
theorem tw_and1 (h : TD X B S a QB) : TW X B S (.BoolOp .And [a] pos) QB := fun σ W H r R k => PW.w (pw_and1 wt_pt) (h σ W H r R k)
theorem tw_or1 (h : TD X B S a QB) : TW X B S (.BoolOp .Or [a] pos) QB := fun σ W H r R k => PW.w (pw_or1 wt_pt) (h σ W H r R k)
theorem tw_and {rest : List Expr} (h : TD X B S a fun k => if k = true then TW X B S (.BoolOp .And (b :: rest) pos) QB else QB false) : TW X B S (.BoolOp .And (a :: b :: rest) pos) QB := fun σ W H r R k => by
  refine PW.w (pw_and wt_pt ww_pw) ?_
  refine h σ W H r _ fun t W1 H1 s1 ok1 q1 => ?_
  cases t with
  | false => exact iteF ((k.step s1 ok1).now ok1 (by simpa using q1))
  | true => exact iteT ((show TW X B S (.BoolOp .And (b :: rest) pos) QB by simpa using q1) σ W1 H1 (r.step s1 ok1) R (k.step s1 ok1))
theorem tw_or {rest : List Expr} (h : TD X B S a fun k => if k = true then QB true else TW X B S (.BoolOp .Or (b :: rest) pos) QB) : TW X B S (.BoolOp .Or (a :: b :: rest) pos) QB := fun σ W H r R k => by
  refine PW.w (pw_or wt_pt ww_pw) ?_
  refine h σ W H r _ fun t W1 H1 s1 ok1 q1 => ?_
  cases t with
  | true => exact iteT ((k.step s1 ok1).now ok1 (by simpa using q1))
  | false => exact iteF ((show TW X B S (.BoolOp .Or (b :: rest) pos) QB by simpa using q1) σ W1 H1 (r.step s1 ok1) R (k.step s1 ok1))
theorem td_not (h : TD X B S a fun k => QB (!k)) : TD X B S (.UnaryOp .Not a pos) QB := fun σ W H r R k => by
  refine PT.w (pt_not wt_pt) ?_
  exact h σ W H r _ fun t W1 H1 s1 ok1 q1 => (k.step s1 ok1).now ok1 q1
/-- the truth of a datum -/
def Tru : D → Bool → Prop
  | .non, k => k = false
  | .bl b, k => k = b
  | .int i, k => k = (i != 0)
  | .str y, k => y.length ≤ sizeLine ∧ k = ((y.length : Int) != 0)
  | .lst l, k => k = !l.isEmpty
  | .tup l, k => k = !l.isEmpty
  | _, _ => False
/-! ### arguments -/
theorem ad_nil {Q : List Sl → Prop} (q : Q []) : AD X B S [] Q := fun σ W H r R k => PA.w pa_nil (k [] [] W H Stp.refl r.ok .nil q)
theorem ad_cons {Q : List Sl → Prop} (h : ED X B S e fun d => AD X B S es fun as => Q (.val d :: as)) (hs : starEach (e :: es) X.env = (false, eval e X.env) :: starEach es X.env := by rfl) : AD X B S (e :: es) Q := fun σ W H r R k => by
  refine PA.w (pa_cons we_pe wa_pa hs) ?_
  refine h σ W H r _ fun d v W1 H1 s1 ok1 n1 q1 => ?_
  refine q1 σ W1 H1 (r.step s1 ok1) _ fun as vs W2 H2 s2 ok2 n2 q2 => ?_
  exact k _ _ W2 H2 (s1.trans ok1 s2) ok2 (.cons (show Arg X.K W2 (.val d) v from n1.mono s2.I) n2) q2
theorem ad_pot {Q : List Sl → Prop} {x : Str} (i : Nat) (hN : X.N[i]? = some x) (h : S[i]? = some (some .pot)) (q : AD X B S es fun as => Q (.pot :: as)) (hv : Vis X.env.scope x := by first | exact Or.inl rfl | exact Or.inr (Or.inl rfl) | exact Or.inr (Or.inr rfl))
    (hd : (x == ("__debug__" : Str)) = false := by decide) (hcd : (x == ("__classdict__" : Str)) = false := by decide) (hs : starEach (.Name x pos :: es) X.env = (false, eval (.Name x pos) X.env) :: starEach es X.env := by rfl) : AD X B S (.Name x pos :: es) Q := fun σ W H r R k => by
  refine PA.w (pa_cons (pe_var hN hv hd hcd) wa_pa hs) ?_
  obtain ⟨v, e, p, ev, hp⟩ := r.sl i _ h
  refine ⟨v, e, ?_⟩
  refine q σ W H r _ fun as vs W2 H2 s2 ok2 n2 q2 => ?_
  exact k _ _ W2 H2 s2 ok2 (.cons (show Arg X.K W2 .pot v from ⟨p, ev, s2.P p hp⟩) n2) q2

/-! ### displays, items -/
theorem Args.vals {K : PySem.W.Frag} {W : Wd} : ∀ {ds : List D} {vs : List V}, Args K W (ds.map Sl.val) vs → Dns K W.I ds vs
  | [], _, .nil => .nil
  | _ :: _, _, .cons h r => .cons h (Args.vals r)
theorem ed_tup {k0} (h : AD X B S es fun as => ∃ ds, as = ds.map Sl.val ∧ ds.length ≤ 100000 ∧ Q (.tup ds)) : ED X B S (.Tuple es k0 pos) Q := fun σ W H r R k => by
  refine PE.w (pe_tup wa_pa) ?_
  refine h σ W H r _ fun as vs W1 H1 s1 ok1 n1 q1 => ?_
  obtain ⟨ds, rfl, hl, q1⟩ := q1
  have n := n1.vals
  refine ⟨Nat.le_trans (n.length ▸ hl) (by decide), fun p hp => ?_⟩
  have st := Stp.new (o := .tup vs) ok1 hp
  exact k (.tup ds) (.ref p) _ _ (s1.trans ok1 st) (ok1.new hp) (.tup (show upd W1.I p _ p = _ from upd_same) (n.mono st.I)) q1
theorem ed_lst (h : AD X B S es fun as => ∃ ds, as = ds.map Sl.val ∧ ds.length ≤ 100000 ∧ Q (.lst ds)) : ED X B S (.List es pos) Q := fun σ W H r R k => by
  refine PE.w (pe_lst wa_pa) ?_
  refine h σ W H r _ fun as vs W1 H1 s1 ok1 n1 q1 => ?_
  obtain ⟨ds, rfl, hl, q1⟩ := q1
  have n := n1.vals
  refine ⟨Nat.le_trans (n.length ▸ hl) (by decide), fun p hp => ?_⟩
  have st := Stp.new (o := .lst vs) ok1 hp
  exact k (.lst ds) (.ref p) _ _ (s1.trans ok1 st) (ok1.new hp) (.lst (show upd W1.I p _ p = _ from upd_same) (n.mono st.I)) q1
theorem Dns.at {K : PySem.W.Frag} {I : Hp} {l : List D} {xs : List V} {i : Int} {d : D} (h : Dns K I l xs) (e : atI l i = some d) : ∃ v, atI xs i = some v ∧ Dn K I d v := by
  unfold atI at e ⊢
  rw [← h.length]
  cases q : ixN l.length i with
  | none => rw [q] at e; cases e
  | some j =>
    rw [q, Option.bind_some] at e
    obtain ⟨v, h1, h2⟩ := h.get' e
    exact ⟨v, h1, h2⟩
theorem od_ixL {l : List D} {i : Int} {d : D} {σ : L2.St} {W : Wd} {H : Hp} {R : VK} {v u : V} (ok : Ok (gOf X) W H) (h1 : Dn X.K W.I (.lst l) v) (h2 : Dn X.K W.I (.int i) u) (e : atI l i = some d) (q : Q d) (k : Cont X.K (gOf X) W H Q R) : rIxL X.K v u H R := by
  cases h1 with
  | lst h z =>
    cases h2
    obtain ⟨v, e1, n⟩ := z.at e
    exact ⟨_, _, i, v, rfl, rfl, SqL.of (ok.ex _ _ h), e1, k.now ok n q⟩
/-- x[i] of a list, of a tuple -/
theorem ed_ix (h : ED X B S a fun x => ED X B S b fun y => ∃ l i d, (x = .lst l ∨ x = .tup l) ∧ y = .int i ∧ atI l i = some d ∧ Q d) (hs : PlainIx b := by exact fun _ _ => rfl) : ED X B S (.Subscript a b pos) Q := fun σ W H r R k => by
  refine PE.w (pe_ix ix_seq we_pe we_pe hs) ?_
  refine h σ W H r _ fun d v W1 H1 s1 ok1 n1 q1 => ?_
  refine q1 σ W1 H1 (r.step s1 ok1) _ fun d2 u W2 H2 s2 ok2 n2 q2 => ?_
  obtain ⟨l, i, d3, hx, rfl, e, q⟩ := q2
  have k2 := (k.step s1 ok1).step s2 ok2
  have n1' := n1.mono s2.I
  rcases hx with rfl | rfl
  · exact .inl (od_ixL (σ := σ) ok2 n1' n2 e q k2)
  · cases n1' with
    | tup h z =>
      cases n2
      obtain ⟨v, e1, n⟩ := z.at e
      exact .inr (.inl ⟨_, _, i, v, rfl, rfl, SqT.of (ok2.ex _ _ h), e1, k2.now ok2 n q⟩)
/-- p[0], p[1] of a pot: some int -/
theorem ed_potix {x : Str} {px : Pos} {j : Nat} {j2 pos2} (i : Nat) (hN : X.N[i]? = some x) (h : S[i]? = some (some .pot)) (hj : j < 2) (q : ∀ z : Int, (j = 1 → 0 ≤ z ∧ z < 2 ^ 31) → Q (.int z)) (hv : Vis X.env.scope x := by first | exact Or.inl rfl | exact Or.inr (Or.inl rfl) | exact Or.inr (Or.inr rfl))
    (hd : (x == ("__debug__" : Str)) = false := by decide) (hcd : (x == ("__classdict__" : Str)) = false := by decide) : ED X B S (.Subscript (.Name x px) (.Constant (.int (j : Int)) j2 pos2) pos) Q := fun σ W H r R k => by
  refine PE.w (pe_ix ix_list (pe_var hN hv hd hcd) pe_int (fun _ _ => rfl)) ?_
  obtain ⟨v, e, p, ev, hp⟩ := r.sl i _ h
  subst ev
  obtain ⟨n, y, z, hH, hb⟩ := r.ok.pot p hp
  refine ⟨_, e, p, _, (j : Int), if j = 0 then .int y else .int z, rfl, rfl, SqL.of hH, ?_, ?_⟩
  · match j, hj with
    | 0, _ => exact atI_nat (j := 0) rfl
    | 1, _ => exact atI_nat (j := 1) rfl
  · match j, hj with
    | 0, _ => exact k.now r.ok (.int y) (q y fun z => absurd z (by decide))
    | 1, _ => exact k.now r.ok (.int z) (q z fun _ => hb)
end

/-! ### what a def promises, on data -/
abbrev SpD := List Sl → (D → Prop) → Prop
def lift (K : PySem.W.Frag) (sp : SpD) : SpG := fun g vs H R => ∃ as W Q, Ok g W H ∧ Args K W as vs ∧ sp as Q ∧ Cont K g W H Q R
/-- the def that the module calls x: its level, its parameters, its promise -/
structure Df (P : Program) (w : World) (K : PySem.W.Frag) (mg : Str → Option Value) (base : Heap) (x : Str) (k : Nat) (n : Nat) (sp : SpD) : Prop where
  ex : ∃ f fd ps, GnOk P w K mg base k f fd ps (lift K sp) ∧ mg x = some (.ref f) ∧ PySem.W.keepIn K (.ref f) = true ∧ Binds K fd ps [] ∧ ps.length = n
section
variable {X : Cx} {B : Hp} {S : En} {pos p : Pos} {Q : D → Prop} {e : Expr} {es : List Expr} {x : Str} {k n : Nat} {sp : SpD}
theorem ed_call (F : Df X.prog X.w X.K X.mg X.base x k n sp) (hr : Room k X.A) (hG : X.A.guards = some (gOf X)) (h : AD X B S (e :: es) fun as => sp as Q) (hg : Gl X x := by rfl) (hdb : (x == ("__debug__" : Str)) = false := by decide)
    (he : starEach (e :: es) X.env = (false, eval e X.env) :: starEach es X.env := by rfl) (hpl : (backTo pos (starEach es X.env)).any (·.1) = false := by rfl) : ED X B S (.Call (.Name x p) (e :: es) [] pos) Q := fun σ W H r R c => by
  obtain ⟨f, fd, ps, F, hm, hk, hb, _⟩ := F.ex
  refine we_call F hr hG hg hm hk hb .nil ?_ hdb he hpl
  refine h σ W H r _ fun as vs W1 H1 s1 ok1 n1 q1 => ?_
  rw [List.append_nil]
  exact ⟨as, W1, Q, ok1, n1, q1, c.step s1 ok1⟩
/-- a call of a value on data -/
def CD (X : Cx) (f : Value) (as : List Sl) (Q : D → Prop) : Prop := ∀ vs W H, Ok (gOf X) W H → Args X.K W as vs → ∀ R, Cont X.K (gOf X) W H Q R → ∀ pins s σ us, Inv X pins σ H s → Vals vs us → wpAny (model X.prog X.w) X.A (call f us) (EP X pins σ R) X.xe s
def WC (X : Cx) (f : Value) : List V → Hp → VK → Prop := fun vs H R => ∀ pins s σ us, Inv X pins σ H s → Vals vs us → wpAny (model X.prog X.w) X.A (call f us) (EP X pins σ R) X.xe s
theorem wc_call {f : Value} : CallR X f (WC X f) := fun pins s σ _ _ us _ I r h => h pins s σ us I r
theorem cd_of {f : Value} {r : List V → Hp → VK → Prop} {as : List Sl} (hc : CallR X f r) (h : ∀ vs W H, Ok (gOf X) W H → Args X.K W as vs → ∀ R, Cont X.K (gOf X) W H Q R → r vs H R) : CD X f as Q := fun vs W H ok ha R c pins s σ us I rv =>
  hc pins s σ H vs us R I rv (h vs W H ok ha R c)
theorem ed_callB {id : String} (hm : X.mg x = none) (h : AD X B S (e :: es) fun as => CD X (.builtin id) as Q) (hv : bootBuiltins x = some (.builtin id) := by first | rfl | decide +kernel) (hg : Gl X x := by rfl) (hn : x ≠ "__name__" := by decide) (hdb : (x == ("__debug__" : Str)) = false := by decide)
    (he : starEach (e :: es) X.env = (false, eval e X.env) :: starEach es X.env := by rfl) (hpl : (backTo pos (starEach es X.env)).any (·.1) = false := by rfl) : ED X B S (.Call (.Name x p) (e :: es) [] pos) Q := fun σ W H r R c => by
  refine PE.w (pe_callB wc_call hg hm hv wa_pa hn hdb he hpl) ?_
  refine h σ W H r _ fun as vs W1 H1 s1 ok1 n1 q1 => ?_
  exact q1 vs W1 H1 ok1 n1 R (c.step s1 ok1)
theorem ed_callTy {T : String} (hm : X.mg x = none) (h : AD X B S (e :: es) fun as => CD X (.type T) as Q) (hv : bootBuiltins x = some (.type T) := by first | rfl | decide +kernel) (hg : Gl X x := by rfl) (hn : x ≠ "__name__" := by decide) (hdb : (x == ("__debug__" : Str)) = false := by decide)
    (he : starEach (e :: es) X.env = (false, eval e X.env) :: starEach es X.env := by rfl) (hpl : (backTo pos (starEach es X.env)).any (·.1) = false := by rfl) : ED X B S (.Call (.Name x p) (e :: es) [] pos) Q := fun σ W H r R c => by
  refine PE.w (pe_callTy wc_call hg hm hv wa_pa hn hdb he hpl) ?_
  refine h σ W H r _ fun as vs W1 H1 s1 ok1 n1 q1 => ?_
  exact q1 vs W1 H1 ok1 n1 R (c.step s1 ok1)
/-- a built-in function that the module imported -/
theorem one_arg {K : PySem.W.Frag} {W : Wd} {d : D} {vs : List V} (h : Args K W [.val d] vs) : ∃ v, vs = [v] ∧ Dn K W.I d v := by
  cases h with
  | cons h r => cases r; exact ⟨_, rfl, h⟩
theorem two_args {K : PySem.W.Frag} {W : Wd} {d d' : D} {vs : List V} (h : Args K W [.val d, .val d'] vs) : ∃ v u, vs = [v, u] ∧ Dn K W.I d v ∧ Dn K W.I d' u := by
  cases h with
  | cons h r => cases r with
    | cons h' r' => cases r'; exact ⟨_, _, rfl, h, h'⟩
theorem cd_abs {i : Int} (q : Q (.int (if i < 0 then -i else i))) : CD X (.builtin "abs") [.val (.int i)] Q := cd_of call_abs fun vs W H ok ha R c => by
  obtain ⟨v, rfl, h⟩ := one_arg ha
  cases h
  exact ⟨i, rfl, c.now ok (.int _) q⟩
theorem cd_int {i : Int} (q : Q (.int i)) : CD X (.type "int") [.val (.int i)] Q := cd_of call_int1 fun vs W H ok ha R c => by
  obtain ⟨v, rfl, h⟩ := one_arg ha
  cases h
  exact .inl ⟨i, rfl, c.now ok (.int _) q⟩
theorem cd_max {i j : Int} (hc : X.calm = true) (q : Q (.int (if j > i then j else i))) : CD X (.builtin "max") [.val (.int i), .val (.int j)] Q := cd_of (call_max2 hc) fun vs W H ok ha R c => by
  obtain ⟨v, u, rfl, h, h'⟩ := two_args ha
  cases h; cases h'
  exact ⟨i, j, rfl, c.now ok (.int _) q⟩
theorem cd_divmod {i j : Int} (hj : CDiv i j) (q : Q (.tup [.int (i / j), .int (i % j)])) : CD X (.builtin "divmod") [.val (.int i), .val (.int j)] Q := cd_of call_divmod fun vs W H ok ha R c => by
  obtain ⟨v, u, rfl, h, h'⟩ := two_args ha
  cases h; cases h'
  refine ⟨i, j, rfl, hj, fun p hp => ?_⟩
  have st := Stp.new (o := .tup [.int (i / j), .int (i % j)]) ok hp
  exact c _ _ _ _ st (ok.new hp) (.tup (show upd W.I p _ p = _ from upd_same) (.cons (.int _) (.cons (.int _) .nil))) q
theorem cd_len {x : D} {l : List D} (hx : x = .lst l ∨ x = .tup l) (q : Q (.int (l.length : Int))) : CD X (.builtin "len") [.val x] Q := cd_of call_len_seq fun vs W H ok ha R c => by
  obtain ⟨v, rfl, h⟩ := one_arg ha
  rcases hx with rfl | rfl
  · cases h with
    | lst h z => exact ⟨_, _, rfl, .inl (SqL.of (ok.ex _ _ h)), by rw [← z.length]; exact c.now ok (.int _) q⟩
  · cases h with
    | tup h z => exact ⟨_, _, rfl, .inr (SqT.of (ok.ex _ _ h)), by rw [← z.length]; exact c.now ok (.int _) q⟩
theorem cd_lenF {l : List Int} (q : Q (.int (l.length : Int))) : CD X (.builtin "len") [.val (.frl l)] Q := cd_of call_len_seq fun vs W H ok ha R c => by
  obtain ⟨v, rfl, h⟩ := one_arg ha
  cases h with
  | frl h => exact ⟨_, _, rfl, .inl (ok.ex.l h), by rw [List.length_map]; exact c.now ok (.int _) q⟩
end
end DL

set_option Elab.async false
set_option linter.all false
set_option maxRecDepth 100000
set_option maxHeartbeats 2000000
namespace DL
open PySem L2

/-! ### statements -/
structure Ends' where
  nx : En → Prop
  rt : D → Prop
  bk : En → Prop := fun _ => False
  ct : En → Prop := fun _ => False
structure Sub (K : PySem.W.Frag) (g : List Code) (B : Hp) (W0 : Wd) (I : Hp) (E : Ends') (D' : Ends) : Prop where
  nx : ∀ S σ W H, Rep K g B S σ W H → Stp W0 B W H → Ex I W.I → E.nx S → D'.nx σ H
  rt : ∀ d v W H, Ok g W H → Stp W0 B W H → Ex I W.I → Dn K W.I d v → E.rt d → D'.rt v H
  bk : ∀ S σ W H, Rep K g B S σ W H → Stp W0 B W H → Ex I W.I → E.bk S → D'.bk σ H
  ct : ∀ S σ W H, Rep K g B S σ W H → Stp W0 B W H → Ex I W.I → E.ct S → D'.ct σ H
theorem Sub.mono {K : PySem.W.Frag} {g : List Code} {B : Hp} {W0 : Wd} {I I' : Hp} {E : Ends'} {D' : Ends} (k : Sub K g B W0 I E D') (e : Ex I I') : Sub K g B W0 I' E D' :=
  ⟨fun S σ W H r z x => k.nx S σ W H r z (e.trans x), fun d v W H r z x => k.rt d v W H r z (e.trans x), fun S σ W H r z x => k.bk S σ W H r z (e.trans x), fun S σ W H r z x => k.ct S σ W H r z (e.trans x)⟩
def WG (X : Cx) (tg : Expr) : TG := fun v σ H Q => ∀ pins s u, Inv X pins σ H s → RelV v u → wpAny (model X.prog X.w) X.A (assign tg X.env u) (fun _ s' => ∃ σ' H', Inv X pins σ' H' s' ∧ Q σ' H') X.xe s
def WGs (X : Cx) (ts : List Expr) : TGs := fun vs σ H Q => ∀ pins s us, Inv X pins σ H s → Vals vs us → wpAny (model X.prog X.w) X.A (assignInOrder ((assignEach ts X.env).map (·.2)) us) (fun _ s' => ∃ σ' H', Inv X pins σ' H' s' ∧ Q σ' H') X.xe s
theorem wg_pg {X : Cx} {tg : Expr} : PG X tg (WG X tg) := ⟨fun pins s _ _ _ u _ I r h => h pins s u I r⟩
theorem wgs_pgs {X : Cx} {ts : List Expr} : PGs X ts (WGs X ts) := ⟨fun pins s _ _ _ us _ I r h => h pins s us I r⟩
theorem PG.w {X : Cx} {tg : Expr} {t : TG} (h : PG X tg t) {v : V} {σ : L2.St} {H : Hp} {Q : L2.St → Hp → Prop} (q : t v σ H Q) : WG X tg v σ H Q := fun pins s u I r => h.run pins s σ H v u Q I r q
theorem PGs.w {X : Cx} {ts : List Expr} {t : TGs} (h : PGs X ts t) {vs : List V} {σ : L2.St} {H : Hp} {Q : L2.St → Hp → Prop} (q : t vs σ H Q) : WGs X ts vs σ H Q := fun pins s us I r => h.run pins s σ H vs us Q I r q
section
variable (X : Cx) (B : Hp) (W0 : Wd) (S : En)
def SD (st : Stmt) (E : Ends') : Prop := ∀ σ W H, Rep X.K (gOf X) B S σ W H → Stp W0 B W H → ∀ D', Sub X.K (gOf X) B W0 W.I E D' → WS X st D' σ H
def SDs (sts : List Stmt) (E : Ends') : Prop := ∀ σ W H, Rep X.K (gOf X) B S σ W H → Stp W0 B W H → ∀ D', Sub X.K (gOf X) B W0 W.I E D' → WSs X sts D' σ H
def ContG (K : PySem.W.Frag) (g : List Code) (I : Hp) (Q : En → Prop) (R : L2.St → Hp → Prop) : Prop := ∀ S σ W H, Rep K g B S σ W H → Stp W0 B W H → Ex I W.I → Q S → R σ H
def GD (tg : Expr) (d : D) (Q : En → Prop) : Prop := ∀ σ W H v, Rep X.K (gOf X) B S σ W H → Stp W0 B W H → Dn X.K W.I d v → ∀ R, ContG B W0 X.K (gOf X) W.I Q R → WG X tg v σ H R
def GDs (ts : List Expr) (ds : List D) (Q : En → Prop) : Prop := ∀ σ W H vs, Rep X.K (gOf X) B S σ W H → Stp W0 B W H → Dns X.K W.I ds vs → ∀ R, ContG B W0 X.K (gOf X) W.I Q R → WGs X ts vs σ H R
end
section
variable {X : Cx} {B : Hp} {W0 : Wd} {S : En} {st : Stmt} {sts : List Stmt} {E : Ends'} {pos : Pos} {e a b : Expr} {Q : En → Prop}

/-! targets -/
theorem gd_name {x : Str} {d : D} (i : Nat) (hN : X.N.Nodup) (hi : X.N[i]? = some x) (q : Q (S.set i (some (.val d)))) (hx : Loc X.env.scope x := by first | exact Or.inl rfl | exact Or.inr rfl)
    (hf : X.fn x = true ∨ X.env.scope.names.lookup x = some .local := by first | exact .inl rfl | exact .inr rfl) : GD X B W0 S (.Name x pos) d Q := fun σ W H v r z n R k =>
  PG.w (pg_name hN hi hx hf) (k _ _ W H (r.set n) z (Ex.refl _) q)
theorem gds_nil (q : Q S) : GDs X B W0 S [] [] Q := fun σ W H vs r z n R k => by
  cases n
  exact PGs.w pgs_nil ⟨rfl, k _ _ W H r z (Ex.refl _) q⟩
theorem gds_cons {tg : Expr} {ts : List Expr} {d : D} {ds : List D} (h : GD X B W0 S tg d fun S' => GDs X B W0 S' ts ds Q) (hs : (assignEach (tg :: ts) X.env).map (·.2) = assign tg X.env :: (assignEach ts X.env).map (·.2) := by rfl) : GDs X B W0 S (tg :: ts) (d :: ds) Q := fun σ W H vs r z n R k => by
  cases n with
  | @cons _ v _ xs n1 n2 =>
    refine PGs.w (pgs_cons wg_pg wgs_pgs hs) ⟨_, _, rfl, ?_⟩
    exact h σ W H v r z n1 _ fun S' σ' W' H' r' z' e' q' => q' σ' W' H' xs r' z' (n2.mono e') R fun S2 σ2 W2 H2 r2 z2 e2 q2 => k S2 σ2 W2 H2 r2 z2 (e'.trans e2) q2
theorem gd_tup {es : List Expr} {k0 : Nat} {ds : List D} {n : Nat} (hc : X.calm = true) (h : GDs X B W0 S es ds Q) (hl : ds.length = n) (hn : (assignEach es X.env).length = n := by rfl) (hst : (assignEach es X.env).findIdx? (·.1) = none := by rfl) : GD X B W0 S (.Tuple es k0 pos) (.tup ds) Q := fun σ W H v r z m R k => by
  cases m with
  | tup hp m => exact PG.w (pg_tup hc wgs_pgs hn hst) ⟨_, _, rfl, SqT.of (r.ok.ex _ _ hp), by rw [← m.length]; exact hl, h σ W H _ r z m R k⟩
/-- p[j] = an int, p a pot -/
theorem gd_pot {x : Str} {px : Pos} {j : Nat} {j2 pos2} {m : Int} (i : Nat) (hN : X.N[i]? = some x) (h : S[i]? = some (some .pot)) (hj : j < 2) (hm : j = 1 → 0 ≤ m ∧ m < 2 ^ 31) (q : Q S) (hv : Vis X.env.scope x := by first | exact Or.inl rfl | exact Or.inr (Or.inl rfl) | exact Or.inr (Or.inr rfl))
    (hd : (x == ("__debug__" : Str)) = false := by decide) (hcd : (x == ("__classdict__" : Str)) = false := by decide)
    (ha : ∀ v, assign (.Subscript (.Name x px) (.Constant (.int (j : Int)) j2 pos2) pos) X.env v = (do
      let ov ← holding [v] (eval (.Name x px) X.env)
      let iv ← holding [v, ov] (eval (.Constant (.int (j : Int)) j2 pos2) X.env)
      standAt pos
      holding [v, ov, iv] (setItem ov iv v)
      release [v, ov, iv] []) := by intro _; rfl) : GD X B W0 S (.Subscript (.Name x px) (.Constant (.int (j : Int)) j2 pos2) pos) (.int m) Q := fun σ W H v r z n R k => by
  cases n
  obtain ⟨v, e, p, ev, hp⟩ := r.sl i _ h
  subst ev
  obtain ⟨ni, y, w, hH, hbb⟩ := r.ok.pot p hp
  refine PG.w (pg_sub (pe_var hN hv hd hcd) pe_int set_list ha) ⟨_, e, p, _, (j : Int), j, rfl, rfl, hH, ?_, ?_⟩
  · match j, hj with
    | 0, _ => rfl
    | 1, _ => rfl
  · have ht : ∃ y' w', ([V.int y, V.int w].set j (.int m)) = [V.int y', V.int w'] ∧ 0 ≤ w' ∧ w' < 2 ^ 31 := by
      match j, hj with
      | 0, _ => exact ⟨m, w, rfl, hbb⟩
      | 1, _ => exact ⟨y, m, rfl, hm rfl⟩
    obtain ⟨y', w', et, hw'⟩ := ht
    rw [et]
    have pn : ∀ b o, H b = some o → ¬ W.P b → b ≠ p := fun b o _ n z => n (z ▸ hp)
    have ok : Ok (gOf X) W (upd H p (.lst [.int y', .int w'])) := {
      gd := fun b hb => by
        obtain ⟨n1, n2⟩ := r.ok.gd b hb
        refine ⟨n1, ?_⟩
        by_cases q : b = p
        · subst q
          rw [upd_same]
          exact ⟨(fun z => by cases z), (fun _ z => by cases z)⟩
        · rw [upd_ne q]
          exact n2
      ex := fun b o hb => by
        rw [upd_ne (fun z => by rw [z, ni] at hb; cases hb)]
        exact r.ok.ex b o hb
      pot := fun b hb => by
        obtain ⟨nb, y2, w2, h2⟩ := r.ok.pot b hb
        refine ⟨nb, ?_⟩
        by_cases q : b = p
        · subst q
          exact ⟨y', w', upd_same, hw'⟩
        · exact ⟨y2, w2, by rw [upd_ne q]; exact h2⟩ }
    have st : Stp W H W (upd H p (.lst [.int y', .int w'])) := ⟨Ex.refl _, fun _ h => h, fun b o hb n => by rw [upd_ne (pn b o hb n)]; exact hb, fun _ _ _ _ h => h, fun _ _ _ h => h⟩
    exact k S σ W _ (r.step st ok) (z.trans r.ok st) (Ex.refl _) q

/-! blocks -/
theorem sds_nil (q : E.nx S) : SDs X B W0 S [] E := fun σ W H r z D' k => PSs.w pss_nil (k.nx S σ W H r z (Ex.refl _) q)
theorem sds_cons (h : SD X B W0 S st { E with nx := fun S' => SDs X B W0 S' sts E }) : SDs X B W0 S (st :: sts) E := fun σ W H r z D' k => by
  refine PSs.w (pss_cons ws_ps wss_pss) ?_
  exact h σ W H r z _ ⟨fun S' σ' W' H' r' z' x' q => q σ' W' H' r' z' D' (k.mono x'), k.rt, k.bk, k.ct⟩
theorem sd_ret (h : ED X B S e E.rt) : SD X B W0 S (.Return (some e) pos) E := fun σ W H r z D' k => PS.w (ps_ret we_pe) (h σ W H r _ fun d v W1 H1 s1 ok1 n1 q1 => k.rt d v W1 H1 ok1 (z.trans r.ok s1) s1.I n1 q1)
theorem sd_expr (h : ED X B S e fun _ => E.nx S) (hs : swapsWith e none pos.line X.env = pure false := by rfl) : SD X B W0 S (.Expr e pos) E := fun σ W H r z D' k =>
  PS.w (ps_expr we_pe hs) (h σ W H r _ fun d v W1 H1 s1 ok1 n1 q1 => k.nx S σ W1 H1 (r.step s1 ok1) (z.trans r.ok s1) s1.I q1)
theorem sd_if {c : Expr} {x y : List Stmt} (h : TD X B S c fun t => if t = true then SDs X B W0 S x E else SDs X B W0 S y E) : SD X B W0 S (.If c x y pos) E := fun σ W H r z D' k => by
  refine PS.w (ps_if wt_pt wss_pss wss_pss) ?_
  refine h σ W H r _ fun t W1 H1 s1 ok1 q1 => ?_
  cases t with
  | true => exact iteT ((show SDs X B W0 S x E by simpa using q1) σ W1 H1 (r.step s1 ok1) (z.trans r.ok s1) D' (k.mono s1.I))
  | false => exact iteF ((show SDs X B W0 S y E by simpa using q1) σ W1 H1 (r.step s1 ok1) (z.trans r.ok s1) D' (k.mono s1.I))
theorem sd_set {x : Str} {pos' : Pos} (i : Nat) (hN : X.N.Nodup) (hi : X.N[i]? = some x) (h : ED X B S e fun d => E.nx (S.set i (some (.val d)))) (hx : Loc X.env.scope x := by first | exact Or.inl rfl | exact Or.inr rfl)
    (hs : swapsWith e (some (.Name x pos')) pos.line X.env = pure false := by rfl) (hf : X.fn x = true ∨ X.env.scope.names.lookup x = some .local := by first | exact .inl rfl | exact .inr rfl) : SD X B W0 S (.Assign [.Name x pos'] e pos) E := fun σ W H r z D' k =>
  PS.w (ps_set hN hi hx we_pe hs hf) (h σ W H r _ fun d v W1 H1 s1 ok1 n1 q1 => k.nx _ _ W1 H1 ((r.step s1 ok1).set n1) (z.trans r.ok s1) s1.I q1)
theorem sd_asg {tg : Expr} (h : ED X B S e fun d => GD X B W0 S tg d E.nx) (hs : swapsWithSole [tg] e pos.line X.env = pure false := by rfl) (hw : swappedStores [tg] e X.env = pure none := by rfl)
    (h1 : (assignEach [tg] X.env).map (·.2) = [assign tg X.env] := by rfl) : SD X B W0 S (.Assign [tg] e pos) E := fun σ W H r z D' k =>
  PS.w (ps_asg we_pe wg_pg hs hw h1) (h σ W H r _ fun d v W1 H1 s1 ok1 n1 q1 => q1 σ W1 H1 v (r.step s1 ok1) (z.trans r.ok s1) n1 _ fun S2 σ2 W2 H2 r2 z2 e2 q2 => k.nx S2 σ2 W2 H2 r2 z2 (s1.I.trans e2) q2)
theorem sd_par {x y : Str} {px py pt : Pos} {kt k2 pt2} (i j : Nat) (hc : X.calm = true) (hN : X.N.Nodup) (hi : X.N[i]? = some x) (hj : X.N[j]? = some y) (hij : i ≠ j)
    (hx : X.env.scope.names.lookup x = some .local) (hy : X.env.scope.names.lookup y = some .local) (h : AD X B S [a, b] fun as => ∃ d d', as = [.val d, .val d'] ∧ E.nx ((S.set i (some (.val d))).set j (some (.val d'))))
    (hps : PS X (.Assign [.Tuple [.Name x px, .Name y py] kt pt] (.Tuple [a, b] k2 pt2) pos) (tPar i j (WA X [a, b])) := by exact ps_par rfl (by assumption) rfl rfl (by decide) rfl rfl DL.wa_pa (by rfl)) :
    SD X B W0 S (.Assign [.Tuple [.Name x px, .Name y py] kt pt] (.Tuple [a, b] k2 pt2) pos) E := fun σ W H r z D' k => by
  refine PS.w hps ?_
  refine h σ W H r _ fun as vs W1 H1 s1 ok1 n1 q1 => ?_
  obtain ⟨d, d', rfl, q1⟩ := q1
  obtain ⟨v, u, rfl, m, m'⟩ := two_args n1
  exact ⟨v, u, rfl, k.nx _ _ W1 H1 (((r.step s1 ok1).set m).set m') (z.trans r.ok s1) s1.I q1⟩
/-! loops -/
theorem sd_forL {tg iter : Expr} {body : List Stmt} {l : List D} (hp : PassesOwn (model X.prog X.w) X.A X.env X.xe) (hc : X.calm = true) (Inv : Nat → En → Prop) (h : ED X B S iter fun d => (d = .lst l) ∧ Inv 0 S)
    (hs : ∀ (i : Nat) d S', l[i]? = some d → Inv i S' → GD X B W0 S' tg d fun S2 => SDs X B W0 S2 body { nx := Inv (i + 1), rt := E.rt, bk := E.nx, ct := Inv (i + 1) })
    (hd : ∀ S', Inv l.length S' → E.nx S') (hf : ∀ x, foldedSetIterable iter X.env x = pure x := by intro _; rfl) : SD X B W0 S (.For tg iter body [] pos) E := fun σ W H r z D' k => by
  refine PS.w (ps_for hp hc (pi_list we_pe) wg_pg wss_pss hf) ?_
  refine h σ W H r _ fun d v W1 H1 s1 ok1 n1 q1 => ?_
  obtain ⟨rfl, i0⟩ := q1
  cases n1 with
  | @lst _ a xs ha m =>
    refine ⟨a, rfl, ⟨xs, SqL.of (ok1.ex _ _ ha)⟩, for_list (K := X.K) (a := a) (xs := xs) (fun i σ' H' => ∃ S' W', Rep X.K (gOf X) B S' σ' W' H' ∧ Stp W0 B W' H' ∧ Ex W1.I W'.I ∧ Inv i S') ⟨S, W1, r.step s1 ok1, z.trans r.ok s1, Ex.refl _, i0⟩
      (fun i σ' H' _ ⟨S', W', r', _, e', _⟩ => SqL.of (r'.ok.ex _ _ (e' _ _ ha))) ?_ ?_⟩
    · rintro i x σ' H' hx ⟨S', W', r', z', e', i'⟩
      obtain ⟨d, hd', nd⟩ := m.get hx
      refine hs i d S' hd' i' σ' W' H' x r' z' (nd.mono e') _ fun S2 σ2 W2 H2 r2 z2 e2 q2 => ?_
      exact q2 σ2 W2 H2 r2 z2 _ ⟨fun S3 σ3 W3 H3 r3 z3 e3 q3 => ⟨S3, W3, r3, z3, (e'.trans e2).trans e3, q3⟩, fun d3 v3 W3 H3 r3 z3 e3 n3 q3 => k.rt d3 v3 W3 H3 r3 z3 (((s1.I.trans e').trans e2).trans e3) n3 q3,
        fun S3 σ3 W3 H3 r3 z3 e3 q3 => k.nx S3 σ3 W3 H3 r3 z3 (((s1.I.trans e').trans e2).trans e3) q3, fun S3 σ3 W3 H3 r3 z3 e3 q3 => ⟨S3, W3, r3, z3, (e'.trans e2).trans e3, q3⟩⟩
    · rintro σ' H' ⟨S', W', r', z', e', i'⟩
      rw [← m.length] at i'
      exact k.nx S' σ' W' H' r' z' (s1.I.trans e') (hd S' i')
theorem sd_forT {tg iter : Expr} {body : List Stmt} {l : List D} (hp : PassesOwn (model X.prog X.w) X.A X.env X.xe) (hc : X.calm = true) (Inv : Nat → En → Prop) (h : ED X B S iter fun d => (d = .tup l) ∧ Inv 0 S)
    (hs : ∀ (i : Nat) d S', l[i]? = some d → Inv i S' → GD X B W0 S' tg d fun S2 => SDs X B W0 S2 body { nx := Inv (i + 1), rt := E.rt, bk := E.nx, ct := Inv (i + 1) })
    (hd : ∀ S', Inv l.length S' → E.nx S') (hf : ∀ x, foldedSetIterable iter X.env x = pure x := by intro _; rfl) : SD X B W0 S (.For tg iter body [] pos) E := fun σ W H r z D' k => by
  refine PS.w (ps_for hp hc (pi_tup we_pe) wg_pg wss_pss hf) ?_
  refine h σ W H r _ fun d v W1 H1 s1 ok1 n1 q1 => ?_
  obtain ⟨rfl, i0⟩ := q1
  cases n1 with
  | @tup _ a xs ha m =>
    refine ⟨a, rfl, ⟨xs, SqT.of (ok1.ex _ _ ha)⟩, for_tup (K := X.K) (a := a) (xs := xs) (fun i σ' H' => ∃ S' W', Rep X.K (gOf X) B S' σ' W' H' ∧ Stp W0 B W' H' ∧ Ex W1.I W'.I ∧ Inv i S') ⟨S, W1, r.step s1 ok1, z.trans r.ok s1, Ex.refl _, i0⟩
      (fun i σ' H' _ ⟨S', W', r', _, e', _⟩ => SqT.of (r'.ok.ex _ _ (e' _ _ ha))) ?_ ?_⟩
    · rintro i x σ' H' hx ⟨S', W', r', z', e', i'⟩
      obtain ⟨d, hd', nd⟩ := m.get hx
      refine hs i d S' hd' i' σ' W' H' x r' z' (nd.mono e') _ fun S2 σ2 W2 H2 r2 z2 e2 q2 => ?_
      exact q2 σ2 W2 H2 r2 z2 _ ⟨fun S3 σ3 W3 H3 r3 z3 e3 q3 => ⟨S3, W3, r3, z3, (e'.trans e2).trans e3, q3⟩, fun d3 v3 W3 H3 r3 z3 e3 n3 q3 => k.rt d3 v3 W3 H3 r3 z3 (((s1.I.trans e').trans e2).trans e3) n3 q3,
        fun S3 σ3 W3 H3 r3 z3 e3 q3 => k.nx S3 σ3 W3 H3 r3 z3 (((s1.I.trans e').trans e2).trans e3) q3, fun S3 σ3 W3 H3 r3 z3 e3 q3 => ⟨S3, W3, r3, z3, (e'.trans e2).trans e3, q3⟩⟩
    · rintro σ' H' ⟨S', W', r', z', e', i'⟩
      rw [← m.length] at i'
      exact k.nx S' σ' W' H' r' z' (s1.I.trans e') (hd S' i')
theorem sd_forR {tg : Expr} {p pos1 : Pos} {n : Int} {body : List Stmt} (hp : PassesOwn (model X.prog X.w) X.A X.env X.xe) (hc : X.calm = true) (hm : X.mg "range" = none) (Inv : Nat → En → Prop) (h : AD X B S [e] fun as => as = [.val (.int n)] ∧ n < 2 ^ 62 ∧ -(2 ^ 62) ≤ n ∧ Inv 0 S)
    (hs : ∀ (i : Nat) S', i < n.toNat → Inv i S' → GD X B W0 S' tg (.int i) fun S2 => SDs X B W0 S2 body { nx := Inv (i + 1), rt := E.rt, bk := E.nx, ct := Inv (i + 1) })
    (hd : ∀ S', Inv n.toNat S' → E.nx S') (hg : Gl X "range" := by rfl) (hst : starEach [e] X.env = [(false, eval e X.env)] := by rfl) (hf : ∀ x, foldedSetIterable (.Call (.Name "range" p) [e] [] pos1) X.env x = pure x := by intro _; rfl) : SD X B W0 S (.For tg (.Call (.Name "range" p) [e] [] pos1) body [] pos) E := fun σ W H r z D' k => by
  refine PS.w (ps_for hp hc (pi_range1 hg hm wa_pa hst) wg_pg wss_pss hf) ?_
  refine h σ W H r _ fun as vs W1 H1 s1 ok1 n1 q1 => ?_
  obtain ⟨rfl, hn, hn2, i0⟩ := q1
  obtain ⟨v, rfl, m⟩ := one_arg n1
  cases m
  refine ⟨n, rfl, hn2, hn, for_range (lo := 0) (n := n.toNat) (fun i σ' H' => ∃ S' W', Rep X.K (gOf X) B S' σ' W' H' ∧ Stp W0 B W' H' ∧ Ex W1.I W'.I ∧ Inv i S') ⟨S, W1, r.step s1 ok1, z.trans r.ok s1, Ex.refl _, i0⟩ ?_ ?_⟩
  · rintro i σ' H' hi ⟨S', W', r', z', e', i'⟩
    rw [Int.zero_add]
    refine hs i S' hi i' σ' W' H' _ r' z' (.int _) _ fun S2 σ2 W2 H2 r2 z2 e2 q2 => ?_
    exact q2 σ2 W2 H2 r2 z2 _ ⟨fun S3 σ3 W3 H3 r3 z3 e3 q3 => ⟨S3, W3, r3, z3, (e'.trans e2).trans e3, q3⟩, fun d3 v3 W3 H3 r3 z3 e3 n3 q3 => k.rt d3 v3 W3 H3 r3 z3 (((s1.I.trans e').trans e2).trans e3) n3 q3,
      fun S3 σ3 W3 H3 r3 z3 e3 q3 => k.nx S3 σ3 W3 H3 r3 z3 (((s1.I.trans e').trans e2).trans e3) q3, fun S3 σ3 W3 H3 r3 z3 e3 q3 => ⟨S3, W3, r3, z3, (e'.trans e2).trans e3, q3⟩⟩
  · rintro σ' H' ⟨S', W', r', z', e', i'⟩
    exact k.nx S' σ' W' H' r' z' (s1.I.trans e') (hd S' i')
end

/-! ### a def by its body -/
def startE (N : List Str) (as : List Sl) : En := as.map some ++ List.replicate (N.length - as.length) none
theorem start_noT {K : PySem.W.Frag} {W : Wd} {N : List Str} {as : List Sl} {vs : List V} (h : Args K W as vs) (i : Nat) (l : List (List Key × D)) : (startE N as)[i]? ≠ some (some (.ownT l)) := by
  have key : ∀ {as : List Sl} {vs : List V} {n : Nat} {i : Nat}, Args K W as vs → (as.map some ++ List.replicate n none)[i]? = some (some (Sl.ownT l)) → False := by
    intro as vs n i h
    induction h generalizing i with
    | nil =>
      intro e
      simp only [List.map_nil, List.nil_append, List.getElem?_replicate] at e
      split at e <;> cases e
    | @cons a v as vs h1 _ ih =>
      intro e
      cases i with
      | zero =>
        simp only [List.map_cons, List.cons_append, List.getElem?_cons_zero, Option.some.injEq] at e
        subst e
        exact h1
      | succ i =>
        simp only [List.map_cons, List.cons_append, List.getElem?_cons_succ] at e
        exact ih e
  exact fun e => key h e
theorem rep_start {K : PySem.W.Frag} {g : List Code} {W : Wd} {H : Hp} {N : List Str} {as : List Sl} {vs : List V} (ok : Ok g W H) (h : Args K W as vs) : Rep K g H (startE N as) (L2.start N vs) W H := by
  have hl := Paired.length h
  refine ⟨ok, fun b hb => (ok.gd b hb).2.1, by unfold startE L2.start; simp [hl], fun i s e => ?_, fun i j l m p _ e => ?_, fun i j l m p _ e => absurd e (start_noT h i l)⟩
  · have key : ∀ {as : List Sl} {vs : List V} {n : Nat} {i : Nat} {s : Sl}, Args K W as vs → (as.map some ++ List.replicate n none)[i]? = some (some s) → ∃ v, (vs.map some ++ List.replicate n none)[i]? = some (some v) ∧ Arg K W s v := by
      intro as vs n i s h
      induction h generalizing i with
      | nil =>
        intro e
        simp only [List.map_nil, List.nil_append, List.getElem?_replicate] at e
        split at e <;> cases e
      | @cons a v as vs h1 _ ih =>
        intro e
        cases i with
        | zero =>
          simp only [List.map_cons, List.cons_append, List.getElem?_cons_zero, Option.some.injEq] at e
          subst e
          exact ⟨v, rfl, h1⟩
        | succ i =>
          simp only [List.map_cons, List.cons_append, List.getElem?_cons_succ] at e ⊢
          exact ih e
    unfold startE at e
    rw [show N.length - as.length = N.length - vs.length by rw [hl]] at e
    obtain ⟨v, e1, a1⟩ := key h e
    refine ⟨v, e1, ?_⟩
    cases s with
    | val d => exact a1
    | pot => exact a1
    | own l => exact a1.elim
    | inst _ _ _ _ => exact a1.elim
    | ownT _ => exact a1.elim
  · exfalso
    have key : ∀ {as : List Sl} {vs : List V} {n : Nat} {i : Nat}, Args K W as vs → (as.map some ++ List.replicate n none)[i]? = some (some (.own l)) → False := by
      intro as vs n i h
      induction h generalizing i with
      | nil =>
        intro e
        simp only [List.map_nil, List.nil_append, List.getElem?_replicate] at e
        split at e <;> cases e
      | @cons a v as vs h1 _ ih =>
        intro e
        cases i with
        | zero =>
          simp only [List.map_cons, List.cons_append, List.getElem?_cons_zero, Option.some.injEq] at e
          subst e
          exact h1
        | succ i =>
          simp only [List.map_cons, List.cons_append, List.getElem?_cons_succ] at e
          exact ih e
    exact key h e
section
variable {P : Program} {w : World} {K : PySem.W.Frag} {mg : Str → Option Value} {base : Heap}
theorem gOf_bx {N : List Str} {qual : Str} {st : Stmt} {f : Addr} {cdv : Value} {A : Around} {outer : List Env} {s : Shared} {H : Hp} {g : List Code} (h : A.guards = some g) : (Bx P w K mg base N qual st f cdv A outer s H).A.guards = some g ∧ gOf (Bx P w K mg base N qual st f cdv A outer s H) = g :=
  have e : (Bx P w K mg base N qual st f cdv A outer s H).A.guards = some g := deeper_guards h
  ⟨e, by unfold gOf; rw [e]; rfl⟩
theorem gn_dl {x qual : Str} {st : Stmt} {f : Addr} {fd : FuncData} {N ps : List Str} {k : Nat} {sp : SpD} (F : FunS K x qual st f fd) (hS : FnScope N ps (defScope st)) (len : ∀ as Q, sp as Q → as.length = ps.length)
    (body : ∀ cdv A outer s H, Room k (A.deeper (PyProof.Rows.envOfC qual (defScope st) s.heap.objs.size f cdv)) → (Bx P w K mg base N qual st f cdv A outer s H).A.guards = some (gOf (Bx P w K mg base N qual st f cdv A outer s H)) → ∀ W as Q, sp as Q → SDs (Bx P w K mg base N qual st f cdv A outer s H) H W (startE N as) (defBody st) { nx := fun _ => Q .non, rt := Q }) :
    GnOk P w K mg base (k + 1) f fd ps (lift K sp) := by
  refine gn_of F hS (fun g vs H Q h => ?_) (fun cdv A outer s H g vs R hr hG h => ?_)
  · obtain ⟨as, W, Qd, _, ha, hsp, _⟩ := h
    rw [← len _ _ hsp]
    exact (Paired.length ha).symm
  · obtain ⟨as, W, Qd, ok, ha, hsp, c⟩ := h
    obtain ⟨e1, e2⟩ := gOf_bx (P := P) (w := w) (K := K) (mg := mg) (base := base) (N := N) (qual := qual) (st := st) (f := f) (cdv := cdv) (outer := outer) (s := s) (H := H) hG
    refine ⟨WSs _ (defBody st), wss_pss, ?_⟩
    have bd := body cdv A outer s H hr (by rw [e2]; exact e1) W as Qd hsp
    refine bd (L2.start N vs) W H (by rw [e2]; exact rep_start ok ha) Stp.refl _ ?_
    rw [e2]
    exact ⟨fun S σ W' H' r z _ q => c .non .non W' H' z r.ok .non q, fun d v W' H' ok' z _ n q => c d v W' H' z ok' n q, fun _ _ _ _ _ _ _ q => q.elim, fun _ _ _ _ _ _ _ q => q.elim⟩
theorem df_of {x qual : Str} {st : Stmt} {f : Addr} {fd : FuncData} {ps : List Str} {k n : Nat} {sp : SpD} (F : FunS K x qual st f fd) (h : GnOk P w K mg base k f fd ps (lift K sp)) (hm : mg x = some (.ref f)) (hb : Binds K fd ps []) (hn : ps.length = n) : Df P w K mg base x k n sp :=
  ⟨f, fd, ps, h, hm, F.kp, hb, hn⟩
end
end DL

set_option Elab.async false
set_option linter.all false
set_option maxRecDepth 100000
set_option maxHeartbeats 2000000
namespace DL
open PySem L2

/-! ### lists that one name owns -/
theorem Ok.frz {g : List Code} {W : Wd} {H : Hp} {p : Addr} {o : HO} (ok : Ok g W H) (hp : H p = some o) (n : ¬ W.P p) (ng : ¬ InG g p) : Ok g (W.new p o) H where
  gd := fun b hb => by
    obtain ⟨n1, n2⟩ := ok.gd b hb
    refine ⟨?_, n2⟩
    show upd W.I p o b = none
    have ne : b ≠ p := fun z => ng (z ▸ hb)
    rw [upd_ne ne]
    exact n1
  ex := fun a u e => by
    have e' : upd W.I p o a = some u := e
    by_cases q : a = p
    · subst q
      rw [upd_same] at e'
      cases e'
      exact hp
    · rw [upd_ne q] at e'
      exact ok.ex a u e'
  pot := fun a pa => by
    obtain ⟨h, x⟩ := ok.pot a pa
    refine ⟨?_, x⟩
    show upd W.I p o a = none
    have ne : a ≠ p := fun z => n (z ▸ pa)
    rw [upd_ne ne]
    exact h
theorem Stp.frz {W W1 : Wd} {H H1 : Hp} {p : Addr} {o : HO} (a : Stp W H W1 H1) (hp : H p = none) (i : W1.I p = none) : Stp W H (W1.new p o) H1 where
  I := a.I.trans (Ex.new i)
  P := a.P
  keep := a.keep
  old := fun b u e t n => by
    show upd W1.I p o b = none
    rw [upd_ne (ne_of_none e hp)]
    exact a.old b u e t n
  oldP := a.oldP
/-- a new list, not yet part of what never changes -/
def ContF (K : PySem.W.Frag) (g : List Code) (W : Wd) (H : Hp) (Q : List D → Prop) (R : VK) : Prop := ∀ l p xs W' H', Stp W H W' H' → Ok g W' H' → H p = none → ¬ W'.P p → W'.I p = none → H' p = some (.lst xs) → Dns K W'.I l xs → Q l → R (.ref p) H'
def FD (X : Cx) (B : Hp) (S : En) (e : Expr) (Q : List D → Prop) : Prop := ∀ σ W H, Rep X.K (gOf X) B S σ W H → ∀ R, ContF X.K (gOf X) W H Q R → WE X e σ H R
/-- a tuple or a name: how an item comes to the names of a comprehension -/
def wipeE (S : En) : List Nat → En
  | [] => S
  | v :: vs => (wipeE S vs).set v none
theorem wipeE_some {S : En} {i : Nat} {x : Sl} : ∀ {vs : List Nat}, (wipeE S vs)[i]? = some (some x) → S[i]? = some (some x) ∧ i ∉ vs
  | [], h => ⟨h, by simp⟩
  | v :: vs, h => by
    unfold wipeE at h
    by_cases hi : v = i
    · subst hi
      by_cases hv : v < (wipeE S vs).length
      · rw [List.getElem?_set_self hv] at h; cases h
      · rw [List.getElem?_eq_none (by simpa using hv)] at h; cases h
    · rw [List.getElem?_set_ne hi] at h
      obtain ⟨h1, h2⟩ := wipeE_some h
      exact ⟨h1, by simp only [List.mem_cons, not_or]; exact ⟨fun e => hi e.symm, h2⟩⟩
theorem wipeE_length (S : En) : ∀ vs : List Nat, (wipeE S vs).length = S.length
  | [] => rfl
  | v :: vs => by unfold wipeE; rw [List.length_set, wipeE_length S vs]
theorem wipe_keep {σ : L2.St} {i : Nat} {x : V} : ∀ {vs : List Nat}, i ∉ vs → σ[i]? = some (some x) → (wipe σ vs)[i]? = some (some x)
  | [], _, h => h
  | v :: vs, hi, h => by
    unfold wipe
    simp only [List.mem_cons, not_or] at hi
    rw [List.getElem?_set_ne (fun e => hi.1 e.symm)]
    exact wipe_keep hi.2 h
theorem Rep.wipe {K : PySem.W.Frag} {g : List Code} {B : Hp} {S : En} {σ : L2.St} {W : Wd} {H : Hp} (r : Rep K g B S σ W H) (vs : List Nat) : Rep K g B (wipeE S vs) (L2.wipe σ vs) W H where
  ok := r.ok
  gb := r.gb
  len := by rw [wipeE_length, wipe_length]; exact r.len
  sl := fun i s e => by
    obtain ⟨e1, hi⟩ := wipeE_some e
    obtain ⟨v, e2, h⟩ := r.sl i s e1
    exact ⟨v, wipe_keep hi e2, h⟩
  dist := fun i j l m p n e1 e2 e3 => by
    obtain ⟨e1', _⟩ := wipeE_some e1
    obtain ⟨e2', hj⟩ := wipeE_some e2
    obtain ⟨e3', _⟩ := wipe_some e3
    intro e4
    obtain ⟨e4', _⟩ := wipe_some e4
    exact r.dist i j l m p n e1' e2' e3' e4'
  distT := fun i j l m p n e1 e2 e3 => by
    obtain ⟨e1', _⟩ := wipeE_some e1
    obtain ⟨e2', hj⟩ := wipeE_some e2
    obtain ⟨e3', _⟩ := wipe_some e3
    intro e4
    obtain ⟨e4', _⟩ := wipe_some e4
    exact r.distT i j l m p n e1' e2' e3' e4'
theorem wipe_set {σ : L2.St} {j : Nat} {x : Option V} : ∀ {vs : List Nat}, j ∈ vs → L2.wipe (σ.set j x) vs = L2.wipe σ vs
  | v :: vs, h => by
    unfold L2.wipe
    by_cases hv : j ∈ vs
    · rw [wipe_set hv]
    · have e : v = j := by
        rcases List.mem_cons.mp h with z | z
        · exact z.symm
        · exact absurd z hv
      subst e
      have key : ∀ ws : List Nat, v ∉ ws → L2.wipe (σ.set v x) ws = (L2.wipe σ ws).set v x := by
        intro ws
        induction ws with
        | nil => intro _; rfl
        | cons a ws ih =>
          intro hn
          simp only [List.mem_cons, not_or] at hn
          unfold L2.wipe
          rw [ih hn.2, List.set_comm _ _ (fun e => hn.1 e)]
      rw [key vs hv, List.set_set]
theorem wipe_wipe {σ : L2.St} {vs : List Nat} : L2.wipe (L2.wipe σ vs) vs = L2.wipe σ vs := by
  have key : ∀ ws : List Nat, (∀ w ∈ ws, w ∈ vs) → L2.wipe (L2.wipe σ ws) vs = L2.wipe σ vs := by
    intro ws
    induction ws with
    | nil => intro _; rfl
    | cons a ws ih =>
      intro h
      show L2.wipe ((L2.wipe σ ws).set a none) vs = _
      rw [wipe_set (h a List.mem_cons_self)]
      exact ih fun w hw => h w (List.mem_cons_of_mem _ hw)
  exact key vs fun _ h => h
/-- how the item d comes to the names in the slots vs: what the block then knows -/
def Pat (K : PySem.W.Frag) (g : TG) (vs : List Nat) (S : En) (d : D) (S' : En) : Prop := ∀ gs B σ W H v, Rep K gs B S σ W H → Dn K W.I d v → ∀ Q : L2.St → Hp → Prop, (∀ σ2, L2.wipe σ2 vs = L2.wipe σ vs → Rep K gs B S' σ2 W H → Q σ2 H) → g v (L2.wipe σ vs) H Q
theorem pat_name {K : PySem.W.Frag} {S : En} {d : D} {vs : List Nat} (j : Nat) (hj : j ∈ vs) : Pat K (gName j) vs S d ((wipeE S vs).set j (some (.val d))) := fun _ B σ W H v r n Q k =>
  k _ (by rw [wipe_set hj, wipe_wipe]) ((r.wipe vs).set n)
theorem pat_two {K : PySem.W.Frag} {S : En} {d d' : D} {vs : List Nat} (i j : Nat) (hi : i ∈ vs) (hj : j ∈ vs) : Pat K (gTup K 2 (gCons (gName i) (gCons (gName j) gNil))) vs S (.tup [d, d']) (((wipeE S vs).set i (some (.val d))).set j (some (.val d'))) := fun _ B σ W H v r n Q k => by
  cases n with
  | tup hp m =>
    cases m with
    | cons n1 m => cases m with
      | cons n2 m =>
        cases m
        exact ⟨_, _, rfl, SqT.of (r.ok.ex _ _ hp), rfl, _, _, rfl, _, _, rfl, rfl, k _ (by rw [wipe_set hj, wipe_set hi, wipe_wipe]) (((r.wipe vs).set n1).set n2)⟩
section
variable {X : Cx} {B : Hp} {W0 : Wd} {S : En} {e a b : Expr} {es : List Expr} {pos : Pos} {E : Ends'}
theorem ed_fd {Q : D → Prop} (h : FD X B S e fun l => Q (.lst l)) : ED X B S e Q := fun σ W H r R k => by
  refine h σ W H r R fun l p xs W' H' st ok hp n i hl d q => ?_
  exact k (.lst l) (.ref p) _ H' (st.frz hp i) (ok.frz hl n fun z => (r.ok.gd _ z).2.1 hp) (.lst (show upd W'.I p _ p = _ from upd_same) (d.mono (Ex.new i))) q
theorem fd_lst {Q : List D → Prop} (h : AD X B S es fun as => ∃ ds, as = ds.map Sl.val ∧ ds.length ≤ 100000 ∧ Q ds) : FD X B S (.List es pos) Q := fun σ W H r R k => by
  refine PE.w (pe_lst wa_pa) ?_
  refine h σ W H r _ fun as vs W1 H1 s1 ok1 n1 q1 => ?_
  obtain ⟨ds, rfl, hl, q1⟩ := q1
  have n := n1.vals
  refine ⟨Nat.le_trans (n.length ▸ hl) (by decide), fun p hp => ?_⟩
  exact k ds p vs W1 _ (s1.trans ok1 (Stp.own hp)) (ok1.own hp) (s1.free ok1 hp) (ok1.notP hp) (ok1.free hp) upd_same n q1
/-- x = a new list, which x owns -/
theorem Rep.setOwn {K : PySem.W.Frag} {g : List Code} {σ : L2.St} {W : Wd} {H : Hp} {i : Nat} {l : List D} {p : Addr} {xs : List V} (r : Rep K g B S σ W H) (hB : B p = none) (n : ¬ W.P p) (hi : W.I p = none) (hp : H p = some (.lst xs)) (d : Dns K W.I l xs)
    (new : ∀ (j : Nat) (m : List D), S[j]? = some (some (.own m)) → σ[j]? ≠ some (some (.ref p))) : Rep K g B (S.set i (some (.own l))) (σ.set i (some (.ref p))) W H where
  ok := r.ok
  gb := r.gb
  len := by simpa using r.len
  sl := fun j s e => by
    by_cases q : i = j
    · subst q
      by_cases z : i < S.length
      · rw [List.getElem?_set_self z] at e
        cases e
        exact ⟨_, List.getElem?_set_self (r.len ▸ z), p, xs, rfl, hB, n, hi, hp, d⟩
      · rw [List.getElem?_eq_none (by simpa using z)] at e
        cases e
    · rw [List.getElem?_set_ne q] at e ⊢
      exact r.sl j s e
  dist := fun a b la lb q ne e1 e2 e3 => by
    by_cases qa : i = a
    · subst qa
      have lt : i < σ.length := by
        rcases Nat.lt_or_ge i σ.length with z | z
        · exact z
        · rw [List.getElem?_eq_none (by simpa using z)] at e3; cases e3
      rw [List.getElem?_set_self lt] at e3
      cases e3
      rw [List.getElem?_set_ne ne] at e2 ⊢
      exact new b lb e2
    · rw [List.getElem?_set_ne qa] at e1 e3
      by_cases qb : i = b
      · subst qb
        intro e4
        have lt : i < σ.length := by
          rcases Nat.lt_or_ge i σ.length with z | z
          · exact z
          · rw [List.getElem?_eq_none (by simpa using z)] at e4; cases e4
        rw [List.getElem?_set_self lt] at e4
        cases e4
        exact new a la e1 e3
      · rw [List.getElem?_set_ne qb] at e2 ⊢
        exact r.dist a b la lb q ne e1 e2 e3
  distT := r.distT.set i fun l z => by cases z
theorem sd_own {x : Str} {pos' : Pos} (i : Nat) (hN : X.N.Nodup) (hi : X.N[i]? = some x) (h : FD X B S e fun l => E.nx (S.set i (some (.own l)))) (hx : Loc X.env.scope x := by first | exact Or.inl rfl | exact Or.inr rfl)
    (hs : swapsWith e (some (.Name x pos')) pos.line X.env = pure false := by rfl) (hf : X.fn x = true ∨ X.env.scope.names.lookup x = some .local := by first | exact .inl rfl | exact .inr rfl) : SD X B W0 S (.Assign [.Name x pos'] e pos) E := fun σ W H r z D' k =>
  PS.w (ps_set hN hi hx we_pe hs hf) (h σ W H r _ fun l p xs W1 H1 s1 ok1 hp n i1 hl d q1 => k.nx _ _ W1 H1 ((r.step s1 ok1).setOwn (z.free r.ok hp) n i1 hl d fun j m e1 e2 => by
    obtain ⟨v, e3, p2, ys, e4, _, _, _, h4, _⟩ := r.sl j _ e1
    rw [e2] at e3
    cases e3
    cases e4
    rw [hp] at h4
    cases h4) (z.trans r.ok s1) s1.I q1)
/-- x.append(e), x the owner of its list -/
theorem sd_append {x : Str} {px apos cpos : Pos} (i : Nat) (l : List D) (hN : X.N[i]? = some x) (h : S[i]? = some (some (.own l))) (hl : l.length < 100000) (he : ED X B S e fun d => E.nx (S.set i (some (.own (l ++ [d])))))
    (hv : Vis X.env.scope x := by first | exact Or.inl rfl | exact Or.inr (Or.inl rfl) | exact Or.inr (Or.inr rfl)) (hd : (x == ("__debug__" : Str)) = false := by decide) (hcd : (x == ("__classdict__" : Str)) = false := by decide)
    (hps : PE X (.Call (.Attribute (.Name x px) "append" apos) [e] [] cpos) (tBM X.K "list" rAppend (tVar i) (tCons (WE X e) tNil)) := by
      exact pe_bm PySem.F.plainAttrs_list PySem.F.slot_list_append PySem.F.type_list_append mt_append (pe_var (by rfl) (by first | exact Or.inl rfl | exact Or.inr (Or.inl rfl) | exact Or.inr (Or.inr rfl))) (pa_cons DL.we_pe pa_nil))
    (hs : swapsWith (.Call (.Attribute (.Name x px) "append" apos) [e] [] cpos) none pos.line X.env = pure false := by rfl) : SD X B W0 S (.Expr (.Call (.Attribute (.Name x px) "append" apos) [e] [] cpos) pos) E := fun σ W H r z D' k => by
  refine PS.w (ps_expr hps hs) ?_
  obtain ⟨v, e1, p, xs, ev, hB, n, hI, hH, d0⟩ := r.sl i _ h
  subst ev
  refine ⟨_, e1, .inl ⟨rfl, _, SqL.of hH⟩, ?_⟩
  refine he σ W H r _ fun d v W1 H1 s1 ok1 n1 q1 => ?_
  have hH1 : H1 p = some (.lst xs) := s1.keep _ _ hH n
  have nP : ¬ W1.P p := fun q => n (s1.oldP p _ hH q)
  have hI1 : W1.I p = none := s1.old p _ hH (fun _ z => by cases z) hI
  refine ⟨p, xs, v, rfl, rfl, hH1, Nat.lt_of_lt_of_le (d0.length ▸ hl) (by decide), ?_⟩
  have ok2 : Ok (gOf X) W1 (upd H1 p (.lst (xs ++ [v]))) := {
    gd := fun b hb => by
      obtain ⟨n1, n2⟩ := ok1.gd b hb
      refine ⟨n1, ?_⟩
      by_cases q : b = p
      · subst q
        rw [upd_same]
        exact ⟨(fun z => by cases z), (fun _ z => by cases z)⟩
      · rw [upd_ne q]
        exact n2
    ex := fun b o hb => by
      rw [upd_ne (fun y => by rw [y, hI1] at hb; cases hb)]
      exact ok1.ex b o hb
    pot := fun b hb => by
      obtain ⟨nb, y2, w2, h2⟩ := ok1.pot b hb
      have ne : b ≠ p := fun y => nP (y ▸ hb)
      exact ⟨nb, y2, w2, by rw [upd_ne ne]; exact h2⟩ }
  have z1 := z.trans r.ok s1
  have z2 : Stp W0 B W1 (upd H1 p (.lst (xs ++ [v]))) := ⟨z1.I, z1.P, fun b o hb hn => by rw [upd_ne (ne_of_none hb hB)]; exact z1.keep b o hb hn, z1.old, z1.oldP⟩
  have r1 := r.step s1 ok1
  have lt : i < S.length := (List.getElem?_eq_some_iff.mp h).1
  refine k.nx _ σ W1 _ ?_ z2 s1.I q1
  refine ⟨ok2, r.gb, by simpa using r.len, fun j s ej => ?_, fun a b la lb q ne e2 e3 e4 => ?_, r.distT.setS i fun l z => by cases z⟩
  · by_cases q : i = j
    · subst q
      rw [List.getElem?_set_self lt] at ej
      cases ej
      exact ⟨_, e1, p, _, rfl, hB, nP, hI1, upd_same, (d0.mono s1.I).append (.cons n1 .nil)⟩
    · rw [List.getElem?_set_ne q] at ej
      obtain ⟨v2, e2, h2⟩ := r1.sl j s ej
      refine ⟨v2, e2, ?_⟩
      cases s with
      | val d2 => exact h2
      | pot => exact h2
      | own m =>
        obtain ⟨p2, ys, rfl, b1, b2, b3, b4, b5⟩ := h2
        refine ⟨p2, ys, rfl, b1, b2, b3, ?_, b5⟩
        rw [upd_ne (fun y => by
          rw [y] at e2
          exact r.dist i j l m p q h ej e1 e2)]
        exact b4
      | ownT m =>
        obtain ⟨p2, ys, rfl, b1, b2, b3, b4, b5⟩ := h2
        refine ⟨p2, ys, rfl, b1, b2, b3, ?_, b5⟩
        rw [upd_ne (fun y => by rw [y, hH1] at b4; cases b4)]
        exact b4
      | inst C p2 dx fs =>
        obtain ⟨vs, rfl, b1, b2, b3, b4, b5, b6, b7, b8, b9, b10⟩ := h2
        refine ⟨vs, rfl, b1, b2, b3, b4, b5, b6, b7, ?_, ?_, b10⟩
        · rw [upd_ne (fun y => by rw [y, hH1] at b8; cases b8)]
          exact b8
        · rw [upd_ne (fun y => by rw [y, hH1] at b9; cases b9)]
          exact b9
  · have g : ∀ {c : Nat} {m : List D}, (S.set i (some (.own (l ++ [d]))))[c]? = some (some (.own m)) → ∃ m', S[c]? = some (some (.own m')) := fun {c m} ec => by
      by_cases q2 : i = c
      · subst q2
        exact ⟨l, h⟩
      · rw [List.getElem?_set_ne q2] at ec
        exact ⟨m, ec⟩
    obtain ⟨m1, g1⟩ := g e2
    obtain ⟨m2, g2⟩ := g e3
    exact r.dist a b m1 m2 q ne g1 g2 e4
/-- what a name owns is given away: from here on it never changes -/
theorem sds_frz {sts : List Stmt} (i : Nat) (l : List D) (h : S[i]? = some (some (.own l))) (k : SDs X B W0 (S.set i (some (.val (.lst l)))) sts E) : SDs X B W0 S sts E := fun σ W H r z D' q => by
  obtain ⟨v, e1, p, xs, ev, hB, n, hI, hH, d0⟩ := r.sl i _ h
  subst ev
  have st : Stp W0 B (W.new p (.lst xs)) H := z.frz hB hI
  have ok := r.ok.frz hH n fun z => r.gb _ z hB
  have lt : i < S.length := (List.getElem?_eq_some_iff.mp h).1
  refine k σ (W.new p (.lst xs)) H ?_ st D' (q.mono (Ex.new hI))
  refine ⟨ok, r.gb, by simpa using r.len, fun j s ej => ?_, fun a b la lb c ne e2 e3 e4 => ?_, r.distT.setS i fun l z => by cases z⟩
  · by_cases y : i = j
    · subst y
      rw [List.getElem?_set_self lt] at ej
      cases ej
      exact ⟨_, e1, .lst (show upd W.I p _ p = _ from upd_same) (d0.mono (Ex.new hI))⟩
    · rw [List.getElem?_set_ne y] at ej
      obtain ⟨v2, e2, h2⟩ := r.sl j s ej
      refine ⟨v2, e2, ?_⟩
      cases s with
      | val d2 => exact Dn.mono (Ex.new hI) h2
      | pot => exact h2
      | own m =>
        obtain ⟨p2, ys, rfl, b1, b2, b3, b4, b5⟩ := h2
        refine ⟨p2, ys, rfl, b1, b2, ?_, b4, b5.mono (Ex.new hI)⟩
        show upd W.I p _ p2 = none
        rw [upd_ne (fun y2 => by
          rw [y2] at e2
          exact r.dist i j l m p y h ej e1 e2)]
        exact b3
      | ownT m =>
        obtain ⟨p2, ys, rfl, b1, b2, b3, b4, b5⟩ := h2
        refine ⟨p2, ys, rfl, b1, b2, ?_, b4, b5.mono (Ex.new hI)⟩
        show upd W.I p _ p2 = none
        rw [upd_ne (fun y2 => by rw [y2, hH] at b4; cases b4)]
        exact b3
      | inst C p2 dx fs =>
        obtain ⟨vs, rfl, b1, b2, b3, b4, b5, b6, b7, b8, b9, b10⟩ := h2
        refine ⟨vs, rfl, b1, b2, b3, b4, b5, ?_, ?_, b8, b9, b10.mono (Ex.new hI)⟩
        · show upd W.I p _ p2 = none
          rw [upd_ne (fun y => by rw [y, hH] at b8; cases b8)]
          exact b6
        · show upd W.I p _ dx = none
          rw [upd_ne (fun y => by rw [y, hH] at b9; cases b9)]
          exact b7
  · have g : ∀ {c : Nat} {m : List D}, (S.set i (some (.val (.lst l))))[c]? = some (some (.own m)) → S[c]? = some (some (.own m)) := fun {c m} ec => by
      by_cases q2 : i = c
      · subst q2
        rw [List.getElem?_set_self lt] at ec
        cases ec
      · rw [List.getElem?_set_ne q2] at ec
        exact ec
    exact r.dist a b la lb c ne (g e2) (g e3) e4

/-! ### comprehensions -/
/-- the weakest reading over all blocks -/
def WEb (X : Cx) (scope : Scope) (e : Expr) : TE := fun σ H Q => ∀ (s : Shared) (H0 : Hp) (C : Addr) (cl : List (Str × Addr)) (fp : List Addr), WE (X.blk s H0 scope (compEnvC scope cl C X.env) fp) e σ H Q
def WTb (X : Cx) (scope : Scope) (e : Expr) : TT := fun σ H Q => ∀ (s : Shared) (H0 : Hp) (C : Addr) (cl : List (Str × Addr)) (fp : List Addr), WT (X.blk s H0 scope (compEnvC scope cl C X.env) fp) e σ H Q
theorem web_pe {scope : Scope} (s : Shared) (H0 : Hp) (C : Addr) (cl : List (Str × Addr)) (fp : List Addr) : PE (X.blk s H0 scope (compEnvC scope cl C X.env) fp) e (WEb X scope e) := ⟨fun pins s2 _ _ _ I h => h s H0 C cl fp pins s2 I⟩
theorem wtb_pt {scope : Scope} (s : Shared) (H0 : Hp) (C : Addr) (cl : List (Str × Addr)) (fp : List Addr) : PT (X.blk s H0 scope (compEnvC scope cl C X.env) fp) e (WTb X scope e) := ⟨fun pins s2 _ _ _ I h => h s H0 C cl fp pins s2 I⟩
/-- at an address of one's own: the list so far -/
structure Mid (K : PySem.W.Frag) (g : List Code) (W1 : Wd) (H1 : Hp) (p : Addr) (l : List D) (W : Wd) (H : Hp) : Prop where
  st : Stp W1 H1 W H
  ok : Ok g W H
  n : ¬ W.P p
  i : W.I p = none
  h : ∃ xs, H p = some (.lst xs) ∧ Dns K W.I l xs
theorem Mid.step {K : PySem.W.Frag} {g : List Code} {W1 W W2 : Wd} {H1 H H2 : Hp} {p : Addr} {l : List D} (m : Mid K g W1 H1 p l W H) (a : Stp W H W2 H2) (ok : Ok g W2 H2) : Mid K g W1 H1 p l W2 H2 := by
  obtain ⟨xs, hp, d⟩ := m.h
  exact ⟨m.st.trans m.ok a, ok, fun z => m.n (a.oldP p _ hp z), a.old p _ hp (fun _ z => by cases z) m.i, xs, a.keep p _ hp m.n, d.mono a.I⟩
theorem Mid.more {K : PySem.W.Frag} {g : List Code} {W1 W : Wd} {H1 H : Hp} {p : Addr} {l : List D} {d : D} {v : V} (hp0 : H1 p = none) (m : Mid K g W1 H1 p l W H) (hd : Dn K W.I d v) (hl : l.length < 100000) :
    ∃ acc, H p = some (.lst acc) ∧ acc.length < sizeLine ∧ Mid K g W1 H1 p (l ++ [d]) W (upd H p (.lst (acc ++ [v]))) := by
  obtain ⟨xs, hp, ds⟩ := m.h
  refine ⟨xs, hp, Nat.lt_of_lt_of_le (ds.length ▸ hl) (by decide), ?_, ?_, m.n, m.i, _, upd_same, ds.append (.cons hd .nil)⟩
  · exact ⟨m.st.I, m.st.P, fun b o hb hn => by rw [upd_ne (ne_of_none hb hp0)]; exact m.st.keep b o hb hn, m.st.old, m.st.oldP⟩
  · exact {
      gd := fun b hb => by
        obtain ⟨n1, n2⟩ := m.ok.gd b hb
        refine ⟨n1, ?_⟩
        by_cases q : b = p
        · subst q
          rw [upd_same]
          exact ⟨(fun z => by cases z), (fun _ z => by cases z)⟩
        · rw [upd_ne q]
          exact n2
      ex := fun b o hb => by
        rw [upd_ne (fun y => by rw [y, m.i] at hb; cases hb)]
        exact m.ok.ex b o hb
      pot := fun b hb => by
        obtain ⟨nb, y2, w2, h2⟩ := m.ok.pot b hb
        have ne : b ≠ p := fun y => m.n (y ▸ hb)
        exact ⟨nb, y2, w2, by rw [upd_ne ne]; exact h2⟩ }
/-- [elt for g in a list], without a test -/
theorem fd_lcL {elt tg iter : Expr} {scope : Scope} {own : List (Str × Nat)} {g : TG} {l : List D} {Q : List D → Prop} (J : Nat → List D → Prop) (S' : D → En) (hc : X.calm = true) (hN : X.N.Nodup) (ok : BlkOk X.N X.env.scope scope own)
    (hg : ∀ (s : Shared) (H : Hp) (C : Addr) (cl : List (Str × Addr)) (fp : List Addr), PG (X.blk s H scope (compEnvC scope cl C X.env) fp) tg g)
    (h : ED X B S iter fun d => d = .lst l ∧ l.length ≤ 50000 ∧ J 0 []) (hp : ∀ d ∈ l, Pat X.K g (own.map (·.2)) S d (S' d))
    (he : ∀ (i : Nat) d acc, l[i]? = some d → acc.length = i → J i acc → ∀ (s : Shared) (H0 : Hp) (C : Addr) (cl : List (Str × Addr)) (fp : List Addr), ED (X.blk s H0 scope (compEnvC scope cl C X.env) fp) B (S' d) elt fun y => J (i + 1) (acc ++ [y]))
    (hd : ∀ acc, acc.length = l.length → J l.length acc → Q acc) (hs : ∀ x, foldedSetIterable iter X.env x = pure x := by intro _; rfl) : FD X B S (.ListComp elt [⟨tg, iter, [], 0⟩] scope pos) Q := fun σ W H r R k => by
  refine PE.w (pe_lc (te := WEb X scope elt) hc hN (pi_list we_pe) ok hg (fun _ _ _ _ _ => pts_nil) web_pe hs) ?_
  refine h σ W H r _ fun d v W1 H1 s1 ok1 n1 q1 => ?_
  obtain ⟨rfl, hz, j0⟩ := q1
  cases n1 with
  | @lst _ a xs ha m =>
    refine ⟨a, rfl, ⟨xs, SqL.of (ok1.ex _ _ ha)⟩, fun p hp0 => ?_⟩
    have r1 := r.step s1 ok1
    refine lc_list (K := X.K) (a := a) (xs := xs) (fun i H' => ∃ acc W', Mid X.K (gOf X) W1 H1 p acc W' H' ∧ acc.length = i ∧ J i acc) ⟨[], W1, ⟨Stp.own hp0, ok1.own hp0, ok1.notP hp0, ok1.free hp0, [], upd_same, .nil⟩, rfl, j0⟩
      (fun i H' _ ⟨acc, W', mm, _⟩ => SqL.of (mm.ok.ex _ _ (mm.st.I _ _ ha))) ?_ ?_
    · rintro i x H' hx ⟨acc, W', mm, hl, j⟩
      obtain ⟨d, hd', nd⟩ := m.get hx
      have r2 := r1.step mm.st mm.ok
      refine hp d (List.mem_of_getElem? hd') (gOf X) B σ W' H' x r2 (nd.mono mm.st.I) _ fun σ2 e2 r3 => ⟨e2, ?_⟩
      show WEb X scope elt σ2 H' _
      intro s H0 C cl fp
      refine he i d acc hd' hl j s H0 C cl fp σ2 W' H' r3 _ fun y v W2 H2 s2 ok2 n2 q2 => ?_
      have lt : i < l.length := (List.getElem?_eq_some_iff.mp hd').1
      obtain ⟨xs', e1, e3, m3⟩ := (mm.step s2 ok2).more hp0 n2 (by omega)
      exact ⟨xs', e1, e3, _, W2, m3, by simp [hl], q2⟩
    · rintro H' ⟨acc, W', mm, hl, j⟩
      obtain ⟨ys, hH, ds⟩ := mm.h
      rw [← m.length] at hl j
      exact k acc p ys W' H' (s1.trans ok1 mm.st) mm.ok (s1.free ok1 hp0) mm.n mm.i hH ds (hd acc hl j)
/-- .. over a range -/
theorem fd_lcR {elt tg : Expr} {p1 pos1 : Pos} {scope : Scope} {own : List (Str × Nat)} {n : Int} {Q : List D → Prop} (J : Nat → List D → Prop) (S' : D → En) {g : TG} (hc : X.calm = true) (hN : X.N.Nodup) (hm : X.mg "range" = none) (ok : BlkOk X.N X.env.scope scope own)
    (hg : ∀ (s : Shared) (H : Hp) (C : Addr) (cl : List (Str × Addr)) (fp : List Addr), PG (X.blk s H scope (compEnvC scope cl C X.env) fp) tg g)
    (h : AD X B S [e] fun as => as = [.val (.int n)] ∧ -(2 ^ 62) ≤ n ∧ n ≤ 50000 ∧ J 0 []) (hp : ∀ d, Pat X.K g (own.map (·.2)) S d (S' d))
    (he : ∀ (i : Nat) acc, (i : Int) < n → acc.length = i → J i acc → ∀ (s : Shared) (H0 : Hp) (C : Addr) (cl : List (Str × Addr)) (fp : List Addr), ED (X.blk s H0 scope (compEnvC scope cl C X.env) fp) B (S' (.int i)) elt fun y => J (i + 1) (acc ++ [y]))
    (hd : ∀ acc, acc.length = n.toNat → J n.toNat acc → Q acc) (hgl : Gl X "range" := by rfl) (hst : starEach [e] X.env = [(false, eval e X.env)] := by rfl)
    (hs : ∀ x, foldedSetIterable (.Call (.Name "range" p1) [e] [] pos1) X.env x = pure x := by intro _; rfl) : FD X B S (.ListComp elt [⟨tg, .Call (.Name "range" p1) [e] [] pos1, [], 0⟩] scope pos) Q := fun σ W H r R k => by
  refine PE.w (pe_lc (te := WEb X scope elt) hc hN (pi_range1 hgl hm wa_pa hst) ok hg (fun _ _ _ _ _ => pts_nil) web_pe hs) ?_
  refine h σ W H r _ fun as vs W1 H1 s1 ok1 n1 q1 => ?_
  obtain ⟨rfl, hz, hz2, j0⟩ := q1
  obtain ⟨v, rfl, m⟩ := one_arg n1
  cases m
  refine ⟨n, rfl, hz, by omega, fun p hp0 => ?_⟩
  have r1 := r.step s1 ok1
  refine lc_range (lo := 0) (n := n.toNat) (fun i H' => ∃ acc W', Mid X.K (gOf X) W1 H1 p acc W' H' ∧ acc.length = i ∧ J i acc) ⟨[], W1, ⟨Stp.own hp0, ok1.own hp0, ok1.notP hp0, ok1.free hp0, [], upd_same, .nil⟩, rfl, j0⟩ ?_ ?_
  · rintro i H' hi ⟨acc, W', mm, hl, j⟩
    rw [Int.zero_add]
    have r2 := r1.step mm.st mm.ok
    refine hp (.int i) (gOf X) B σ W' H' _ r2 (.int _) _ fun σ2 e2 r3 => ⟨e2, ?_⟩
    show WEb X scope elt σ2 H' _
    intro s H0 C cl fp
    refine he i acc (by omega) hl j s H0 C cl fp σ2 W' H' r3 _ fun y v W2 H2 s2 ok2 n2 q2 => ?_
    obtain ⟨xs', e1, e3, m3⟩ := (mm.step s2 ok2).more hp0 n2 (by omega)
    exact ⟨xs', e1, e3, _, W2, m3, by simp [hl], q2⟩
  · rintro H' ⟨acc, W', mm, hl, j⟩
    obtain ⟨ys, hH, ds⟩ := mm.h
    exact k acc p ys W' H' (s1.trans ok1 mm.st) mm.ok (s1.free ok1 hp0) mm.n mm.i hH ds (hd acc hl j)
end
end DL

set_option Elab.async false
set_option linter.all false
set_option maxRecDepth 100000
set_option maxHeartbeats 4000000
/-! operators of own classes, also with ints on either side -/
namespace OwnOps
open PySem PySem.W PySem.Calls
section
variable {prog : Program} {w : World} {A : Around} {E : Value → Shared → Prop} {s : Shared} {K : Frag} {x C f g : Addr} {ox : Obj} {od : Option Obj} {op : Operator} {i : Int} {t : Tok}
/-- a class stands first in its own order -/
theorem first_of (hc : selfFirst K C = true) : ∃ cd rest, clsIn K C = some cd ∧ cd.mro = .ref C :: rest := by
  unfold selfFirst at hc
  cases q : clsIn K C with
  | none =>
    rw [q] at hc
    exact absurd hc (by simp)
  | some cd =>
    rw [q] at hc
    match e : cd.mro, hc with
    | [], hc => simp [e] at hc
    | a :: r, hc =>
      have z : a = Value.ref C := by simpa [e] using hc
      exact ⟨cd, r, rfl, by rw [z] at e; exact e⟩
theorem slotPy {M : Model} {h : Heap} {nm : String} (X : K.In h) (h1 : findIn K (.ref C) (PySem.dunder nm) = some (some (.ref f))) (h2 : findIn K (.ref C) (dunderR nm) = some (some (.ref g))) : Looks M h (numberSlotInPython (.ref C) nm) true := by
  intro A Q E s k q
  unfold numberSlotInPython
  refine wpAny_bind (looks_findIn X h1 A _ E s k ?_)
  refine wpAny_bind ?_
  show wpAny M A (pure true) _ _ _
  refine wpAny_pure (wpAny_bind (looks_findIn X h2 A _ E s k (wpAny_bind ?_)))
  show wpAny M A (pure true) _ _ _
  refine wpAny_pure ?_
  rw [if_pos (by rfl)]
  exact wpAny_pure q
/-- own + int -/
theorem own_int {Q : Value → Shared → Prop} (X : K.In s.heap) (I : InstAt s.heap x ox C od) (hc : selfFirst K C = true) (hs : findIn K (.ref C) (PySem.dunder op.info.2) = some (some (.ref f))) (hr : findIn K (.ref C) (dunderR op.info.2) = some (some (.ref g)))
    (hf : isFn K (.ref f) = true) (hsub : subIn K (.type "int") (.ref C) = some false) (hint : fillsNumberSlot (.type "int") op.info.2 = pure true) (hl : ∃ r, findIn K (.type "int") (dunderR op.info.2) = some r)
    (h : wpAny (model prog w) A (call (.ref f) [.ref x, .int i t]) (CmpBack Q) E s) : wpAny (model prog w) A (binaryOp op (.ref x) (.int i t)) Q E s := by
  obtain ⟨cd, rest, hcd, hm⟩ := first_of hc
  obtain ⟨r, hl⟩ := hl
  rcases hi : op.info with ⟨sym, nm⟩
  rw [hi] at hs hr hint hl
  have hpy : numberSlotInPython (.type "int") nm = pure false := rfl
  simp only [binaryOp, hi]
  refine wpAny_holding (wpAny_bind ?_)
  unfold binaryOp1
  refine wpAny_bind (I.type.here (wpAny_bind (wpAny_typeOf (typeIs_int _ _ _) (wpAny_bind ((fills_K X hcd hm hs).here ?_)))))
  have hne : (Value.ref C == Value.type "int") = false := rfl
  simp only [hne, Bool.false_eq_true, if_false]
  refine wpAny_bind (wpAny_of_eq hint ?_)
  simp only [Bool.and_self, if_true]
  refine wpAny_bind ((looks_subIn X hsub).here ?_)
  simp only [Bool.false_eq_true, if_false, Bool.not_false, Bool.and_self, if_true, pure_bind]
  refine wpAny_bind ((slotPy X hs hr).here ?_)
  simp only [if_true, hpy, pure_bind, Bool.not_false]
  refine wpAny_bind ((looks_findIn X hl).here ?_)
  refine wpAny_bind (m := tryMethod (.ref x) _ _) ?_
  unfold tryMethod
  refine wpAny_bind (special_fn X I hs (beq_iff_eq.mp hf) (wpAny_mono h (fun v s' hv => ?_) fun _ _ e => e))
  cases v <;> first | exact hv.elim | exact wpAny_pure (wpAny_pure (wpAny_pure hv))
end
end OwnOps
namespace OwnOps
open PySem PySem.W PySem.Calls
section
variable {prog : Program} {w : World} {A : Around} {E : Value → Shared → Prop} {s : Shared} {K : Frag} {x C f g L : Addr} {ox : Obj} {od : Option Obj} {i : Int} {t : Tok} {h₀ : Heap} {m : Str → Option Value} {b tb : Value}
end
end OwnOps

set_option Elab.async false
set_option linter.all false
set_option maxRecDepth 100000
set_option maxHeartbeats 2000000
namespace DL
open PySem L2

/-! ### objects -/
/-- a method of the class at C -/
structure Mt (P : Program) (w : World) (K : PySem.W.Frag) (mg : Str → Option Value) (base : Heap) (C : Addr) (m : Str) (k : Nat) (sp : SpD) : Prop where
  ex : ∃ f fd ps, GnOk P w K mg base k f fd ps (lift K sp) ∧ Meth K C m f ∧ Binds K fd ps []
/-- a property of the class at C -/
structure Pr (P : Program) (w : World) (K : PySem.W.Frag) (mg : Str → Option Value) (base : Heap) (C : Addr) (m : Str) (k : Nat) (sp : SpD) : Prop where
  ex : ∃ p f fd ps, GnOk P w K mg base k f fd ps (lift K sp) ∧ PropOf K C m p f ∧ Binds K fd ps []
section
variable {X : Cx} {B : Hp} {S : En} {pos p apos : Pos} {Q : D → Prop} {e o : Expr} {es : List Expr} {x m f : Str} {k n : Nat} {sp : SpD} {C : Addr}
theorem ed_fld (c : Cls X.K C) (na : NoAttr X.K C f) (h : ED X B S o fun x => ∃ fs d, x = .obj C fs ∧ fs.lookup f = some d ∧ Q d) (hb : attributeBase o f X.env (eval o X.env) = eval o X.env := by rfl) : ED X B S (.Attribute o f pos) Q := fun σ W H r R k => by
  refine PE.w (pe_fld we_pe hb) ?_
  refine h σ W H r _ fun d v W1 H1 s1 ok1 n1 q1 => ?_
  obtain ⟨fs, d', rfl, l, q1⟩ := q1
  cases n1 with
  | obj ha m =>
    obtain ⟨v', e1, n2⟩ := m.look l
    exact ⟨_, C, _, _, v', rfl, ok1.ex _ _ ha, c, na, e1, (k.step s1 ok1).now ok1 n2 q1⟩
theorem ed_prop (c : Cls X.K C) (F : Pr X.prog X.w X.K X.mg X.base C f k sp) (hr : Room (k + 1) X.A) (hG : X.A.guards = some (gOf X)) (h : ED X B S o fun x => ∃ fs, x = .obj C fs ∧ sp [.val x] Q) (hb : attributeBase o f X.env (eval o X.env) = eval o X.env := by rfl) : ED X B S (.Attribute o f pos) Q := fun σ W H r R c' => by
  obtain ⟨pp, g, fd, ps, F, hp, bb⟩ := F.ex
  refine we_prop c hp F hr hG bb .nil ?_ hb
  refine h σ W H r _ fun d v W1 H1 s1 ok1 n1 q1 => ?_
  obtain ⟨fs, rfl, q1⟩ := q1
  cases id n1 with
  | obj ha m => exact ⟨_, _, _, rfl, ok1.ex _ _ ha, [.val (.obj C fs)], W1, Q, ok1, .cons n1 .nil, q1, c'.step s1 ok1⟩
theorem ed_meth {pl : Sem Bool} (c : Cls X.K C) (F : Mt X.prog X.w X.K X.mg X.base C m k sp) (hr : Room k X.A) (hG : X.A.guards = some (gOf X)) (h : ED X B S o fun x => ∃ fs, x = .obj C fs ∧ fs.lookup m = none ∧ AD X B S (e :: es) fun as => sp (.val x :: as) Q)
    (hst : starEach (e :: es) X.env = (false, eval e X.env) :: starEach es X.env := by rfl) (hpl : (backTo pos (starEach es X.env)).any (·.1) = false := by rfl)
    (ht : eval (.Call (.Attribute o m apos) (e :: es) [] pos) X.env = (do
      let ov ← eval o X.env
      standAt apos.atName
      let (f, first) ← holding [ov] (getMethod ov m pl)
      callWith pos f first (backTo pos (starEach (e :: es) X.env)) (backToKw pos (keywordEach [] X.env))) := by rfl) : ED X B S (.Call (.Attribute o m apos) (e :: es) [] pos) Q := fun σ W H r R c' => by
  obtain ⟨f, fd, ps, F, M, bb⟩ := F.ex
  refine we_meth c M F hr hG bb .nil ?_ hst hpl ht
  refine h σ W H r _ fun d v W1 H1 s1 ok1 n1 q1 => ?_
  obtain ⟨fs, rfl, l, q1⟩ := q1
  cases id n1 with
  | obj ha mm =>
    refine ⟨_, _, _, rfl, ok1.ex _ _ ha, mm.nolook l, ?_⟩
    refine q1 σ W1 H1 (r.step s1 ok1) _ fun as vs W2 H2 s2 ok2 n2 q2 => ?_
    rw [List.append_nil]
    exact ⟨.val (.obj C fs) :: as, W2, Q, ok2, .cons (show Arg X.K W2 (.val (.obj C fs)) _ from n1.mono s2.I) n2, q2, (c'.step s1 ok1).step s2 ok2⟩
theorem ed_meth0 {pl : Sem Bool} (c : Cls X.K C) (F : Mt X.prog X.w X.K X.mg X.base C m k sp) (hr : Room k X.A) (hG : X.A.guards = some (gOf X)) (h : ED X B S o fun x => ∃ fs, x = .obj C fs ∧ fs.lookup m = none ∧ sp [.val x] Q)
    (ht : eval (.Call (.Attribute o m apos) [] [] pos) X.env = (do
      let ov ← eval o X.env
      standAt apos.atName
      let (f, first) ← holding [ov] (getMethod ov m pl)
      callWith pos f first (backTo pos (starEach [] X.env)) (backToKw pos (keywordEach [] X.env))) := by rfl) : ED X B S (.Call (.Attribute o m apos) [] [] pos) Q := fun σ W H r R c' => by
  obtain ⟨f, fd, ps, F, M, bb⟩ := F.ex
  refine we_meth0 c M F hr hG bb .nil ?_ ht
  refine h σ W H r _ fun d v W1 H1 s1 ok1 n1 q1 => ?_
  obtain ⟨fs, rfl, l, q1⟩ := q1
  cases id n1 with
  | obj ha mm =>
    refine ⟨_, _, _, rfl, ok1.ex _ _ ha, mm.nolook l, ?_⟩
    show lift X.K sp (gOf X) (V.ref _ :: []) H1 R
    exact ⟨[.val (.obj C fs)], W1, Q, ok1, .cons n1 .nil, q1, c'.step s1 ok1⟩
end

/-! ### objects made -/
abbrev SpI := List Sl → (List (Str × D) → Prop) → Prop
def liftI (K : PySem.W.Frag) (C : Addr) (sp : SpI) : SpG := fun g vs H R => ∃ (p dx : Addr) (us : List V) (H1 : Hp) (W : Wd) (as : List Sl) (Q : List (Str × D) → Prop), vs = .ref p :: us ∧ H = upd (upd H1 dx (.own p)) p (.ins C dx []) ∧ H1 p = none ∧ H1 dx = none ∧ dx ≠ p ∧
  Ok g W H1 ∧ Args K W as us ∧ sp as Q ∧ ∀ fs vs2 W' H', Stp W H1 W' H' → Ok g W' H' → ¬ W'.P p → W'.I p = none → H' p = some (.ins C dx vs2) → Dnf K W'.I fs vs2 → Q fs → R .non H'
/-- the class that the module calls x, at C; ds: what its last parameters are without arguments -/
structure Kl (P : Program) (w : World) (K : PySem.W.Frag) (mg : Str → Option Value) (base : Heap) (x : Str) (C : Addr) (k : Nat) (dds : List D) (sp : SpI) : Prop where
  ex : ∃ f fd ps dvs ds, GnOk P w K mg base k f fd ps (liftI K C sp) ∧ Mk K C f ∧ mg x = some (.ref C) ∧ Binds K fd ps ds ∧ Vals dvs ds ∧ ∀ I, Dns K I dds dvs
section
variable {X : Cx} {B : Hp} {S : En} {pos p apos : Pos} {Q : D → Prop} {e o : Expr} {es : List Expr} {x m f : Str} {k n : Nat} {sp : SpI} {C : Addr} {dds : List D}
theorem Args.data {K : PySem.W.Frag} {W : Wd} : ∀ {ds : List D} {vs : List V}, Dns K W.I ds vs → Args K W (ds.map Sl.val) vs
  | _, _, .nil => .nil
  | _, _, .cons h r => .cons h (Args.data r)
theorem Args.append {K : PySem.W.Frag} {W : Wd} : ∀ {as bs : List Sl} {vs us : List V}, Args K W as vs → Args K W bs us → Args K W (as ++ bs) (vs ++ us)
  | _, _, _, _, .nil, s => s
  | _, _, _, _, .cons h r, s => .cons h (Args.append r s)
theorem cont_make {K : PySem.W.Frag} {g : List Code} {W : Wd} {H : Hp} {R : VK} (c : Cont K g W H Q R) {as : List Sl} {vs : List V} (ok : Ok g W H) (n : Args K W as vs) (q : sp as fun fs => Q (.obj C fs)) : ∀ x dx, H x = none → H dx = none → dx ≠ x → liftI K C sp g (.ref x :: vs) (upd (upd H dx (.own x)) x (.ins C dx [])) (fun v H2 => v = .non ∧ R (.ref x) H2) := fun x dx hx hdx ne =>
  ⟨x, dx, vs, H, W, as, _, rfl, rfl, hx, hdx, ne, ok, n, q, fun fs vs2 W' H' st ok' nP i hp d q2 => ⟨rfl, c (.obj C fs) (.ref x) _ H' (st.frz hx i) (ok'.frz hp nP fun z => (ok.gd _ z).2.1 hx) (.obj (show upd W'.I x _ x = _ from upd_same) (d.mono (Ex.new i))) q2⟩⟩
/-- C(e, ..), the rest of its parameters as they are without arguments -/
theorem ed_make (F : Kl X.prog X.w X.K X.mg X.base x C k dds sp) (hr : Room (k + 1) X.A) (hG : X.A.guards = some (gOf X)) (h : AD X B S (e :: es) fun as => sp (as ++ dds.map Sl.val) fun fs => Q (.obj C fs)) (hg : Gl X x := by rfl) (hdb : (x == ("__debug__" : Str)) = false := by decide)
    (he : starEach (e :: es) X.env = (false, eval e X.env) :: starEach es X.env := by rfl) (hpl : (backTo pos (starEach es X.env)).any (·.1) = false := by rfl) : ED X B S (.Call (.Name x p) (e :: es) [] pos) Q := fun σ W H r R c => by
  obtain ⟨f, fd, ps, dvs, ds, F, M, hm, hb, hd, hD⟩ := F.ex
  refine we_make M F hr hG hg hm hb hd ?_ hdb he hpl
  refine h σ W H r _ fun as vs W1 H1 s1 ok1 n1 q1 => ?_
  intro y dy hy hdy ne
  exact cont_make (c.step s1 ok1) ok1 (n1.append (Args.data (hD W1.I))) q1 y dy hy hdy ne
/-- C(e, ..), all parameters given -/
theorem ed_makeA {sp : SpI} (F : Kl X.prog X.w X.K X.mg X.base x C k [] sp) (hr : Room (k + 1) X.A) (hG : X.A.guards = some (gOf X)) (h : AD X B S (e :: es) fun as => sp as fun fs => Q (.obj C fs)) (hg : Gl X x := by rfl) (hdb : (x == ("__debug__" : Str)) = false := by decide)
    (he : starEach (e :: es) X.env = (false, eval e X.env) :: starEach es X.env := by rfl) (hpl : (backTo pos (starEach es X.env)).any (·.1) = false := by rfl) : ED X B S (.Call (.Name x p) (e :: es) [] pos) Q :=
  ed_make F hr hG (by simpa using h) hg hdb he hpl
end
/-! __init__ -/
def putD (f : Str) (d : D) : List (Str × D) → List (Str × D)
  | [] => [(f, d)]
  | (g, e) :: r => if g = f then (g, d) :: r else (g, e) :: putD f d r
theorem Dnf.put {K : PySem.W.Frag} {I : Hp} {f : Str} {d : D} {v : V} (h : Dn K I d v) : ∀ {fs : List (Str × D)} {vs : List (Str × V)}, Dnf K I fs vs → Dnf K I (putD f d fs) (putF f v vs)
  | _, _, .nil => .cons h .nil
  | _, _, .cons (f := g) q r => by
    unfold putD putF
    by_cases e : g = f
    · rw [if_pos e, if_pos e]
      exact .cons h r
    · rw [if_neg e, if_neg e]
      exact .cons q (Dnf.put h r)
theorem Dnf.length {K : PySem.W.Frag} {I : Hp} : ∀ {fs : List (Str × D)} {vs : List (Str × V)}, Dnf K I fs vs → fs.length = vs.length
  | _, _, .nil => rfl
  | _, _, .cons _ r => congrArg (· + 1) (Dnf.length r)
def notInst : Option Sl → Bool
  | some (.inst _ _ _ _) => false
  | _ => true
section
variable {X : Cx} {B : Hp} {W0 : Wd} {S : En} {e : Expr} {pos p p1 : Pos} {E : Ends'} {x f : Str} {C : Addr}
/-- self.f = e, self the object that is being made -/
theorem sd_fld {q dx : Addr} (i : Nat) (fs : List (Str × D)) (c : Cls X.K C) (na : NoAttr X.K C f) (hN : X.N[i]? = some x) (h : S[i]? = some (some (.inst C q dx fs))) (hl : fs.length < 1000) (one : (S.set i none).all notInst = true) (he : ED X B S e fun d => E.nx (S.set i (some (.inst C q dx (putD f d fs)))))
    (hv : Vis X.env.scope x := by first | exact Or.inl rfl | exact Or.inr (Or.inl rfl) | exact Or.inr (Or.inr rfl)) (hd : (x == ("__debug__" : Str)) = false := by decide) (hcd : (x == ("__classdict__" : Str)) = false := by decide)
    (hs : swapsWith e (some (.Attribute (.Name x p) f p1)) pos.line X.env = pure false := by rfl) : SD X B W0 S (.Assign [.Attribute (.Name x p) f p1] e pos) E := fun σ W H r z D' k => by
  refine PS.w (ps_fld (pe_var hN hv hd hcd) we_pe hs) ?_
  refine he σ W H r _ fun d v W1 H1 s1 ok1 n1 q1 => ?_
  have r1 := r.step s1 ok1
  obtain ⟨v0, e1, vs, ev, b1, b2, ne, n, n2, i1, i2, hp, hdx, dn⟩ := r1.sl i _ h
  subst ev
  refine ⟨_, e1, q, C, dx, vs, rfl, hp, c, na, dn.length ▸ hl, ?_⟩
  have ok2 : Ok (gOf X) W1 (upd H1 q (.ins C dx (putF f v vs))) := {
    gd := fun b hb => by
      obtain ⟨n1, n2⟩ := ok1.gd b hb
      refine ⟨n1, ?_⟩
      by_cases y : b = q
      · subst y
        rw [upd_same]
        exact ⟨(fun z => by cases z), (fun _ z => by cases z)⟩
      · rw [upd_ne y]
        exact n2
    ex := fun b o hb => by
      rw [upd_ne (fun y => by rw [y, i1] at hb; cases hb)]
      exact ok1.ex b o hb
    pot := fun b hb => by
      obtain ⟨nb, y2, w2, h2⟩ := ok1.pot b hb
      have ne : b ≠ q := fun y => n (y ▸ hb)
      exact ⟨nb, y2, w2, by rw [upd_ne ne]; exact h2⟩ }
  have z1 := z.trans r.ok s1
  have z2 : Stp W0 B W1 (upd H1 q (.ins C dx (putF f v vs))) := ⟨z1.I, z1.P, fun b o hb hn => by rw [upd_ne (ne_of_none hb b1)]; exact z1.keep b o hb hn, z1.old, z1.oldP⟩
  have lt : i < S.length := (List.getElem?_eq_some_iff.mp h).1
  refine k.nx _ σ W1 _ ?_ z2 s1.I q1
  refine ⟨ok2, r.gb, by simpa using r.len, fun j s ej => ?_, fun a b la lb c ne e2 e3 e4 => ?_, r1.distT.setS i fun l z => by cases z⟩
  · by_cases y : i = j
    · subst y
      rw [List.getElem?_set_self lt] at ej
      cases ej
      exact ⟨_, e1, _, rfl, b1, b2, ne, n, n2, i1, i2, upd_same, by rw [upd_ne ne]; exact hdx, dn.put n1⟩
    · rw [List.getElem?_set_ne y] at ej
      obtain ⟨v2, e2, h2⟩ := r1.sl j s ej
      refine ⟨v2, e2, ?_⟩
      cases s with
      | val d2 => exact h2
      | pot => exact h2
      | own m =>
        obtain ⟨p2, ys, rfl, c1, c2, c3, c4, c5⟩ := h2
        refine ⟨p2, ys, rfl, c1, c2, c3, ?_, c5⟩
        rw [upd_ne (fun y => by rw [y, hp] at c4; cases c4)]
        exact c4
      | ownT m =>
        obtain ⟨p2, ys, rfl, c1, c2, c3, c4, c5⟩ := h2
        refine ⟨p2, ys, rfl, c1, c2, c3, ?_, c5⟩
        rw [upd_ne (fun y => by rw [y, hp] at c4; cases c4)]
        exact c4
      | inst C' q' dx' fs' =>
        exfalso
        have e5 : (S.set i none)[j]? = some (some (.inst C' q' dx' fs')) := by rw [List.getElem?_set_ne y]; exact ej
        have := List.all_eq_true.mp one _ (List.mem_of_getElem? e5)
        cases this
  · have g : ∀ {c : Nat} {m : List D}, (S.set i (some (.inst C q dx (putD f d fs))))[c]? = some (some (.own m)) → S[c]? = some (some (.own m)) := fun {c m} ec => by
      by_cases q2 : i = c
      · subst q2
        rw [List.getElem?_set_self lt] at ec
        cases ec
      · rw [List.getElem?_set_ne q2] at ec
        exact ec
    exact r1.dist a b la lb c ne (g e2) (g e3) e4
end
section
variable {P : Program} {w : World} {K : PySem.W.Frag} {mg : Str → Option Value} {base : Heap}
/-- an __init__ by its body: self is slot 0 -/
theorem init_dl {x qual : Str} {st : Stmt} {f C : Addr} {fd : FuncData} {N ps : List Str} {k : Nat} {sp : SpI} (F : FunS K x qual st f fd) (hS : FnScope N ps (defScope st)) (len : ∀ as Q, sp as Q → as.length + 1 = ps.length)
    (body : ∀ cdv A outer s H, Room k (A.deeper (PyProof.Rows.envOfC qual (defScope st) s.heap.objs.size f cdv)) → (Bx P w K mg base N qual st f cdv A outer s H).A.guards = some (gOf (Bx P w K mg base N qual st f cdv A outer s H)) → ∀ W B as Q p dx, sp as Q → SDs (Bx P w K mg base N qual st f cdv A outer s H) B W (startE N (.inst C p dx [] :: as)) (defBody st) { nx := fun S' => ∃ fs, S'[0]? = some (some (.inst C p dx fs)) ∧ Q fs, rt := fun _ => False }) :
    GnOk P w K mg base (k + 1) f fd ps (liftI K C sp) := by
  refine gn_of F hS (fun g vs H Q h => ?_) (fun cdv A outer s H g vs R hr hG h => ?_)
  · obtain ⟨p, dx, us, H1, W, as, Qd, rfl, _, _, _, _, _, ha, hsp, _⟩ := h
    rw [← len _ _ hsp, List.length_cons, Paired.length ha]
  · obtain ⟨p, dx, us, H1, W, as, Qd, rfl, eH, hp, hdx, ne, ok, ha, hsp, c⟩ := h
    refine ⟨WSs _ (defBody st), wss_pss, ?_⟩
    obtain ⟨g1, g2⟩ := gOf_bx (P := P) (w := w) (K := K) (mg := mg) (base := base) (N := N) (qual := qual) (st := st) (f := f) (cdv := cdv) (outer := outer) (s := s) (H := H) hG
    have st1 : Stp W H1 W H := by
      rw [eH]
      exact (Stp.own hdx).trans (ok.own hdx) (Stp.own (by rw [upd_ne (Ne.symm ne)]; exact hp))
    have ok1 : Ok g W H := by
      rw [eH]
      exact (ok.own hdx).own (by rw [upd_ne (Ne.symm ne)]; exact hp)
    have rep : Rep K g H1 (startE N (.inst C p dx [] :: as)) (L2.start N (.ref p :: us)) W H := by
      have r0 := rep_start (N := N.tail) ok1 (ha.step st1)
      have hN : N.length = N.tail.length + 1 := by
        have h1 := hS.pre
        have h2 := len _ _ hsp
        have h3 : ps.length ≤ N.length := by
          have := congrArg List.length h1
          rw [List.length_take] at this
          omega
        rw [List.length_tail]
        omega
      have e1 : startE N (.inst C p dx [] :: as) = some (.inst C p dx []) :: startE N.tail as := by
        unfold startE
        rw [hN]
        simp [Nat.add_sub_add_right]
      have e2 : L2.start N (.ref p :: us) = some (.ref p) :: L2.start N.tail us := by
        unfold L2.start
        rw [hN]
        simp [Nat.add_sub_add_right]
      rw [e1, e2]
      refine ⟨ok1, fun b hb => (ok.gd b hb).2.1, by simp [r0.len], fun i s e => ?_, fun i j l m q n a1 a2 a3 => ?_, fun i j l m q n a1 a2 a3 => ?_⟩
      · cases i with
        | zero =>
          cases e
          refine ⟨_, rfl, [], rfl, hp, hdx, ne, ok.notP hp, ok.notP hdx, ok.free hp, ok.free hdx, ?_, ?_, .nil⟩
          · rw [eH]; exact upd_same
          · rw [eH, upd_ne ne]; exact upd_same
        | succ i =>
          obtain ⟨v, a1, a2⟩ := r0.sl i s e
          refine ⟨v, a1, ?_⟩
          cases s with
          | val d => exact a2
          | pot => exact a2
          | own l =>
            exfalso
            have key : ∀ {as : List Sl} {vs : List V} {n : Nat} {i : Nat}, Args K W as vs → (as.map some ++ List.replicate n none)[i]? = some (some (.own l)) → False := by
              intro as vs n i h
              induction h generalizing i with
              | nil =>
                intro e
                simp only [List.map_nil, List.nil_append, List.getElem?_replicate] at e
                split at e <;> cases e
              | @cons a v as vs h1 _ ih =>
                intro e
                cases i with
                | zero =>
                  simp only [List.map_cons, List.cons_append, List.getElem?_cons_zero, Option.some.injEq] at e
                  subst e
                  exact h1
                | succ i =>
                  simp only [List.map_cons, List.cons_append, List.getElem?_cons_succ] at e
                  exact ih e
            exact key ha e
          | ownT l =>
            exact absurd e (start_noT (ha.step st1) i l)
          | inst C' q' dx' fs =>
            exfalso
            have key : ∀ {as : List Sl} {vs : List V} {n : Nat} {i : Nat}, Args K W as vs → (as.map some ++ List.replicate n none)[i]? = some (some (.inst C' q' dx' fs)) → False := by
              intro as vs n i h
              induction h generalizing i with
              | nil =>
                intro e
                simp only [List.map_nil, List.nil_append, List.getElem?_replicate] at e
                split at e <;> cases e
              | @cons a v as vs h1 _ ih =>
                intro e
                cases i with
                | zero =>
                  simp only [List.map_cons, List.cons_append, List.getElem?_cons_zero, Option.some.injEq] at e
                  subst e
                  exact h1
                | succ i =>
                  simp only [List.map_cons, List.cons_append, List.getElem?_cons_succ] at e
                  exact ih e
            exact key ha e
      · cases i with
        | zero => cases a1
        | succ i => cases j with
          | zero => cases a2
          | succ j => exact r0.dist i j l m q (fun z => n (congrArg (· + 1) z)) a1 a2 a3
      · cases i with
        | zero => cases a1
        | succ i => cases j with
          | zero => cases a2
          | succ j => exact r0.distT i j l m q (fun z => n (congrArg (· + 1) z)) a1 a2 a3
    refine body cdv A outer s H hr (by rw [g2]; exact g1) W H1 as Qd p dx hsp (L2.start N (.ref p :: us)) W H (by rw [g2]; exact rep) st1 _ ?_
    rw [g2]
    refine ⟨fun S σ W' H' r z _ q => ?_, fun d v W' H' ok' z _ n q => q.elim, fun _ _ _ _ _ _ _ q => q.elim, fun _ _ _ _ _ _ _ q => q.elim⟩
    obtain ⟨fs, e, q⟩ := q
    obtain ⟨v, _, vs2, _, _, _, _, n1, _, i1, _, hp', _, dn⟩ := r.sl 0 _ e
    exact c fs vs2 W' H' z r.ok n1 i1 hp' dn q
end
end DL

set_option Elab.async false
set_option linter.all false
set_option maxRecDepth 100000
set_option maxHeartbeats 4000000
namespace DL
open PySem L2

/-! ### isinstance -/
/-- the class at C, as isinstance asks -/
structure Isi (K : PySem.W.Frag) (C : Addr) : Prop where
  cl : Cls K C
  ca : PySem.W.findIn K (.ref C) "__class__" = some (some (.builtin "object.__class__"))
  cn : PySem.W.specialIn K (.builtin "object.__class__") "__get__" = some (some (.builtin "getset_descriptor.__get__"))
  ct : PySem.W.takesIn K (.builtin "object.__class__") = some true
  cm : PySem.W.mroIn K C (.type "object") = some true
/-- the type of a datum -/
inductive TyD (K : PySem.W.Frag) : D → Value → Prop
  | non : TyD K .non (.type "NoneType")
  | bl (b) : TyD K (.bl b) (.type "bool")
  | int (i) : TyD K (.int i) (.type "int")
  | str (s) : TyD K (.str s) (.type "str")
  | tup (l) : TyD K (.tup l) (.type "tuple")
  | lst (l) : TyD K (.lst l) (.type "list")
  | obj {C} (fs) (h : Isi K C) : TyD K (.obj C fs) (.ref C)
  | dct : TyD K .dct (.type "dict")
  | dcK (l) : TyD K (.dcK l) (.type "dict")
theorem TyD.x {K : PySem.W.Frag} {W : Wd} {H : Hp} {d : D} {v : V} {t : Value} (h : TyD K d t) (ok : Ok g W H) (n : Dn K W.I d v) : TyX K H v t := by
  cases h with
  | non => cases n; exact .base .non
  | bl b => cases n; exact .base (.bl b)
  | int i => cases n; exact .base (.int i)
  | str s => cases n; exact .base (.str s)
  | tup l => cases n with | tup h _ => exact .base (.tup (ok.ex _ _ h))
  | lst l => cases n with | lst h _ => exact .base (.lst (ok.ex _ _ h))
  | obj fs i => cases n with | obj h _ => exact .base (.ins (ok.ex _ _ h) i.cl i.ca i.cn i.ct i.cm)
  | dct => cases n with | dct h => exact .base (.dK (ok.ex _ _ h))
  | dcK l => cases n with | dcK h _ => exact .base (.dK (ok.ex _ _ h))
/-- a class as a datum -/
inductive ClD : D → Value → Prop
  | ty (n) : ClD (.ty n) (.type n)
  | cls (C) : ClD (.cls C) (.ref C)
theorem ClD.v {K : PySem.W.Frag} {I : Hp} {d : D} {v : V} {u : Value} (h : ClD d u) (n : Dn K I d v) : ClsV v u := by
  cases h with
  | ty m => cases n; exact .ty m
  | cls C => cases n; exact .own C
section
variable {X : Cx} {B : Hp} {S : En} {pos p apos : Pos} {Q : D → Prop} {e o a b : Expr} {es : List Expr} {x m f : Str}
theorem ed_ty {n : String} (hm : X.mg x = none) (q : Q (.ty n)) (hv : bootBuiltins x = some (.type n) := by first | rfl | decide +kernel) (hg : Gl X x := by rfl) (hn : x ≠ "__name__" := by decide) (hd : (x == ("__debug__" : Str)) = false := by decide) : ED X B S (.Name x pos) Q := fun σ W H r R k =>
  PE.w (pe_bltn (v := .ty n) hg hm hv rfl hn hd) (k.now r.ok (.ty n) q)
theorem ed_cls {C : Addr} (hm : X.mg x = some (.ref C)) (q : Q (.cls C)) (hg : Gl X x := by rfl) (hd : (x == ("__debug__" : Str)) = false := by decide) : ED X B S (.Name x pos) Q := fun σ W H r R k =>
  PE.w (pe_glob (v := .ref C) hg hm rfl hd) (k.now r.ok (.cls C) q)
theorem ed_gint {i : Int} {t : Tok} (hm : X.mg x = some (.int i t)) (q : Q (.int i)) (hg : Gl X x := by rfl) (hd : (x == ("__debug__" : Str)) = false := by decide) : ED X B S (.Name x pos) Q := fun σ W H r R k =>
  PE.w (pe_glob (v := .int i) hg hm ⟨t, rfl⟩ hd) (k.now r.ok (.int i) q)
theorem cd_isi {d c : D} {t u : Value} {k : Bool} (ht : TyD X.K d t) (hc : ClD c u) (hk : PySem.W.kitOne X.K t u = some k) (q : Q (.bl k)) : CD X (.builtin "isinstance") [.val d, .val c] Q := cd_of call_isi fun vs W H ok ha R cc => by
  obtain ⟨v, w, rfl, h, h'⟩ := two_args ha
  exact ⟨v, w, t, u, k, rfl, hc.v h', ht.x ok h, hk, cc.now ok (.bl k) q⟩
theorem cd_isi2 {d c c' : D} {t u u' : Value} {k : Bool} (ht : TyD X.K d t) (hc : ClD c u) (hc' : ClD c' u') (hk : PySem.W.kitAny X.K t [u, u'] = some k) (q : Q (.bl k)) : CD X (.builtin "isinstance") [.val d, .val (.tup [c, c'])] Q := cd_of call_isiT fun vs W H ok ha R cc => by
  obtain ⟨v, w, rfl, h, h'⟩ := two_args ha
  cases h' with
  | tup hp m =>
    cases m with
    | cons h1 m => cases m with
      | cons h2 m =>
        cases m
        exact ⟨v, _, _, t, [u, u'], k, rfl, ok.ex _ _ hp, .cons (hc.v h1) (.cons (hc'.v h2) .nil), ht.x ok h, hk, cc.now ok (.bl k) q⟩
theorem cd_gcd {i j : Int} (q : Q (.int ((Nat.gcd i.natAbs j.natAbs : Nat) : Int))) : CD X (.builtin "math.gcd") [.val (.int i), .val (.int j)] Q := cd_of cr_gcd fun vs W H ok ha R c => by
  obtain ⟨v, u, rfl, h, h'⟩ := two_args ha
  cases h; cases h'
  exact ⟨i, j, rfl, c.now ok (.int _) q⟩
/-- a built-in function that the module imported -/
theorem ed_callM {id : String} (hm : X.mg x = some (.builtin id)) (h : AD X B S (e :: es) fun as => CD X (.builtin id) as Q) (hg : Gl X x := by rfl) (hdb : (x == ("__debug__" : Str)) = false := by decide)
    (he : starEach (e :: es) X.env = (false, eval e X.env) :: starEach es X.env := by rfl) (hpl : (backTo pos (starEach es X.env)).any (·.1) = false := by rfl) : ED X B S (.Call (.Name x p) (e :: es) [] pos) Q := fun σ W H r R c => by
  refine PE.w (pe_callBfun wc_call hg hm wa_pa hdb he hpl) ?_
  refine h σ W H r _ fun as vs W1 H1 s1 ok1 n1 q1 => ?_
  exact q1 vs W1 H1 ok1 n1 R (c.step s1 ok1)

/-! ### numbers of any size, texts -/
def CDivG (i j : Int) : Prop := j ≠ 0 ∧ j.natAbs.log2 < 9000
theorem op_fdivG : OpR X (binaryOp .FloorDiv) (rI CDivG fun i j => .int (i.fdiv j)) := opI fun i j _ _ _ _ _ hc q => PyProof.Rows.floordiv_int hc.1 q (.inl (PyProof.noPylong_of_log2 hc.2))
theorem od_fdiv {i j : Int} (hc : CDivG i j) (q : Q (.int (i.fdiv j))) : OD X (binaryOp .FloorDiv) (.int i) (.int j) Q := od_I op_fdivG hc (fun _ _ => .int _) q
theorem od_mul {i j : Int} (hc : CMulX i j) (q : Q (.int (i * j))) : OD X (binaryOp .Mult) (.int i) (.int j) Q := od_I op_mulX hc (fun _ _ => .int _) q
theorem od_mulS {i j : Int} (hc : (-(2 ^ 64) < i ∧ i < 2 ^ 64) ∨ (-(2 ^ 64) < j ∧ j < 2 ^ 64)) (q : Q (.int (i * j))) : OD X (binaryOp .Mult) (.int i) (.int j) Q := od_I op_mul hc (fun _ _ => .int _) q
theorem od_mod {i j : Int} (hc : 0 < j) (q : Q (.int (i % j))) : OD X (binaryOp .Mod) (.int i) (.int j) Q := od_I op_mod hc (fun _ _ => .int _) q
theorem od_pow {i j : Int} (hc : CPow i j) (q : Q (.int (i ^ j.toNat))) : OD X (binaryOp .Pow) (.int i) (.int j) Q := od_I op_pow hc (fun _ _ => .int _) q
/-- == and != of ints, of texts, of bools, of None -/
def scD : D → D → Bool
  | .int _, .int _ => true
  | .str _, .str _ => true
  | .bl _, .bl _ => true
  | _, _ => false
theorem od_eqi {i j : Int} (q : Q (.bl (decide (i = j)))) : OD X (compareOp .Eq) (.int i) (.int j) Q := by
  refine od_of op_eq fun v u W H ok h1 h2 R c => ?_
  cases h1; cases h2
  refine ⟨rfl, c.now ok (.bl _) ?_⟩
  have e : decide (V.int i = V.int j) = decide (i = j) := by by_cases z : i = j <;> simp [z]
  rw [e]
  exact q
theorem od_nei {i j : Int} (q : Q (.bl (!decide (i = j)))) : OD X (compareOp .NotEq) (.int i) (.int j) Q := by
  refine od_of op_ne fun v u W H ok h1 h2 R c => ?_
  cases h1; cases h2
  refine ⟨rfl, c.now ok (.bl _) ?_⟩
  have e : decide (V.int i = V.int j) = decide (i = j) := by by_cases z : i = j <;> simp [z]
  rw [e]
  exact q
theorem od_eqs {i j : Str} (q : Q (.bl (decide (i = j)))) : OD X (compareOp .Eq) (.str i) (.str j) Q := by
  refine od_of op_eq fun v u W H ok h1 h2 R c => ?_
  cases h1; cases h2
  refine ⟨rfl, c.now ok (.bl _) ?_⟩
  have e : decide (V.str i = V.str j) = decide (i = j) := by by_cases z : i = j <;> simp [z]
  rw [e]
  exact q
theorem od_nes {i j : Str} (q : Q (.bl (!decide (i = j)))) : OD X (compareOp .NotEq) (.str i) (.str j) Q := by
  refine od_of op_ne fun v u W H ok h1 h2 R c => ?_
  cases h1; cases h2
  refine ⟨rfl, c.now ok (.bl _) ?_⟩
  have e : decide (V.str i = V.str j) = decide (i = j) := by by_cases z : i = j <;> simp [z]
  rw [e]
  exact q
theorem od_isN {x : D} (q : Q (.bl (match x with | .non => true | _ => false))) : OD X (compareOp .Is) x .non Q := by
  refine od_of op_isN fun v u W H ok h1 h2 R c => ?_
  cases h2
  refine ⟨rfl, c.now ok (.bl _) ?_⟩
  cases h1 <;> exact q
/-- lists joined, repeated -/
theorem od_catL {l m : List D} (hl : l.length + m.length ≤ 100000) (q : Q (.lst (l ++ m))) : OD X (binaryOp .Add) (.lst l) (.lst m) Q := by
  refine od_of op_cat fun v u W H ok h1 h2 R c => ?_
  cases h1 with
  | @lst _ _ xs a1 d1 => cases h2 with
    | @lst _ _ ys a2 d2 =>
      refine ⟨_, _, _, _, rfl, rfl, ok.ex _ _ a1, ok.ex _ _ a2, Nat.le_trans (by rw [← d1.length, ← d2.length]; exact hl) (by decide), fun p hp => ?_⟩
      have st := Stp.new (o := .lst (xs ++ ys)) ok hp
      exact c (.lst (l ++ m)) (.ref p) _ _ st (ok.new hp) (.lst (show upd W.I p _ p = _ from upd_same) ((d1.append d2).mono st.I)) q
theorem od_repL {l : List D} {k : Int} (hk : 0 ≤ k) (hl : l.length * k.toNat ≤ 100000) (hk2 : k < 2 ^ 63) (q : Q (.lst (List.replicate k.toNat l).flatten)) : OD X (binaryOp .Mult) (.lst l) (.int k) Q := by
  refine od_of op_rep fun v u W H ok h1 h2 R c => ?_
  cases h2
  cases h1 with
  | @lst _ _ xs a1 d1 =>
    refine ⟨_, k, _, rfl, rfl, ok.ex _ _ a1, by omega, hk2, Nat.le_trans (by rw [← d1.length]; exact hl) (by decide), fun p hp => ?_⟩
    have st := Stp.new (o := .lst (List.replicate k.toNat xs).flatten) ok hp
    exact c (.lst (List.replicate k.toNat l).flatten) (.ref p) _ _ st (ok.new hp) (.lst (show upd W.I p _ p = _ from upd_same) ((d1.rep k.toNat).mono st.I)) q
end
end DL

set_option Elab.async false
set_option linter.all false
set_option maxRecDepth 100000
set_option maxHeartbeats 4000000
namespace DL
open PySem L2

/-! ### == and != of plain data -/
mutual
inductive PyD : D → PyData → Prop
  | non : PyD .non .none
  | bl (b) : PyD (.bl b) (.bool b)
  | int (i) : PyD (.int i) (.int i)
  | str (s) : PyD (.str s) (.str s)
  | lst {l ds} : PyDs l ds → PyD (.lst l) (.list ds)
  | tup {l ds} : PyDs l ds → PyD (.tup l) (.tuple ds)
inductive PyDs : List D → List PyData → Prop
  | nil : PyDs [] []
  | cons {d l p ps} : PyD d p → PyDs l ps → PyDs (d :: l) (p :: ps)
end
section
variable {K : PySem.W.Frag} {g : List Code} {W : Wd} {H : Hp}
mutual
theorem PyD.dp (ok : Ok g W H) : ∀ {d : D} {p : PyData} {v : V}, PyD d p → Dn K W.I d v → Dp K H v p
  | _, _, _, .non, .non => .non
  | _, _, _, .bl b, .bl _ => .bl b
  | _, _, _, .int i, .int _ => .int i
  | _, _, _, .str s, .str _ => .str s
  | _, _, _, .lst h, .lst a n => .lst (SqL.of (ok.ex _ _ a)) (PyDs.dp ok h n)
  | _, _, _, .tup h, .tup a n => .tup (SqT.of (ok.ex _ _ a)) (PyDs.dp ok h n)
theorem PyDs.dp (ok : Ok g W H) : ∀ {l : List D} {ps : List PyData} {xs : List V}, PyDs l ps → Dns K W.I l xs → DpAll K H xs ps
  | _, _, _, .nil, .nil => .nil
  | _, _, _, .cons h r, .cons n m => .cons (PyD.dp ok h n) (PyDs.dp ok r m)
end
end
section
variable {X : Cx} {B : Hp} {S : En} {pos p apos : Pos} {Q : D → Prop} {x y : D} {d e : PyData}
theorem od_ned (hu : X.A.units + 64 < cLine) (h1 : PyD x d) (h2 : PyD y e) (s1 : SeqAt.shaped d = true) (s2 : SeqAt.shaped e = true) (q : Q (.bl (!PyData.eqv d e))) : OD X (compareOp .NotEq) x y Q :=
  od_of (op_neD hu) fun v u W H ok n1 n2 R c => ⟨d, e, h1.dp ok n1, h2.dp ok n2, s1, s2, c.now ok (.bl _) q⟩
end

/-! ### operators of own classes -/
theorem back {X : Cx} {pins : List (Addr × Obj)} {σ : L2.St} {R : VK} {v : Value} {s : Shared} (h : EP X pins σ R v s) : PySem.W.CmpBack (EP X pins σ R) v s := by
  obtain ⟨z, H, I, r, q⟩ := id h
  cases z with
  | non => cases (show v = Value.none from r); exact h
  | bl b => cases (show v = Value.bool b from r); exact h
  | int i => obtain ⟨t, e⟩ := (show ∃ t, v = Value.int i t from r); cases e; exact h
  | str x => obtain ⟨t, e⟩ := (show ∃ t, v = Value.str x t from r); cases e; exact h
  | byt b => obtain ⟨t, e⟩ := (show ∃ t, v = Value.bytes b t from r); cases e; exact h
  | flt b => obtain ⟨t, e⟩ := (show ∃ t, v = Value.float b t from r); cases e; exact h
  | ref a => cases (show v = Value.ref a from r); exact h
  | ty n => cases (show v = Value.type n from r); exact h
/-- a class whose instances stand beside ints -/
structure Num (K : PySem.W.Frag) (C : Addr) : Prop where
  cl : Cls K C
  sf : PySem.W.selfFirst K C = true
  nf : PySem.W.notFirst K C (.ref C) = true
  ni : PySem.W.notFirst K C (.type "int") = true
  si : PySem.W.subIn K (.type "int") (.ref C) = some false
  is : PySem.W.subIn K (.ref C) (.type "int") = some false
  ob : PySem.W.subIn K (.ref C) (.type "object") = some true
/-- a special method of the class at C -/
structure Sm (P : Program) (w : World) (K : PySem.W.Frag) (mg : Str → Option Value) (base : Heap) (C : Addr) (m : Str) (k : Nat) (sp : SpD) : Prop where
  ex : ∃ f fd ps, GnOk P w K mg base k f fd ps (lift K sp) ∧ PySem.W.findIn K (.ref C) m = some (some (.ref f)) ∧ PySem.W.isFn K (.ref f) = true ∧ Binds K fd ps []
section
variable {X : Cx} {B : Hp} {S : En} {pos p apos : Pos} {Q : D → Prop} {C : Addr} {k k' : Nat} {sp sp' : SpD} {fs gs : List (Str × D)}
theorem inst_at {pins : List (Addr × Obj)} {σ : L2.St} {H : Hp} {s : Shared} {a dx : Addr} {vs : List (Str × V)} (I : Inv X pins σ H s) (ha : H a = some (.ins C dx vs)) : ∃ ox od, PySem.W.InstAt s.heap a ox C (some od) := by
  obtain ⟨mA, O, _⟩ := ins_get I.hok ha
  obtain ⟨od, J, _⟩ := O.look
  exact ⟨_, od, J⟩
theorem args2 {K : PySem.W.Frag} {W : Wd} {d d' : D} {v u : V} (h : Dn K W.I d v) (h' : Dn K W.I d' u) : Args K W [.val d, .val d'] [v, u] := .cons h (.cons h' .nil)
theorem vals2 {v u : V} {v' u' : Value} (h : RelV v v') (h' : RelV u u') : Vals [v, u] [v', u'] := .cons h (.cons h' .nil)
/-- the def of a special method runs -/
theorem run_sm {m : Str} (F : Sm X.prog X.w X.K X.mg X.base C m k sp) (hr : Room k X.A) (hG : X.A.guards = some (gOf X)) {as : List Sl} {W : Wd} {H : Hp} (ok : Ok (gOf X) W H) {vs : List V} {us : List Value} (n : Args X.K W as vs) (q : sp as Q) {R : VK} (c : Cont X.K (gOf X) W H Q R)
    {pins : List (Addr × Obj)} {σ : L2.St} {s : Shared} (I : Inv X pins σ H s) (r : Vals vs us) : ∃ f, PySem.W.findIn X.K (.ref C) m = some (some (.ref f)) ∧ PySem.W.isFn X.K (.ref f) = true ∧ wpAny (model X.prog X.w) X.A (call (.ref f) us) (EP X pins σ R) X.xe s := by
  obtain ⟨f, fd, ps, F, hf, hi, hb⟩ := F.ex
  refine ⟨f, hf, hi, call_gn F hr hG hb .nil I r ?_⟩
  rw [List.append_nil]
  exact ⟨as, W, Q, ok, n, q, c⟩
/-- both of the class -/
theorem od_oo {op : Operator} (N : Num X.K C) (F : Sm X.prog X.w X.K X.mg X.base C (PySem.dunder op.info.2) k sp) (hr : Room k X.A) (hG : X.A.guards = some (gOf X)) (q : sp [.val (.obj C fs), .val (.obj C gs)] Q) : OD X (binaryOp op) (.obj C fs) (.obj C gs) Q := fun v u W H ok h1 h2 R c pins s σ v' u' I r1 r2 => by
  have aa := args2 h1 h2
  have rr := vals2 r1 r2
  cases id h1 with
  | obj a1 _ => cases id h2 with
    | obj a2 _ =>
      cases (show v' = Value.ref _ from r1)
      cases (show u' = Value.ref _ from r2)
      obtain ⟨ox, od, J⟩ := inst_at I (ok.ex _ _ a1)
      obtain ⟨oy, oe, J2⟩ := inst_at I (ok.ex _ _ a2)
      obtain ⟨f, hf, hi, hw⟩ := run_sm F hr hG ok aa q c I rr
      obtain ⟨mm, hF⟩ := I.fr
      exact PySem.W.binop_K hF I.ok.mod.kin J J2.type N.sf hf hi (wpAny_mono hw (fun _ _ h => back h) fun _ _ h => h)
/-- an int on the right -/
theorem od_oi {op : Operator} {i : Int} (N : Num X.K C) (F : Sm X.prog X.w X.K X.mg X.base C (PySem.dunder op.info.2) k sp) (G : Sm X.prog X.w X.K X.mg X.base C (dunderR op.info.2) k' sp') (hr : Room k X.A) (hG : X.A.guards = some (gOf X)) (q : sp [.val (.obj C fs), .val (.int i)] Q)
    (hint : fillsNumberSlot (.type "int") op.info.2 = pure true) (hl : ∃ r, PySem.W.findIn X.K (.type "int") (dunderR op.info.2) = some r) : OD X (binaryOp op) (.obj C fs) (.int i) Q := fun v u W H ok h1 h2 R c pins s σ v' u' I r1 r2 => by
  have aa := args2 h1 h2
  have rr := vals2 r1 r2
  cases id h1 with
  | obj a1 _ =>
    cases id h2
    cases (show v' = Value.ref _ from r1)
    obtain ⟨t, rfl⟩ := (show ∃ t, u' = Value.int i t from r2)
    obtain ⟨ox, od, J⟩ := inst_at I (ok.ex _ _ a1)
    obtain ⟨f, hf, hi, hw⟩ := run_sm F hr hG ok aa q c I rr
    obtain ⟨g, gd, ps, _, hg, _⟩ := G.ex
    exact OwnOps.own_int I.kIn J N.sf hf hg hi N.si hint hl (wpAny_mono hw (fun _ _ h => back h) fun _ _ h => h)
end
end DL

set_option Elab.async false
set_option linter.all false
set_option maxRecDepth 100000
set_option maxHeartbeats 4000000
namespace DL
open PySem L2
section
variable {X : Cx} {B : Hp} {S : En} {pos p apos : Pos} {Q : D → Prop} {C : Addr} {k k' : Nat} {sp sp' : SpD} {fs gs : List (Str × D)} {e a : Expr} {es : List Expr} {x m : Str}
/-- == by an own __eq__ -/
theorem od_eqO (N : Num X.K C) (F : Sm X.prog X.w X.K X.mg X.base C "__eq__" k sp) (hr : Room k X.A) (hG : X.A.guards = some (gOf X)) (q : sp [.val (.obj C fs), .val (.obj C gs)] Q) : OD X (compareOp .Eq) (.obj C fs) (.obj C gs) Q := fun v u W H ok h1 h2 R c pins s σ v' u' I r1 r2 => by
  have aa := args2 h1 h2
  have rr := vals2 r1 r2
  cases id h1 with
  | obj a1 _ => cases id h2 with
    | obj a2 _ =>
      cases (show v' = Value.ref _ from r1)
      cases (show u' = Value.ref _ from r2)
      obtain ⟨ox, od, J⟩ := inst_at I (ok.ex _ _ a1)
      obtain ⟨oy, oe, J2⟩ := inst_at I (ok.ex _ _ a2)
      obtain ⟨f, hf, hi, hw⟩ := run_sm F hr hG ok aa q c I rr
      obtain ⟨mm, hF⟩ := I.fr
      show wpAny _ _ (richCompare .Eq _ _) _ _ _
      exact PySem.W.cmp_K hr.units0 hF I.ok.mod.kin J J2.type N.nf hf hi (wpAny_mono hw (fun _ _ h => back h) fun _ _ h => h)
end
end DL

set_option Elab.async false
set_option linter.all false
set_option maxRecDepth 100000
set_option maxHeartbeats 2000000
/-! calls by keywords, class methods, calls of a class that a local name holds, the guards known -/
namespace DL
open PySem PySem.Spec PyProof.Rows L2 ClX
section
variable {X : Cx} {k n : Nat} {f C p0 : Addr} {fd : FuncData} {ps ks : List Str} {sp : SpG} {x m : Str} {p pos apos : Pos} {e o : Expr} {es : List Expr} {kws : List Keyword} {g : List Code} {gf : List Value → List Value → List Value} {gV : List V → List V → List V} {mc : Value}
/-- the weakest reading of keywords -/
def WK (X : Cx) (kws : List Keyword) : TA := fun σ H Q => ∀ pos pins s, Inv X pins σ H s → wpAny (model X.prog X.w) X.A (evalAll ((backToKw pos (keywordEach kws X.env)).map (·.2))) (AP X pins σ Q) X.xe s
theorem wk_pk : PK X kws (WK X kws) := ⟨fun pos pins s _ _ _ I h => h pos pins s I⟩
theorem PK.w {t : TA} (h : PK X kws t) {σ : L2.St} {H : Hp} {Q : List V → Hp → Prop} (q : t σ H Q) : WK X kws σ H Q := fun pos pins s I => h.run pos pins s σ H Q I q
/-- an instance, made by positional values and keywords -/
theorem run_gmakeK {pins : List (Addr × Obj)} {σ : L2.St} {H : Hp} {s : Shared} {Q : VK} {us ws : List Value} {vs zs : List V} {E : Value → Shared → Prop} (M : Mk X.K C f) (F : GnOk X.prog X.w X.K X.mg X.base k f fd ps sp) (hr : Room (k + 1) X.A) (hG : X.A.guards = some g) (hb : KBn X.K fd ps (n + 1) ks gf gV)
    (I : Inv X pins σ H s) (r : Vals vs us) (rz : Vals zs ws) (l1 : vs.length = n) (l2 : zs.length = ks.length) (h : ∀ x dx, H x = none → H dx = none → dx ≠ x → sp g (gV (.ref x :: vs) zs) (upd (upd H dx (.own x)) x (.ins C dx [])) (fun v H2 => v = .non ∧ Q (.ref x) H2)) : wpAny (model X.prog X.w) X.A (call (.ref C) us (ks.zip ws)) (EP X pins σ Q) E s := by
  have hq := h (s.heap.objs.size + 1) s.heap.objs.size (I.hok.fresh (Nat.le_succ _)) (I.hok.fresh (Nat.le_refl _)) (Nat.ne_of_lt (Nat.lt_succ_self _))
  have I2 := Inv.made (C := C) I
  have n1 : (Value.ref (s.heap.objs.size + 1) :: us).length = n + 1 := by rw [List.length_cons, ← r.length, l1]
  have n2 : ws.length = ks.length := by rw [← rz.length, l2]
  have hg2 : (X.A.under (.builtin "type.__call__" ⟨.ref C :: us, ks.zip ws⟩)).guards = some g := by
    have e : (Code.builtin "type.__call__" ⟨.ref C :: us, ks.zip ws⟩).guards = [] := by
      unfold Code.guards Code.isGuard
      have h0 : guardIds.contains "type.__call__" = false := by decide +kernel
      rw [if_neg (by show ¬ (guardIds.contains "type.__call__" = true); rw [h0]; exact Bool.false_ne_true)]
    show pushGuards (Code.builtin "type.__call__" ⟨.ref C :: us, ks.zip ws⟩).guards X.A.guards = some g
    rw [e]
    exact hG
  refine wpAny_call (make_map (f := f) I.kIn M.makes M.init (beq_iff_eq.mp M.fn) ?_)
  refine run_gb F (hr.make C us (ks.zip ws)) hg2 (I2.env0.make C us (ks.zip ws)) (hb.to _ (Value.ref (s.heap.objs.size + 1) :: us) ws I2.kIn n1 n2) I2 (hb.rel (vs := V.ref (s.heap.objs.size + 1) :: vs) (us := Value.ref (s.heap.objs.size + 1) :: us) (.cons rfl r) rz) hq fun v s' hv => ?_
  obtain ⟨z, H', I3, rv, ez, q3⟩ := hv
  subst ez
  exact ⟨rv, ⟨V.ref (s.heap.objs.size + 1), H', I3, rfl, q3⟩⟩
/-- C(k = v, ..) -/
theorem we_makeK0 {σ : L2.St} {H : Hp} {Q : VK} (M : Mk X.K C f) (F : GnOk X.prog X.w X.K X.mg X.base k f fd ps sp) (hr : Room (k + 1) X.A) (hG : X.A.guards = some g) (hg : Gl X x) (hm : X.mg x = some (.ref C)) (hb : KBn X.K fd ps 1 ks gf gV)
    (h : WK X kws σ H fun zs H1 => zs.length = ks.length ∧ ∀ y dy, H1 y = none → H1 dy = none → dy ≠ y → sp g (gV [.ref y] zs) (upd (upd H1 dy (.own y)) y (.ins C dy [])) (fun v H2 => v = .non ∧ Q (.ref y) H2))
    (hall : (backToKw pos (keywordEach kws X.env)).all (·.1.isSome) = true) (hks : (backToKw pos (keywordEach kws X.env)).filterMap (·.1) = ks) (hdb : (x == ("__debug__" : Str)) = false)
    (hpl : ((backTo pos (starEach [] X.env)).any (·.1) || (backToKw pos (keywordEach kws X.env)).any (·.1.isNone)) = false) : WE X (.Call (.Name x p) [] kws pos) σ H Q := fun pins s I => by
  refine wpAny_Call_Name_kw (ld_glob I hg hm ?_ hdb)
  refine PySem.W.callWith_KW0 (h₀ := X.base) I.ok.mod.kin M.kp hall (thn (h pos pins s I) fun ws s2 ⟨zs, H2, I2, rz, l2, q2⟩ => ⟨I2.kIn, ?_⟩) hpl
  rw [hks]
  exact run_gmakeK (us := []) (vs := []) (n := 0) M F hr hG hb I2 .nil rz rfl l2 q2
end
end DL

set_option Elab.async false
set_option linter.all false
set_option maxRecDepth 100000
set_option maxHeartbeats 4000000
namespace DL
open PySem L2

/-! ### keywords -/
def KD (X : Cx) (B : Hp) (S : En) (kws : List Keyword) (Q : List Sl → Prop) : Prop := ∀ σ W H, Rep X.K (gOf X) B S σ W H → ∀ R, ContA X.K (gOf X) W H Q R → WK X kws σ H R
/-- C's __init__ by keywords ks alone: mid brings their values, and the defaults, into the parameters' order -/
structure KlK (P : Program) (w : World) (K : PySem.W.Frag) (mg : Str → Option Value) (base : Heap) (x : Str) (C : Addr) (k : Nat) (ks : List Str) (midD : List Sl → List Sl) (sp : SpI) : Prop where
  ex : ∃ f fd ps gf, ∃ mid : List V → List V, GnOk P w K mg base k f fd ps (liftI K C sp) ∧ Mk K C f ∧ mg x = some (.ref C) ∧ KBn K fd ps 1 ks gf (fun vs zs => vs ++ mid zs) ∧ ∀ W bs zs, Args K W bs zs → Args K W (midD bs) (mid zs)
structure MtK (P : Program) (w : World) (K : PySem.W.Frag) (mg : Str → Option Value) (base : Heap) (C : Addr) (m : Str) (k : Nat) (ks : List Str) (midD : List Sl → List Sl) (sp : SpD) : Prop where
  ex : ∃ f fd ps gf, ∃ mid : List V → List V, GnOk P w K mg base k f fd ps (lift K sp) ∧ Meth K C m f ∧ KBn K fd ps 1 ks gf (fun vs zs => vs ++ mid zs) ∧ ∀ W bs zs, Args K W bs zs → Args K W (midD bs) (mid zs)
/-- a class method -/
structure Cm (P : Program) (w : World) (K : PySem.W.Frag) (mg : Str → Option Value) (base : Heap) (C : Addr) (m : Str) (k : Nat) (sp : SpD) : Prop where
  ex : ∃ f fd ps p0 mc, GnOk P w K mg base k f fd ps (lift K sp) ∧ ClX.CRead K C mc ∧ ClX.CMet K C mc m p0 f ∧ Binds K fd ps []
structure CmK (P : Program) (w : World) (K : PySem.W.Frag) (mg : Str → Option Value) (base : Heap) (C : Addr) (m : Str) (k : Nat) (ks : List Str) (midD : List Sl → List Sl) (sp : SpD) : Prop where
  ex : ∃ f fd ps p0 mc gf, ∃ mid : List V → List V, GnOk P w K mg base k f fd ps (lift K sp) ∧ ClX.CRead K C mc ∧ ClX.CMet K C mc m p0 f ∧ KBn K fd ps 1 ks gf (fun vs zs => vs ++ mid zs) ∧ ∀ W bs zs, Args K W bs zs → Args K W (midD bs) (mid zs)
section
variable {X : Cx} {B : Hp} {S : En} {pos p apos kpos : Pos} {Q : D → Prop} {e o : Expr} {es : List Expr} {kws : List Keyword} {x m : Str} {nm : Option Str} {k : Nat} {C : Addr} {ks : List Str} {midD : List Sl → List Sl}
theorem kd_nil {Q : List Sl → Prop} (q : Q []) : KD X B S [] Q := fun σ W H r R c => PK.w pk_nil (c [] [] W H Stp.refl r.ok .nil q)
theorem kd_cons {Q : List Sl → Prop} (h : ED X B S e fun d => KD X B S kws fun as => Q (.val d :: as)) : KD X B S (⟨nm, e, kpos⟩ :: kws) Q := fun σ W H r R c => by
  refine PK.w (pk_cons we_pe wk_pk) ?_
  refine h σ W H r _ fun d v W1 H1 s1 ok1 n1 q1 => ?_
  refine q1 σ W1 H1 (r.step s1 ok1) _ fun as vs W2 H2 s2 ok2 n2 q2 => ?_
  exact c (.val d :: as) (v :: vs) W2 H2 (s1.trans ok1 s2) ok2 (.cons (show Arg X.K W2 (.val d) v from n1.mono s2.I) n2) q2
theorem ed_makeK0 {sp : SpI} (F : KlK X.prog X.w X.K X.mg X.base x C k ks midD sp) (hr : Room (k + 1) X.A) (hG : X.A.guards = some (gOf X)) (h : KD X B S kws fun bs => bs.length = ks.length ∧ sp (midD bs) fun fs => Q (.obj C fs)) (hg : Gl X x := by rfl)
    (hall : (backToKw pos (keywordEach kws X.env)).all (·.1.isSome) = true := by rfl) (hks : (backToKw pos (keywordEach kws X.env)).filterMap (·.1) = ks := by rfl) (hdb : (x == ("__debug__" : Str)) = false := by decide)
    (hpl : ((backTo pos (starEach [] X.env)).any (·.1) || (backToKw pos (keywordEach kws X.env)).any (·.1.isNone)) = false := by rfl) : ED X B S (.Call (.Name x p) [] kws pos) Q := fun σ W H r R c => by
  obtain ⟨f, fd, ps, gf, mid, F, M, hm, hb, hc⟩ := F.ex
  refine we_makeK0 M F hr hG hg hm hb ?_ hall hks hdb hpl
  refine h σ W H r _ fun bs zs W1 H1 s1 ok1 n1 q1 => ?_
  obtain ⟨l, q1⟩ := q1
  refine ⟨by rw [← l]; exact (Paired.length n1).symm, fun y dy hy hdy ne => ?_⟩
  exact cont_make (c.step s1 ok1) ok1 (hc _ _ _ n1) q1 y dy hy hdy ne
end

/-! ### texts of data -/
open Classical in
/-- the heap cut down to what never changes -/
noncomputable def cut (I : Hp) (h : Heap) : Heap := { h with objs := h.objs.mapIdx fun i o => if I i = none then { o with data := .freed } else o }
theorem cut_get {I : Hp} {h : Heap} {b : Addr} (n : I b ≠ none) : (cut I h).get? b = h.get? b := by
  unfold cut Heap.get?
  simp only [Array.getElem?_mapIdx]
  cases h.objs[b]? with
  | none => rfl
  | some o => simp only [Option.map_some, if_neg n]
theorem cut_in {I : Hp} {h : Heap} {b : Addr} {o : Obj} (e : (cut I h).get? b = some o) : h.get? b = some o ∧ I b ≠ none := by
  by_cases n : I b = none
  · exfalso
    unfold cut Heap.get? at e
    simp only [Array.getElem?_mapIdx] at e
    cases q : h.objs[b]? with
    | none => rw [q] at e; cases e
    | some o => rw [q] at e; simp only [Option.map_some, if_pos n] at e; cases e
  · exact ⟨by rw [← cut_get n]; exact e, n⟩
section
variable {X : Cx} {pins : List (Addr × Obj)} {σ : L2.St} {W : Wd} {H : Hp} {s : Shared} {g : List Code}
mutual
theorem PyD.reads (I : Inv X pins σ H s) (ok : Ok g W H) : ∀ {d : D} {p : PyData} {v : V} {u : Value}, PyD d p → Dn X.K W.I d v → RelV v u → ∃ as, Reads (cut W.I s.heap) u p as
  | _, _, _, _, .non, .non, r => by cases r; exact ⟨_, .none⟩
  | _, _, _, _, .bl b, .bl _, r => by cases r; exact ⟨_, .bool b⟩
  | _, _, _, _, .int i, .int _, r => by obtain ⟨t, rfl⟩ := r; exact ⟨_, .int i t⟩
  | _, _, _, _, .str x, .str _, r => by obtain ⟨t, rfl⟩ := r; exact ⟨_, .str x t⟩
  | _, _, _, _, .lst h, .lst (a := a) e m, r => by
    cases r
    obtain ⟨its, rv, ⟨o, n, ho, hc, _, hd⟩, _⟩ := I.list (SqL.of (ok.ex _ _ e))
    obtain ⟨as, q⟩ := PyDs.reads I ok h m rv
    exact ⟨_, Reads.list (by rw [cut_get (by rw [e]; exact fun z => by cases z)]; exact ho) hc hd q⟩
  | _, _, _, _, .tup h, .tup (a := a) e m, r => by
    cases r
    obtain ⟨its, rv, ⟨o, ho, hc, n, hd⟩, _⟩ := I.tuple (SqT.of (ok.ex _ _ e))
    obtain ⟨as, q⟩ := PyDs.reads I ok h m rv
    exact ⟨_, Reads.tuple (by rw [cut_get (by rw [e]; exact fun z => by cases z)]; exact ho) hc hd q⟩
theorem PyDs.reads (I : Inv X pins σ H s) (ok : Ok g W H) : ∀ {l : List D} {ps : List PyData} {xs : List V} {us : List Value}, PyDs l ps → Dns X.K W.I l xs → Vals xs us → ∃ as, ReadsAll (cut W.I s.heap) us ps as
  | _, _, _, _, .nil, .nil, r => by cases r; exact ⟨_, .nil⟩
  | _, _, _, _, .cons h t, .cons n m, r => by
    cases r with
    | cons r1 r2 =>
      obtain ⟨as, q1⟩ := PyD.reads I ok h n r1
      obtain ⟨bs, q2⟩ := PyDs.reads I ok t m r2
      exact ⟨_, .cons q1 q2⟩
end
mutual
theorem PyD.nodict : ∀ {d : D} {p : PyData}, PyD d p → p.hasDict = false
  | _, _, .non => rfl
  | _, _, .bl _ => rfl
  | _, _, .int _ => rfl
  | _, _, .str _ => rfl
  | _, _, .lst h => by simp only [PyData.hasDict]; exact PyDs.nodict h
  | _, _, .tup h => by simp only [PyData.hasDict]; exact PyDs.nodict h
theorem PyDs.nodict : ∀ {l : List D} {ps : List PyData}, PyDs l ps → PyData.hasDictAll ps = false
  | _, _, .nil => rfl
  | _, _, .cons h r => by simp only [PyData.hasDictAll, PyD.nodict h, PyDs.nodict r, Bool.or_self]
end
/-- what stands in the cut heap is no guard -/
theorem clears (ok : Ok g W H) {n : Nat} {bs : List Addr} (h : ReadAtMost (cut W.I s.heap) n bs) : ∀ b ∈ bs, Clear g b := fun b hb => by
  obtain ⟨d, as, r, _⟩ := h b hb
  refine clear_of fun z => ?_
  have n0 := (ok.gd b z).1
  cases r with
  | list e => exact (cut_in e).2 n0
  | tuple e => exact (cut_in e).2 n0
  | dict e => exact (cut_in e).2 n0
/-- repr of plain data -/
theorem repr_pl {A : Around} {E : Value → Shared → Prop} {Q : Value → Shared → Prop} {d : D} {p : PyData} {v : V} {u : Value} (I : Inv X pins σ H s) (ok : Ok g W H) (hG : A.guards = some g) (hu : A.units + (p.depth + 3) < cLine) (hp : PyD d p) (n : Dn X.K W.I d v) (r : RelV v u) (hs : p.showable = true) (hz : p.shown.length ≤ sizeLine)
    (q : ∀ h' t tk, (∀ b o, s.heap.get? b = some o → h'.get? b = some o) → Q (.str p.shown t) { s with heap := h', toks := tk }) : wpAny (model X.prog X.w) A (call (.builtin "repr") [u]) Q E s := by
  have kp : ∀ b o, (cut W.I s.heap).get? b = some o → s.heap.get? b = some o := fun b o e => (cut_in e).1
  obtain ⟨as, rd⟩ := hp.reads I ok n r
  have nd := hp.nodict
  cases rd with
  | none => exact PySem.P.repr_of_none (by simpa only [PyData.shown] using q s.heap _ _ fun _ _ e => e)
  | bool b => exact PySem.P.repr_of_bool (by simpa only [PyData.shown] using q s.heap _ _ fun _ _ e => e)
  | int i t => exact PySem.P.repr_of_int (by simpa [PyData.showable] using hs) (by simpa only [PyData.shown] using q s.heap _ _ fun _ _ e => e)
  | str x t => exact PySem.P.repr_of_str (by simpa only [PyData.shown] using q s.heap _ _ fun _ _ e => e) (by simpa only [PyData.shown] using hz)
  | @list a o vs n xs as h1 h2 h3 h4 =>
    simp only [PyData.shown] at hz q
    simp only [PyData.depth] at hu
    obtain ⟨bs, hb, hk⟩ := ReprAllK.of_readsAll (prog := X.prog) (w := X.w) h4 (by simpa [PyData.showable] using hs) (fun z => absurd z (by rw [show PyData.hasDictAll xs = false by simpa [PyData.hasDict] using nd]; exact Bool.false_ne_true)) (fun t ht => Nat.le_trans (listText_mem_le ht) hz)
    have rl : Reads (cut W.I s.heap) (.ref a) (.list xs) (a :: as) := .list h1 h2 h3 h4
    have hna : a ∉ bs := not_mem_of_deeper rl (by simp only [PyData.depth]; omega) hb
    have ca := clears ok (ReadAtMost.cons rl (by simp only [PyData.depth]; omega) hb)
    refine call_repr_slot (by omega) ⟨o, kp _ _ h1, h2⟩ F.slot_list_repr.toG ?_
    obtain ⟨l⟩ := vs
    cases l with
    | nil =>
      have h4' : ReadsAll (cut W.I s.heap) [] xs as := h4
      cases h4'
      simp only [PyData.shownAll, listText_nil] at q
      exact call_list_repr_empty ⟨o, kp _ _ h1, h2⟩ (kp _ _ h1) h3 ⟨_, _, rfl, q s.heap _ _ fun _ _ e => e⟩
    | cons y l =>
      exact call_list_reprK (A := A.in1) h1 h2 h3 hna (by simpa using hk.length_eq) (fun i y e => hk.item i y (by simpa using e)) hG ca (by show A.units + 1 + _ < cLine; omega) kp (fun h' u tk hk => ⟨_, _, rfl, q h' u tk hk⟩) hz
  | @tuple a o vs n xs as h1 h2 h3 h4 =>
    simp only [PyData.shown] at hz q
    simp only [PyData.depth] at hu
    obtain ⟨bs, hb, hk⟩ := ReprAllK.of_readsAll (prog := X.prog) (w := X.w) h4 (by simpa [PyData.showable] using hs) (fun z => absurd z (by rw [show PyData.hasDictAll xs = false by simpa [PyData.hasDict] using nd]; exact Bool.false_ne_true)) (fun t ht => Nat.le_trans (tupleText_mem_le ht) hz)
    have rl : Reads (cut W.I s.heap) (.ref a) (.tuple xs) as := .tuple h1 h2 h3 h4
    have hna : a ∉ bs := not_mem_of_deeper rl (by simp only [PyData.depth]; omega) hb
    have ca := clears ok (ReadAtMost.cons rl (by simp only [PyData.depth]; omega) hb)
    refine call_repr_slot (by omega) ⟨o, kp _ _ h1, h2⟩ F.slot_tuple_repr ?_
    exact call_tuple_reprK (A := A.in1) h1 h2 h3 hna hk hG ca (by show A.units + 1 + _ < cLine; omega) kp (fun h' u tk hk => ⟨_, _, rfl, q h' u tk hk⟩) hz
  | dict _ _ _ _ _ => simp [PyData.hasDict] at nd
end
section
variable {X : Cx} {B : Hp} {S : En} {pos p apos : Pos} {Q : D → Prop} {e o : Expr} {es : List Expr} {C : Addr} {k : Nat} {sp : SpD} {fs : List (Str × D)}
theorem cd_repr {d : D} {p : PyData} (hG : X.A.guards = some (gOf X)) (hu : X.A.units + (p.depth + 3) < cLine) (hp : PyD d p) (hs : p.showable = true) (hz : p.shown.length ≤ sizeLine) (q : Q (.str p.shown)) : CD X (.builtin "repr") [.val d] Q := fun vs W H ok ha R c pins s σ us I rv => by
  obtain ⟨v, rfl, n⟩ := one_arg ha
  cases rv with
  | cons r1 r2 =>
    cases r2
    exact repr_pl I ok hG hu hp n r1 hs hz fun h' t tk kp => ⟨.str _, H, I.kept kp, ⟨t, rfl⟩, c.now ok (.str _) q⟩
/-- repr of an object by its own __repr__ -/
theorem cd_reprO (F : Sm X.prog X.w X.K X.mg X.base C "__repr__" k sp) (hr : Room (k + 1) X.A) (hG : X.A.guards = some (gOf X)) (q : sp [.val (.obj C fs)] fun d => ∃ t, d = .str t ∧ Q d) : CD X (.builtin "repr") [.val (.obj C fs)] Q := fun vs W H ok ha R c pins s σ us I rv => by
  obtain ⟨v, rfl, n⟩ := one_arg ha
  obtain ⟨f, fd, ps, F, hf, hi, hb⟩ := F.ex
  cases id n with
  | @obj _ _ p1 _ _ a1 _ =>
    cases rv with
    | cons r1 r2 =>
      cases r2
      have r1' := r1
      cases (show _ = Value.ref p1 from r1)
      obtain ⟨ox, od, J⟩ := inst_at I (ok.ex _ _ a1)
      obtain ⟨mm, hF⟩ := I.fr
      have hsp : lift X.K sp (gOf X) [.ref p1] H (fun z H' => ∃ t, z = .str t ∧ R (.str t) H') := by
        refine ⟨_, W, _, ok, ha, q, fun d v2 W' H' st ok' n' q' => ?_⟩
        obtain ⟨t, rfl, q'⟩ := q'
        cases n'
        exact ⟨t, rfl, c (.str t) _ W' H' st ok' (.str _) q'⟩
      refine PySem.W.repr_K hr.in1.units0 hF I.ok.mod.kin J hf hi ?_
      refine wpAny_call (run_gn (A := X.A.in1) (us := [.ref p1]) (vs := [.ref p1]) F hr.in1 hG I.env0.in1 hb .nil I (.cons r1' .nil) hsp fun u s' hv => ?_)
      obtain ⟨z, H', I3, rz, t, e, q3⟩ := hv
      subst e
      obtain ⟨tk, rfl⟩ := (show ∃ tk, u = Value.str t tk from rz)
      exact ⟨.str t, H', I3, ⟨tk, rfl⟩, q3⟩
end
end DL

set_option Elab.async false
set_option linter.all false
set_option maxRecDepth 100000
set_option maxHeartbeats 4000000
namespace DL
open PySem L2
section
variable {X : Cx} {B : Hp} {S : En} {pos p apos : Pos} {Q : D → Prop} {e o : Expr} {es : List Expr} {C : Addr} {k : Nat} {sp : SpD} {fs : List (Str × D)}
open Builtin Builtin.Str in
/-- f'..' -/
theorem ed_fmt (h : ED X B S e fun d => (∃ y, d = .str y ∧ y.length ≤ sizeLine ∧ Q (.str y)) ∨ ∃ i : Int, d = .int i ∧ i.natAbs.log2 < 1920 ∧ Q (.str (toString i))) : ED X B S (.FormattedValue e (-1) none pos) Q := fun σ W H r R c => by
  refine PE.w (pe_fmt we_pe) ?_
  refine h σ W H r _ fun d v W1 H1 s1 ok1 n1 q1 => ?_
  have c1 := c.step s1 ok1
  rcases q1 with ⟨y, rfl, l, q⟩ | ⟨i, rfl, l, q⟩
  · cases n1
    exact .inl ⟨y, rfl, l, c1.now ok1 (.str _) q⟩
  · cases n1
    exact .inr ⟨i, rfl, l, c1.now ok1 (.str _) q⟩
def JD (X : Cx) (B : Hp) (S : En) : List Expr → Str → (D → Prop) → Prop
  | [], acc, Q => Q (.str acc)
  | e :: es, acc, Q => ED X B S e fun d => ∃ y, d = .str y ∧ (acc ++ y).length ≤ sizeLine ∧ JD X B S es (acc ++ y) Q
theorem pj_all : ∀ es : List Expr, PJ X es (es.map (WE X))
  | [] => .nil
  | _ :: es => .cons we_pe (pj_all es)
theorem jd_run {σ : L2.St} {R : VK} : ∀ (es : List Expr) (acc : Str) (W : Wd) (H : Hp), JD X B S es acc Q → Rep X.K (gOf X) B S σ W H → Cont X.K (gOf X) W H Q R → tJs (es.map (WE X)) acc σ H fun out H1 => R (.str out) H1
  | [], acc, W, H, h, r, c => c.now r.ok (.str acc) h
  | e :: es, acc, W, H, h, r, c => by
    show WE X e σ H _
    refine h σ W H r _ fun d v W1 H1 s1 ok1 n1 q1 => ?_
    obtain ⟨y, rfl, l, q1⟩ := q1
    cases n1
    exact ⟨y, rfl, l, jd_run es (acc ++ y) W1 H1 q1 (r.step s1 ok1) (c.step s1 ok1)⟩
theorem ed_join {e1 e2 : Expr} (h : JD X B S (e1 :: e2 :: es) Str.empty Q) : ED X B S (.JoinedStr (e1 :: e2 :: es) pos) Q := fun σ W H r R c =>
  PE.w (pe_joined (pj_all _)) (jd_run _ _ W H h r c)
/-- tuple(x) of a list, of a tuple -/
theorem cd_tuple {l : List D} (q : Q (.tup l)) : CD X (.type "tuple") [.val (.lst l)] Q := cd_of call_tuple_of fun vs W H ok ha R c => by
  obtain ⟨v, rfl, h⟩ := one_arg ha
  cases h with
  | @lst _ a xs h m =>
    refine ⟨_, _, rfl, .inl ⟨SqL.of (ok.ex _ _ h), fun p hp => ?_⟩⟩
    have st := Stp.new (o := .tup xs) ok hp
    exact c (.tup l) (.ref p) _ _ st (ok.new hp) (.tup (show upd W.I p _ p = _ from upd_same) (m.mono st.I)) q
end

/-! ### a new list handed back; pots -/
abbrev SpN := List Sl → (List D → Prop) → Prop
def liftN (K : PySem.W.Frag) (sp : SpN) : SpG := fun g vs H R => ∃ as W Q, Ok g W H ∧ Args K W as vs ∧ sp as Q ∧ ContF K g W H Q R
structure Nf (P : Program) (w : World) (K : PySem.W.Frag) (mg : Str → Option Value) (base : Heap) (x : Str) (k : Nat) (sp : SpN) : Prop where
  ex : ∃ f fd ps, GnOk P w K mg base k f fd ps (liftN K sp) ∧ mg x = some (.ref f) ∧ PySem.W.keepIn K (.ref f) = true ∧ Binds K fd ps []
section
variable {X : Cx} {B : Hp} {W0 : Wd} {S : En} {pos p apos : Pos} {e o : Expr} {es : List Expr} {x : Str} {k : Nat}
theorem ContF.step {K : PySem.W.Frag} {g : List Code} {W W1 : Wd} {H H1 : Hp} {Q : List D → Prop} {R : VK} (c : ContF K g W H Q R) (a : Stp W H W1 H1) (ok : Ok g W1 H1) : ContF K g W1 H1 Q R := fun l p xs W' H' s ok' hp n i hl d q => c l p xs W' H' (a.trans ok s) ok' (a.free ok hp) n i hl d q
theorem fd_callN {sp : SpN} {Q : List D → Prop} (F : Nf X.prog X.w X.K X.mg X.base x k sp) (hr : Room k X.A) (hG : X.A.guards = some (gOf X)) (h : AD X B S (e :: es) fun as => sp as Q) (hg : Gl X x := by rfl) (hdb : (x == ("__debug__" : Str)) = false := by decide)
    (he : starEach (e :: es) X.env = (false, eval e X.env) :: starEach es X.env := by rfl) (hpl : (backTo pos (starEach es X.env)).any (·.1) = false := by rfl) : FD X B S (.Call (.Name x p) (e :: es) [] pos) Q := fun σ W H r R c => by
  obtain ⟨f, fd, ps, F, hm, hk, hb⟩ := F.ex
  refine we_call F hr hG hg hm hk hb .nil ?_ hdb he hpl
  refine h σ W H r _ fun as vs W1 H1 s1 ok1 n1 q1 => ?_
  rw [List.append_nil]
  exact ⟨as, W1, Q, ok1, n1, q1, c.step s1 ok1⟩
/-- two ints in a list of one's own: a pot -/
theorem Ok.pot2 {g : List Code} {W : Wd} {H : Hp} {q : Addr} {x y : Int} (ok : Ok g W H) (i : W.I q = none) (h : H q = some (.lst [.int x, .int y])) (hy : 0 ≤ y ∧ y < 2 ^ 31) : Ok g ⟨W.I, fun b => W.P b ∨ b = q⟩ H :=
  ⟨ok.gd, ok.ex, fun a pa => pa.elim (ok.pot a) fun z => by subst z; exact ⟨i, x, y, h, hy⟩⟩
theorem Stp.pot2 {W W1 : Wd} {H H1 : Hp} {q : Addr} (a : Stp W H W1 H1) (hq : H q = none) : Stp W H ⟨W1.I, fun b => W1.P b ∨ b = q⟩ H1 :=
  ⟨a.I, fun b h => .inl (a.P b h), a.keep, a.old, fun b o hb z => z.elim (a.oldP b o hb) fun e => by rw [e, hq] at hb; cases hb⟩
theorem dns_two {K : PySem.W.Frag} {I : Hp} {a b : Int} {xs : List V} (h : Dns K I [.int a, .int b] xs) : xs = [.int a, .int b] := by
  cases h with
  | cons h r => cases h; cases r with
    | cons h r => cases h; cases r; rfl
theorem ad_newpot {Q : List Sl → Prop} (h : FD X B S e fun l => ∃ a b : Int, l = [.int a, .int b] ∧ (0 ≤ b ∧ b < 2 ^ 31) ∧ AD X B S es fun as => Q (.pot :: as)) (hs : starEach (e :: es) X.env = (false, eval e X.env) :: starEach es X.env := by rfl) : AD X B S (e :: es) Q := fun σ W H r R k => by
  refine PA.w (pa_cons we_pe wa_pa hs) ?_
  refine h σ W H r _ fun l q xs W1 H1 s1 ok1 hp n i hl d q1 => ?_
  obtain ⟨a, b, rfl, hab, q1⟩ := q1
  rw [dns_two d] at hl
  have ok2 := ok1.pot2 i hl hab
  have st2 := s1.pot2 hp
  refine q1 σ _ H1 (r.step st2 ok2) _ fun as vs W3 H3 s3 ok3 n3 q3 => ?_
  exact k (.pot :: as) (.ref q :: vs) W3 H3 (st2.trans ok2 s3) ok3 (.cons ⟨q, rfl, s3.P q (.inr rfl)⟩ n3) q3
end
/-- a block that ends by handing a new list back -/
def SN (X : Cx) (B : Hp) (W0 : Wd) (S : En) (sts : List Stmt) (Q : List D → Prop) : Prop := ∀ σ W H, Rep X.K (gOf X) B S σ W H → Stp W0 B W H → ∀ R, ContF X.K (gOf X) W0 B Q R → WSs X sts { nx := fun _ H' => R .non H', rt := R } σ H
section
variable {X : Cx} {B : Hp} {W0 : Wd} {S : En} {pos : Pos} {e : Expr} {st : Stmt} {sts : List Stmt} {Q : List D → Prop}
theorem sn_ret (h : FD X B S e Q) : SN X B W0 S [.Return (some e) pos] Q := fun σ W H r z R c => by
  refine PSs.w (pss_cons (ps_ret we_pe) pss_nil) ?_
  exact h σ W H r R fun l p xs W2 H2 s2 ok2 hp n i hl d q2 => c l p xs W2 H2 (z.trans r.ok s2) ok2 (z.free r.ok hp) n i hl d q2
theorem sn_cons (h : SD X B W0 S st { nx := fun S' => SN X B W0 S' sts Q, rt := fun _ => False }) : SN X B W0 S (st :: sts) Q := fun σ W H r z R c => by
  refine PSs.w (pss_cons ws_ps wss_pss) ?_
  exact h σ W H r z _ ⟨fun S' σ' W' H' r' z' _ q => q σ' W' H' r' z' R c, fun _ _ _ _ _ _ _ _ q => q.elim, fun _ _ _ _ _ _ _ q => q.elim, fun _ _ _ _ _ _ _ q => q.elim⟩
end
section
variable {P : Program} {w : World} {K : PySem.W.Frag} {mg : Str → Option Value} {base : Heap}
/-- a def that ends by handing a new list back -/
theorem gn_new {x qual : Str} {st : Stmt} {f : Addr} {fd : FuncData} {N ps : List Str} {k : Nat} {sp : SpN} (F : FunS K x qual st f fd) (hS : FnScope N ps (defScope st)) (len : ∀ as Q, sp as Q → as.length = ps.length)
    (body : ∀ cdv A outer s H, Room k (A.deeper (PyProof.Rows.envOfC qual (defScope st) s.heap.objs.size f cdv)) → (Bx P w K mg base N qual st f cdv A outer s H).A.guards = some (gOf (Bx P w K mg base N qual st f cdv A outer s H)) → ∀ W as Q, sp as Q →
      SN (Bx P w K mg base N qual st f cdv A outer s H) H W (startE N as) (defBody st) Q) : GnOk P w K mg base (k + 1) f fd ps (liftN K sp) := by
  refine gn_of F hS (fun g vs H Q h => ?_) (fun cdv A outer s H g vs R hr hG h => ?_)
  · obtain ⟨as, W, Qd, _, ha, hsp, _⟩ := h
    rw [← len _ _ hsp]
    exact (Paired.length ha).symm
  · obtain ⟨as, W, Qd, ok, ha, hsp, c⟩ := h
    obtain ⟨e1, e2⟩ := gOf_bx (P := P) (w := w) (K := K) (mg := mg) (base := base) (N := N) (qual := qual) (st := st) (f := f) (cdv := cdv) (outer := outer) (s := s) (H := H) hG
    refine ⟨WSs _ _, wss_pss, body cdv A outer s H hr (by rw [e2]; exact e1) W as Qd hsp (L2.start N vs) W H (by rw [e2]; exact rep_start ok ha) Stp.refl R ?_⟩
    rw [e2]
    exact c
end
section
variable {X : Cx} {B : Hp} {W0 : Wd} {S : En} {e a b : Expr} {es : List Expr} {pos : Pos} {E : Ends'}
/-- x.extend(e), e a new list -/
theorem sd_extend {x : Str} {px apos cpos : Pos} (i : Nat) (l : List D) (hN : X.N[i]? = some x) (h : S[i]? = some (some (.own l))) (he : FD X B S e fun m => l.length + m.length ≤ 100000 ∧ E.nx (S.set i (some (.own (l ++ m)))))
    (hv : Vis X.env.scope x := by first | exact Or.inl rfl | exact Or.inr (Or.inl rfl) | exact Or.inr (Or.inr rfl)) (hd : (x == ("__debug__" : Str)) = false := by decide) (hcd : (x == ("__classdict__" : Str)) = false := by decide)
    (hps : PE X (.Call (.Attribute (.Name x px) "extend" apos) [e] [] cpos) (tBM X.K "list" rExtend (tVar i) (tCons (WE X e) tNil)) := by
      exact pe_bm PySem.F.plainAttrs_list PySem.F.slot_list_extend PySem.F.type_list_extend mt_extend (pe_var (by rfl) (by first | exact Or.inl rfl | exact Or.inr (Or.inl rfl) | exact Or.inr (Or.inr rfl))) (pa_cons DL.we_pe pa_nil))
    (hs : swapsWith (.Call (.Attribute (.Name x px) "extend" apos) [e] [] cpos) none pos.line X.env = pure false := by rfl) : SD X B W0 S (.Expr (.Call (.Attribute (.Name x px) "extend" apos) [e] [] cpos) pos) E := fun σ W H r z D' k => by
  refine PS.w (ps_expr hps hs) ?_
  obtain ⟨v, e1, p, xs, ev, hB, n, hI, hH, d0⟩ := r.sl i _ h
  subst ev
  refine ⟨_, e1, .inl ⟨rfl, _, SqL.of hH⟩, ?_⟩
  refine he σ W H r _ fun m p1 zs W1 H1 s1 ok1 hp1 nP1 i1 hl1 n1 q1 => ?_
  obtain ⟨hl, q1⟩ := q1
  have hH1 : H1 p = some (.lst xs) := s1.keep _ _ hH n
  have nP : ¬ W1.P p := fun q => n (s1.oldP p _ hH q)
  have hI1 : W1.I p = none := s1.old p _ hH (fun _ z => by cases z) hI
  refine ⟨p, p1, xs, zs, rfl, rfl, hH1, hl1, Nat.le_trans (by rw [← d0.length, ← n1.length]; exact hl) (by decide), ?_⟩
  have ok2 : Ok (gOf X) W1 (upd H1 p (.lst (xs ++ zs))) := {
    gd := fun b hb => by
      obtain ⟨n1, n2⟩ := ok1.gd b hb
      refine ⟨n1, ?_⟩
      by_cases q : b = p
      · subst q
        rw [upd_same]
        exact ⟨(fun z => by cases z), (fun _ z => by cases z)⟩
      · rw [upd_ne q]
        exact n2
    ex := fun b o hb => by
      rw [upd_ne (fun y => by rw [y, hI1] at hb; cases hb)]
      exact ok1.ex b o hb
    pot := fun b hb => by
      obtain ⟨nb, y2, w2, h2⟩ := ok1.pot b hb
      have ne : b ≠ p := fun y => nP (y ▸ hb)
      exact ⟨nb, y2, w2, by rw [upd_ne ne]; exact h2⟩ }
  have z1 := z.trans r.ok s1
  have z2 : Stp W0 B W1 (upd H1 p (.lst (xs ++ zs))) := ⟨z1.I, z1.P, fun b o hb hn => by rw [upd_ne (ne_of_none hb hB)]; exact z1.keep b o hb hn, z1.old, z1.oldP⟩
  have r1 := r.step s1 ok1
  have lt : i < S.length := (List.getElem?_eq_some_iff.mp h).1
  refine k.nx _ σ W1 _ ?_ z2 s1.I q1
  refine ⟨ok2, r.gb, by simpa using r.len, fun j s ej => ?_, fun a b la lb q ne e2 e3 e4 => ?_, r1.distT.setS i fun l z => by cases z⟩
  · by_cases q : i = j
    · subst q
      rw [List.getElem?_set_self lt] at ej
      cases ej
      exact ⟨_, e1, p, _, rfl, hB, nP, hI1, upd_same, (d0.mono s1.I).append n1⟩
    · rw [List.getElem?_set_ne q] at ej
      obtain ⟨v2, e2, h2⟩ := r1.sl j s ej
      refine ⟨v2, e2, ?_⟩
      cases s with
      | val d2 => exact h2
      | pot => exact h2
      | own m =>
        obtain ⟨p2, ys, rfl, b1, b2, b3, b4, b5⟩ := h2
        refine ⟨p2, ys, rfl, b1, b2, b3, ?_, b5⟩
        rw [upd_ne (fun y => by
          rw [y] at e2
          exact r.dist i j l m p q h ej e1 e2)]
        exact b4
      | ownT m =>
        obtain ⟨p2, ys, rfl, b1, b2, b3, b4, b5⟩ := h2
        refine ⟨p2, ys, rfl, b1, b2, b3, ?_, b5⟩
        rw [upd_ne (fun y => by rw [y, hH1] at b4; cases b4)]
        exact b4
      | inst C p2 dx fs =>
        obtain ⟨vs, rfl, b1, b2, b3, b4, b5, b6, b7, b8, b9, b10⟩ := h2
        refine ⟨vs, rfl, b1, b2, b3, b4, b5, b6, b7, ?_, ?_, b10⟩
        · rw [upd_ne (fun y => by rw [y, hH1] at b8; cases b8)]
          exact b8
        · rw [upd_ne (fun y => by rw [y, hH1] at b9; cases b9)]
          exact b9
  · have g : ∀ {c : Nat} {m0 : List D}, (S.set i (some (.own (l ++ m))))[c]? = some (some (.own m0)) → ∃ m', S[c]? = some (some (.own m')) := fun {c m0} ec => by
      by_cases q2 : i = c
      · subst q2
        exact ⟨l, h⟩
      · rw [List.getElem?_set_ne q2] at ec
        exact ⟨m0, ec⟩
    obtain ⟨m1, g1⟩ := g e2
    obtain ⟨m2, g2⟩ := g e3
    exact r.dist a b m1 m2 q ne g1 g2 e4
end
/-- x[j], x the script -/
theorem ed_ixF {X : Cx} {B : Hp} {S : En} {a b : Expr} {pos : Pos} {Q : D → Prop} (h : ED X B S a fun x => ED X B S b fun y => ∃ (l : List Int) (j : Nat) (z : Int), x = .frl l ∧ y = .int (j : Int) ∧ l[j]? = some z ∧ Q (.int z)) (hs : PlainIx b := by exact fun _ _ => rfl) : ED X B S (.Subscript a b pos) Q := fun σ W H r R k => by
  refine PE.w (pe_ix ix_list we_pe we_pe hs) ?_
  refine h σ W H r _ fun d v W1 H1 s1 ok1 n1 q1 => ?_
  refine q1 σ W1 H1 (r.step s1 ok1) _ fun d2 u W2 H2 s2 ok2 n2 q2 => ?_
  obtain ⟨l, j, z, rfl, rfl, e, q⟩ := q2
  have k2 := (k.step s1 ok1).step s2 ok2
  cases n2
  cases n1 with
  | frl h => exact ⟨_, _, (j : Int), .int z, rfl, rfl, ok2.ex.l (s2.I.l h), atI_nat (by rw [List.getElem?_map, e]; rfl), k2.now ok2 (.int z) q⟩
end DL

set_option Elab.async false
set_option linter.all false
set_option maxRecDepth 100000
set_option maxHeartbeats 4000000
/-! a comprehension whose list goes to a name at once -/
namespace DL
open PySem L2
def LC (X : Cx) (B : Hp) (S : En) (t : TE) (Q : List D → Prop) : Prop := ∀ σ W H, Rep X.K (gOf X) B S σ W H → ∀ R, ContF X.K (gOf X) W H Q R → t σ H R
section
variable {X : Cx} {B : Hp} {W0 : Wd} {S : En} {e a b : Expr} {es : List Expr} {pos : Pos} {E : Ends'}
end
end DL

set_option Elab.async false
set_option linter.all false
set_option maxRecDepth 100000
set_option maxHeartbeats 4000000
/-! all, any; defs called by keywords; comprehensions with a test, with two ranges -/
namespace DL
open PySem PySem.Spec PyProof.Rows L2
theorem Dns.bls {K : PySem.W.Frag} {I : Hp} : ∀ {bs : List Bool} {xs : List V}, Dns K I (bs.map D.bl) xs → xs = bs.map V.bl
  | [], _, .nil => rfl
  | b :: bs, _, .cons (.bl _) r => by rw [List.map_cons, Dns.bls r]
theorem Dns.ints {K : PySem.W.Frag} {I : Hp} : ∀ {bs : List Int} {xs : List V}, Dns K I (bs.map D.int) xs → xs = bs.map V.int
  | [], _, .nil => rfl
  | b :: bs, _, .cons (.int _) r => by rw [List.map_cons, Dns.ints r]
section
variable {X : Cx} {B : Hp} {S : En} {pos p : Pos} {Q : D → Prop} {e : Expr} {es : List Expr} {x : Str} {k n : Nat} {kws : List Keyword}
theorem cd_all {bs : List Bool} (hc : X.calm = true) (q : Q (.bl (bs.all id))) : CD X (.builtin "all") [.val (.lst (bs.map D.bl))] Q := cd_of (cr_all hc) fun vs W H ok ha R c => by
  obtain ⟨v, rfl, h⟩ := one_arg ha
  cases h with
  | lst h z => exact ⟨_, bs, rfl, by rw [← z.bls]; exact SqL.of (ok.ex _ _ h), c.now ok (.bl _) q⟩
theorem cd_any {bs : List Bool} (hc : X.calm = true) (q : Q (.bl (bs.any id))) : CD X (.builtin "any") [.val (.lst (bs.map D.bl))] Q := cd_of (cr_any hc) fun vs W H ok ha R c => by
  obtain ⟨v, rfl, h⟩ := one_arg ha
  cases h with
  | lst h z => exact ⟨_, bs, rfl, by rw [← z.bls]; exact SqL.of (ok.ex _ _ h), c.now ok (.bl _) q⟩
/-! a def called by keywords alone -/
theorem we_callK0 {f : Addr} {fd : FuncData} {ps ks : List Str} {sp : SpG} {g : List Code} {gf : List Value → List Value → List Value} {gV : List V → List V → List V} {σ : L2.St} {H : Hp} {Q : VK}
    (F : GnOk X.prog X.w X.K X.mg X.base k f fd ps sp) (hr : Room k X.A) (hG : X.A.guards = some g) (hg : Gl X x) (hm : X.mg x = some (.ref f)) (hk : PySem.W.keepIn X.K (.ref f) = true) (hb : KBn X.K fd ps 0 ks gf gV)
    (h : WK X kws σ H fun zs H1 => zs.length = ks.length ∧ sp g (gV [] zs) H1 Q)
    (hall : (backToKw pos (keywordEach kws X.env)).all (·.1.isSome) = true) (hks : (backToKw pos (keywordEach kws X.env)).filterMap (·.1) = ks) (hdb : (x == ("__debug__" : Str)) = false)
    (hpl : ((backTo pos (starEach [] X.env)).any (·.1) || (backToKw pos (keywordEach kws X.env)).any (·.1.isNone)) = false) : WE X (.Call (.Name x p) [] kws pos) σ H Q := fun pins s I => by
  refine wpAny_Call_Name_kw (ld_glob I hg hm ?_ hdb)
  refine PySem.W.callWith_KW0 (h₀ := X.base) I.ok.mod.kin hk hall (thn (h pos pins s I) fun ws s2 ⟨zs, H2, I2, rz, l2, q2⟩ => ⟨I2.kIn, ?_⟩) hpl
  rw [hks]
  have n2 : ws.length = ks.length := by rw [← rz.length, l2]
  exact wpAny_call (run_gb F hr hG I2.env0 (hb.to _ [] ws I2.kIn rfl n2) I2 (hb.rel (vs := []) (us := []) .nil rz) q2 fun _ _ z => z)
structure DfK (P : Program) (w : World) (K : PySem.W.Frag) (mg : Str → Option Value) (base : Heap) (x : Str) (k : Nat) (ks : List Str) (midD : List Sl → List Sl) (sp : SpD) : Prop where
  ex : ∃ f fd ps gf, ∃ mid : List V → List V, GnOk P w K mg base k f fd ps (lift K sp) ∧ mg x = some (.ref f) ∧ PySem.W.keepIn K (.ref f) = true ∧ KBn K fd ps 0 ks gf (fun vs zs => vs ++ mid zs) ∧ ∀ W bs zs, Args K W bs zs → Args K W (midD bs) (mid zs)
theorem ed_callK0 {ks : List Str} {midD : List Sl → List Sl} {sp : SpD} (F : DfK X.prog X.w X.K X.mg X.base x k ks midD sp) (hr : Room k X.A) (hG : X.A.guards = some (gOf X)) (h : KD X B S kws fun bs => bs.length = ks.length ∧ sp (midD bs) Q) (hg : Gl X x := by rfl)
    (hall : (backToKw pos (keywordEach kws X.env)).all (·.1.isSome) = true := by rfl) (hks : (backToKw pos (keywordEach kws X.env)).filterMap (·.1) = ks := by rfl) (hdb : (x == ("__debug__" : Str)) = false := by decide)
    (hpl : ((backTo pos (starEach [] X.env)).any (·.1) || (backToKw pos (keywordEach kws X.env)).any (·.1.isNone)) = false := by rfl) : ED X B S (.Call (.Name x p) [] kws pos) Q := fun σ W H r R c => by
  obtain ⟨f, fd, ps, gf, mid, F, hm, hk, hb, hc⟩ := F.ex
  refine we_callK0 F hr hG hg hm hk hb ?_ hall hks hdb hpl
  refine h σ W H r _ fun bs zs W1 H1 s1 ok1 n1 q1 => ?_
  obtain ⟨l, q1⟩ := q1
  exact ⟨by rw [← l]; exact (Paired.length n1).symm, midD bs, W1, Q, ok1, hc _ _ _ n1, q1, c.step s1 ok1⟩
/-! comprehensions with a test -/
/-- [elt for g in a list if c] -/
theorem fd_lcLI {elt tg iter c : Expr} {scope : Scope} {own : List (Str × Nat)} {g : TG} {l : List D} {Q : List D → Prop} (J : Nat → List D → Prop) (S' : D → En) (hc : X.calm = true) (hN : X.N.Nodup) (ok : BlkOk X.N X.env.scope scope own)
    (hg : ∀ (s : Shared) (H : Hp) (C : Addr) (cl : List (Str × Addr)) (fp : List Addr), PG (X.blk s H scope (compEnvC scope cl C X.env) fp) tg g)
    (h : ED X B S iter fun d => d = .lst l ∧ l.length ≤ 50000 ∧ J 0 []) (hp : ∀ d ∈ l, Pat X.K g (own.map (·.2)) S d (S' d))
    (he : ∀ (i : Nat) d acc, l[i]? = some d → acc.length ≤ i → J i acc → ∀ (s : Shared) (H0 : Hp) (C : Addr) (cl : List (Str × Addr)) (fp : List Addr), TD (X.blk s H0 scope (compEnvC scope cl C X.env) fp) B (S' d) c fun b =>
      if b = true then ∀ (s : Shared) (H0 : Hp) (C : Addr) (cl : List (Str × Addr)) (fp : List Addr), ED (X.blk s H0 scope (compEnvC scope cl C X.env) fp) B (S' d) elt fun y => J (i + 1) (acc ++ [y]) else J (i + 1) acc)
    (hd : ∀ acc, acc.length ≤ l.length → J l.length acc → Q acc) (hs : ∀ x, foldedSetIterable iter X.env x = pure x := by intro _; rfl) : FD X B S (.ListComp elt [⟨tg, iter, [c], 0⟩] scope pos) Q := fun σ W H r R k => by
  refine PE.w (pe_lc (te := WEb X scope elt) (tt := WTb X scope c) hc hN (pi_list we_pe) ok hg (fun s H C cl fp => pts_one (wtb_pt s H C cl fp)) web_pe hs) ?_
  refine h σ W H r _ fun d v W1 H1 s1 ok1 n1 q1 => ?_
  obtain ⟨rfl, hz, j0⟩ := q1
  cases n1 with
  | @lst _ a xs ha m =>
    refine ⟨a, rfl, ⟨xs, SqL.of (ok1.ex _ _ ha)⟩, fun p hp0 => ?_⟩
    have r1 := r.step s1 ok1
    refine lc_list (K := X.K) (a := a) (xs := xs) (fun i H' => ∃ acc W', Mid X.K (gOf X) W1 H1 p acc W' H' ∧ acc.length ≤ i ∧ J i acc) ⟨[], W1, ⟨Stp.own hp0, ok1.own hp0, ok1.notP hp0, ok1.free hp0, [], upd_same, .nil⟩, Nat.le_refl _, j0⟩
      (fun i H' _ ⟨acc, W', mm, _⟩ => SqL.of (mm.ok.ex _ _ (mm.st.I _ _ ha))) ?_ ?_
    · rintro i x H' hx ⟨acc, W', mm, hl, j⟩
      obtain ⟨d, hd', nd⟩ := m.get hx
      have r2 := r1.step mm.st mm.ok
      refine hp d (List.mem_of_getElem? hd') (gOf X) B σ W' H' x r2 (nd.mono mm.st.I) _ fun σ2 e2 r3 => ?_
      refine ⟨e2, ?_⟩
      show WTb X scope c σ2 H' _
      intro s H0 C cl fp
      have lt : i < l.length := (List.getElem?_eq_some_iff.mp hd').1
      refine he i d acc hd' hl j s H0 C cl fp σ2 W' H' r3 _ fun b W2 H2 s2 ok2 q2 => ?_
      cases b with
      | false => exact iteF ⟨acc, W2, mm.step s2 ok2, Nat.le_succ_of_le hl, by simpa using q2⟩
      | true =>
        refine iteT ?_
        show WEb X scope elt σ2 H2 _
        intro s H0 C cl fp
        refine (show ∀ (s : Shared) (H0 : Hp) (C : Addr) (cl : List (Str × Addr)) (fp : List Addr), ED (X.blk s H0 scope (compEnvC scope cl C X.env) fp) B (S' d) elt fun y => J (i + 1) (acc ++ [y]) by simpa using q2) s H0 C cl fp σ2 W2 H2 (r3.step s2 ok2) _ fun y v W3 H3 s3 ok3 n3 q3 => ?_
        obtain ⟨xs', e1, e3, m3⟩ := ((mm.step s2 ok2).step s3 ok3).more hp0 n3 (by omega)
        exact ⟨xs', e1, e3, _, W3, m3, by simp only [List.length_append, List.length_singleton]; omega, q3⟩
    · rintro H' ⟨acc, W', mm, hl, j⟩
      obtain ⟨ys, hH, ds⟩ := mm.h
      rw [← m.length] at hl j
      exact k acc p ys W' H' (s1.trans ok1 mm.st) mm.ok (s1.free ok1 hp0) mm.n mm.i hH ds (hd acc hl j)
/-- .. of a tuple -/
theorem fd_lcTI {elt tg iter c : Expr} {scope : Scope} {own : List (Str × Nat)} {g : TG} {l : List D} {Q : List D → Prop} (J : Nat → List D → Prop) (S' : D → En) (hc : X.calm = true) (hN : X.N.Nodup) (ok : BlkOk X.N X.env.scope scope own)
    (hg : ∀ (s : Shared) (H : Hp) (C : Addr) (cl : List (Str × Addr)) (fp : List Addr), PG (X.blk s H scope (compEnvC scope cl C X.env) fp) tg g)
    (h : ED X B S iter fun d => d = .tup l ∧ l.length ≤ 50000 ∧ J 0 []) (hp : ∀ d ∈ l, Pat X.K g (own.map (·.2)) S d (S' d))
    (he : ∀ (i : Nat) d acc, l[i]? = some d → acc.length ≤ i → J i acc → ∀ (s : Shared) (H0 : Hp) (C : Addr) (cl : List (Str × Addr)) (fp : List Addr), TD (X.blk s H0 scope (compEnvC scope cl C X.env) fp) B (S' d) c fun b =>
      if b = true then ∀ (s : Shared) (H0 : Hp) (C : Addr) (cl : List (Str × Addr)) (fp : List Addr), ED (X.blk s H0 scope (compEnvC scope cl C X.env) fp) B (S' d) elt fun y => J (i + 1) (acc ++ [y]) else J (i + 1) acc)
    (hd : ∀ acc, acc.length ≤ l.length → J l.length acc → Q acc) (hs : ∀ x, foldedSetIterable iter X.env x = pure x := by intro _; rfl) : FD X B S (.ListComp elt [⟨tg, iter, [c], 0⟩] scope pos) Q := fun σ W H r R k => by
  refine PE.w (pe_lc (te := WEb X scope elt) (tt := WTb X scope c) hc hN (pi_tup we_pe) ok hg (fun s H C cl fp => pts_one (wtb_pt s H C cl fp)) web_pe hs) ?_
  refine h σ W H r _ fun d v W1 H1 s1 ok1 n1 q1 => ?_
  obtain ⟨rfl, hz, j0⟩ := q1
  cases n1 with
  | @tup _ a xs ha m =>
    refine ⟨a, rfl, ⟨xs, SqT.of (ok1.ex _ _ ha)⟩, fun p hp0 => ?_⟩
    have r1 := r.step s1 ok1
    refine lc_tup (K := X.K) (a := a) (xs := xs) (fun i H' => ∃ acc W', Mid X.K (gOf X) W1 H1 p acc W' H' ∧ acc.length ≤ i ∧ J i acc) ⟨[], W1, ⟨Stp.own hp0, ok1.own hp0, ok1.notP hp0, ok1.free hp0, [], upd_same, .nil⟩, Nat.le_refl _, j0⟩
      (fun i H' _ ⟨acc, W', mm, _⟩ => SqT.of (mm.ok.ex _ _ (mm.st.I _ _ ha))) ?_ ?_
    · rintro i x H' hx ⟨acc, W', mm, hl, j⟩
      obtain ⟨d, hd', nd⟩ := m.get hx
      have r2 := r1.step mm.st mm.ok
      refine hp d (List.mem_of_getElem? hd') (gOf X) B σ W' H' x r2 (nd.mono mm.st.I) _ fun σ2 e2 r3 => ?_
      refine ⟨e2, ?_⟩
      show WTb X scope c σ2 H' _
      intro s H0 C cl fp
      have lt : i < l.length := (List.getElem?_eq_some_iff.mp hd').1
      refine he i d acc hd' hl j s H0 C cl fp σ2 W' H' r3 _ fun b W2 H2 s2 ok2 q2 => ?_
      cases b with
      | false => exact iteF ⟨acc, W2, mm.step s2 ok2, Nat.le_succ_of_le hl, by simpa using q2⟩
      | true =>
        refine iteT ?_
        show WEb X scope elt σ2 H2 _
        intro s H0 C cl fp
        refine (show ∀ (s : Shared) (H0 : Hp) (C : Addr) (cl : List (Str × Addr)) (fp : List Addr), ED (X.blk s H0 scope (compEnvC scope cl C X.env) fp) B (S' d) elt fun y => J (i + 1) (acc ++ [y]) by simpa using q2) s H0 C cl fp σ2 W2 H2 (r3.step s2 ok2) _ fun y v W3 H3 s3 ok3 n3 q3 => ?_
        obtain ⟨xs', e1, e3, m3⟩ := ((mm.step s2 ok2).step s3 ok3).more hp0 n3 (by omega)
        exact ⟨xs', e1, e3, _, W3, m3, by simp only [List.length_append, List.length_singleton]; omega, q3⟩
    · rintro H' ⟨acc, W', mm, hl, j⟩
      obtain ⟨ys, hH, ds⟩ := mm.h
      rw [← m.length] at hl j
      exact k acc p ys W' H' (s1.trans ok1 mm.st) mm.ok (s1.free ok1 hp0) mm.n mm.i hH ds (hd acc hl j)
/-- [elt for g in a tuple] -/
theorem fd_lcT {elt tg iter : Expr} {scope : Scope} {own : List (Str × Nat)} {g : TG} {l : List D} {Q : List D → Prop} (J : Nat → List D → Prop) (S' : D → En) (hc : X.calm = true) (hN : X.N.Nodup) (ok : BlkOk X.N X.env.scope scope own)
    (hg : ∀ (s : Shared) (H : Hp) (C : Addr) (cl : List (Str × Addr)) (fp : List Addr), PG (X.blk s H scope (compEnvC scope cl C X.env) fp) tg g)
    (h : ED X B S iter fun d => d = .tup l ∧ l.length ≤ 50000 ∧ J 0 []) (hp : ∀ d ∈ l, Pat X.K g (own.map (·.2)) S d (S' d))
    (he : ∀ (i : Nat) d acc, l[i]? = some d → acc.length = i → J i acc → ∀ (s : Shared) (H0 : Hp) (C : Addr) (cl : List (Str × Addr)) (fp : List Addr), ED (X.blk s H0 scope (compEnvC scope cl C X.env) fp) B (S' d) elt fun y => J (i + 1) (acc ++ [y]))
    (hd : ∀ acc, acc.length = l.length → J l.length acc → Q acc) (hs : ∀ x, foldedSetIterable iter X.env x = pure x := by intro _; rfl) : FD X B S (.ListComp elt [⟨tg, iter, [], 0⟩] scope pos) Q := fun σ W H r R k => by
  refine PE.w (pe_lc (te := WEb X scope elt) hc hN (pi_tup we_pe) ok hg (fun _ _ _ _ _ => pts_nil) web_pe hs) ?_
  refine h σ W H r _ fun d v W1 H1 s1 ok1 n1 q1 => ?_
  obtain ⟨rfl, hz, j0⟩ := q1
  cases n1 with
  | @tup _ a xs ha m =>
    refine ⟨a, rfl, ⟨xs, SqT.of (ok1.ex _ _ ha)⟩, fun p hp0 => ?_⟩
    have r1 := r.step s1 ok1
    refine lc_tup (K := X.K) (a := a) (xs := xs) (fun i H' => ∃ acc W', Mid X.K (gOf X) W1 H1 p acc W' H' ∧ acc.length = i ∧ J i acc) ⟨[], W1, ⟨Stp.own hp0, ok1.own hp0, ok1.notP hp0, ok1.free hp0, [], upd_same, .nil⟩, rfl, j0⟩
      (fun i H' _ ⟨acc, W', mm, _⟩ => SqT.of (mm.ok.ex _ _ (mm.st.I _ _ ha))) ?_ ?_
    · rintro i x H' hx ⟨acc, W', mm, hl, j⟩
      obtain ⟨d, hd', nd⟩ := m.get hx
      have r2 := r1.step mm.st mm.ok
      refine hp d (List.mem_of_getElem? hd') (gOf X) B σ W' H' x r2 (nd.mono mm.st.I) _ fun σ2 e2 r3 => ?_
      refine ⟨e2, ?_⟩
      show WEb X scope elt σ2 H' _
      intro s H0 C cl fp
      have lt : i < l.length := (List.getElem?_eq_some_iff.mp hd').1
      refine he i d acc hd' hl j s H0 C cl fp σ2 W' H' r3 _ fun y v W2 H2 s2 ok2 n2 q2 => ?_
      obtain ⟨xs', e1, e3, m3⟩ := (mm.step s2 ok2).more hp0 n2 (by omega)
      exact ⟨xs', e1, e3, _, W2, m3, by simp [hl], q2⟩
    · rintro H' ⟨acc, W', mm, hl, j⟩
      obtain ⟨ys, hH, ds⟩ := mm.h
      rw [← m.length] at hl j
      exact k acc p ys W' H' (s1.trans ok1 mm.st) mm.ok (s1.free ok1 hp0) mm.n mm.i hH ds (hd acc hl j)
end
end DL

set_option Elab.async false
set_option linter.all false
set_option maxRecDepth 100000
set_option maxHeartbeats 2000000
/-! zip of a list or a tuple with a list or a tuple, whichever each is -/
namespace ZX
open PySem PySem.Spec PyProof.Rows
/-- an iterator at `it` that goes through the items of what stands at `l` -/
structure Feed where
  it : Addr
  l : Addr
  xs : Array Value
  st : Nat → Heap → Prop
  src : Heap → Prop
  stE : ∀ {h h' : Heap} {b : Addr} {k : Nat}, st k h → Heap.ExtBut b h h' → it ≠ b → st k h'
  srcE : ∀ {h h' : Heap} {b : Addr}, src h → Heap.ExtBut b h h' → l ≠ b → src h'
  item : ∀ {p : Program} {w : World} {A : Around} {E : Value → Shared → Prop} {s : Shared} {k : Nat} {x : Value} {Q : Value → Shared → Prop}, st k s.heap → src s.heap → xs[k]? = some x →
    (∀ h', st (k + 1) h' → Heap.SameBut it s.heap h' → Q x { s with heap := h' }) → wpAny (model p w) A (Builtin.SmallTypes.nextOf (.ref it)) Q E s
  done : ∀ {p : Program} {w : World} {A : Around} {E : Value → Shared → Prop} {s : Shared} {k : Nat} {Q : Value → Shared → Prop}, A.handled = none → st k s.heap → src s.heap → xs[k]? = none →
    (∀ h' e, Heap.ExtBut it s.heap h' → (∃ o, h'.get? e = some o ∧ o.cls = .type "StopIteration") → E (.ref e) { s with heap := h' }) → wpAny (model p w) A (Builtin.SmallTypes.nextOf (.ref it)) Q E s
  obj : ∀ {h : Heap} {k : Nat}, st k h → ∃ o, h.get? it = some o ∧ ∀ v, o.data ≠ .cell v
  same : ∀ {h h' : Heap} {k : Nat}, st k h → (∀ o, h.get? it = some o → h'.get? it = some o) → st k h'
def feedL (it l : Addr) (xs : Array Value) : Feed where
  it := it
  l := l
  xs := xs
  st := fun k h => h.IsListIter it l k
  src := fun h => h.IsList l xs
  stE := fun a b c => a.extBut b c
  srcE := fun a b c => a.extBut b c
  item := fun a b c d => wpAny_nextOf_list_item a b c d
  done := fun a b c d e => wpAny_nextOf_list_end a b c d e
  obj := fun ⟨o, e, _, d⟩ => ⟨o, e, fun v q => by rw [d] at q; cases q⟩
  same := fun a b => a.at b
def feedT (it l : Addr) (xs : Array Value) : Feed where
  it := it
  l := l
  xs := xs
  st := fun k h => h.IsTupleIter it l k
  src := fun h => h.IsTuple l xs
  stE := fun a b c => a.extBut b c
  srcE := fun a b c => a.extBut b c
  item := fun a b c d => RZ.nextOf_tuple_item a b c d
  done := fun a b c d e => RZ.nextOf_tuple_end a b c d e
  obj := fun ⟨o, e, _, d⟩ => ⟨o, e, fun v q => by rw [d] at q; cases q⟩
  same := fun a b => a.at b
section
variable {p : Program} {w : World} {A : Around} {E : Value → Shared → Prop} {s : Shared} {M N : Feed} {z TI TO : Addr} {i j : Nat} {a b : Value}
/-- how the zip stands ahead of a turn -/
structure Stands (M N : Feed) (z TI TO : Addr) (i j : Nat) (h : Heap) : Prop where
  z : IsZip h z TI TO .none
  ti : IsPair h TI (.ref M.it) (.ref N.it)
  to : ∃ a b, IsPair h TO a b
  f : M.st i h
  g : N.st j h
theorem next_item {x y : Value} {Q : Value → Shared → Prop} (D : ZipApart z TI TO M.it N.it M.l N.l) (st : Stands M N z TI TO i j s.heap) (sf : M.src s.heap) (sg : N.src s.heap) (hx : M.xs[i]? = some x) (hy : N.xs[j]? = some y)
    (hQ : ∀ h', IsZip h' z TI TO (rawInt s.heap.objs.size) → IsPair h' TO x y → M.st (i + 1) h' → N.st (j + 1) h' → IsPair h' s.heap.objs.size x y → h'.objs.size = s.heap.objs.size + 1 →
      (∀ c o, c ≠ z → c ≠ TO → c ≠ M.it → c ≠ N.it → s.heap.get? c = some o → h'.get? c = some o) → Q (.ref s.heap.objs.size) { s with heap := h' }) :
    wpAny (model p w) A (Builtin.«zip.__next__» ⟨[.ref z], []⟩) (fun fin s' => ∃ v, fin = .done (.ret v) ∧ Q v s') E s := by
  obtain ⟨hz, hTI, ⟨a, b, hTO⟩, f0, g0⟩ := st
  show wpAny _ _ (field (.ref z) 2 >>= _) _ _ _
  refine wpAny_bind (wpAny_field hz rfl (x := .bool false) rfl ?_); show wpAny _ _ (field (.ref z) 3 >>= _) _ _ _
  refine wpAny_bind (wpAny_field hz rfl (x := .ref TI) rfl ?_); refine wpAny_bind (wpAny_seqItems hTI rfl ?_)
  show wpAny _ _ (Builtin.SmallTypes.ownedTupleIsFree (.ref z) >>= _) _ _ _
  refine wpAny_bind ?_; unfold Builtin.SmallTypes.ownedTupleIsFree
  refine wpAny_bind (wpAny_field hz rfl (x := .none) rfl (wpAny_pure ?_)); simp only [if_true]
  refine wpAny_bind (wpAny_rule ?_); refine wpAny_bind (wpAny_field hz rfl (x := .ref TO) rfl ?_)
  refine wpAny_bind (wpAny_setField_rec hz (by simp) fun m1 z1 e1 => ?_)
  have z1' : IsZip m1 z TI TO .ellipsis := z1
  refine wpAny_bind ?_; simp only [List.zipIdx_cons, List.zipIdx_nil, List.forIn_cons, List.forIn_nil]
  have x1 := e1.extBut
  refine wpAny_bind (wpAny_bind (wpAny_onRaise ?_)); show wpAny _ _ (Builtin.SmallTypes.nextOf (.ref M.it) >>= _) _ _ _
  refine wpAny_bind (M.item (M.stE f0 x1 D.i1z) (M.srcE sf x1 D.l1z) hx fun m2 f2 e2 => wpAny_pure ?_)
  have x2 := e2.extBut
  have t2 : IsPair m2 TO a b := x2 _ _ D.TOi1 (x1 _ _ D.TOz hTO)
  refine wpAny_bind (wpAny_seqItems t2 rfl ?_); refine wpAny_bind (wpAny_updateSeq_pair t2 fun m3 t3 e3 => ?_)
  have x3 := e3.extBut
  have t3' : IsPair m3 TO x b := t3
  refine wpAny_bind (wpAny_letGo (wpAny_pure ?_)); refine wpAny_bind (wpAny_bind (wpAny_onRaise ?_))
  show wpAny _ _ (Builtin.SmallTypes.nextOf (.ref N.it) >>= _) _ _ _
  refine wpAny_bind (N.item (N.stE (N.stE (N.stE g0 x1 D.i2z) x2 D.i12.symm) x3 D.TOi2.symm) (N.srcE (N.srcE (N.srcE sg x1 D.l2z) x2 D.l2i1) x3 D.l2TO) hy fun m4 g4 e4 => wpAny_pure ?_)
  have x4 := e4.extBut
  have t4 : IsPair m4 TO x b := x4 _ _ D.TOi2 t3'
  refine wpAny_bind (wpAny_seqItems t4 rfl ?_); refine wpAny_bind (wpAny_updateSeq_pair t4 fun m5 t5 e5 => ?_)
  have x5 := e5.extBut
  have t5' : IsPair m5 TO x y := t5
  refine wpAny_bind (wpAny_letGo (wpAny_pure (wpAny_pure ?_))); refine wpAny_bind (wpAny_seqItems t5' rfl ?_)
  refine wpAny_bind (wpAny_newTuple ?_)
  have size5 : m5.objs.size = s.heap.objs.size := by rw [e5.1, e4.1, e3.1, e2.1, e1.1]
  have z5 : IsZip m5 z TI TO .ellipsis := x5 _ _ D.TOz.symm (x4 _ _ D.i2z.symm (x3 _ _ D.TOz.symm (x2 _ _ D.i1z.symm z1')))
  have old5 : ∀ c o, c ≠ z → c ≠ TO → c ≠ M.it → c ≠ N.it → s.heap.get? c = some o → m5.get? c = some o := fun c o n1 n2 n3 n4 e => x5 _ _ n2 (x4 _ _ n4 (x3 _ _ n2 (x2 _ _ n3 (x1 _ _ n1 e))))
  have f5 : M.st (i + 1) m5 := M.stE (M.stE (M.stE f2 x3 D.TOi1.symm) x4 D.i12) x5 D.TOi1.symm
  have g5 : N.st (j + 1) m5 := N.stE g4 x5 D.TOi2.symm
  have zlt : z < m5.objs.size := Heap.lt_size z5
  show wpAny _ _ (Builtin.SmallTypes.ownedTupleHandOut (.ref z) (.ref m5.objs.size) >>= _) _ _ _
  refine wpAny_bind ?_; unfold Builtin.SmallTypes.ownedTupleHandOut
  have z6 : IsZip (m5.push { cls := .type "tuple", data := .seq #[x, y] }) z TI TO .ellipsis := Heap.get?_push_of_some _ z5
  refine wpAny_bind (wpAny_setField_rec z6 (by simp) fun m7 z7 e7 => ?_)
  have z7' : IsZip m7 z TI TO (rawInt m5.objs.size) := z7
  refine wpAny_setField_rec z7' (by simp) fun m8 z8 e8 => ?_
  have z8' : IsZip m8 z TI TO (rawInt m5.objs.size) := z8
  have up : ∀ c o, c ≠ z → m5.get? c = some o → m8.get? c = some o := fun c o n e => e8.extBut _ _ n (e7.extBut _ _ n (Heap.get?_push_of_some _ e))
  have nz : m5.objs.size ≠ z := Nat.ne_of_gt zlt
  have T8 : IsPair m8 m5.objs.size x y := e8.extBut _ _ nz (e7.extBut _ _ nz (Heap.get?_push_size _ rfl))
  have size8 : m8.objs.size = m5.objs.size + 1 := by rw [e8.1, e7.1, Heap.size_push]
  rw [size5] at z8' T8 size8
  refine wpAny_pure ⟨_, rfl, ?_⟩
  show Q (.ref m5.objs.size) _
  rw [size5]
  exact hQ m8 z8' (up _ _ D.TOz t5') (M.same f5 fun o e => up _ o D.i1z e) (N.same g5 fun o e => up _ o D.i2z e) T8 size8 fun c o n1 n2 n3 n4 e => up c o n1 (old5 c o n1 n2 n3 n4 e)
theorem next_end {Q : Fin → Shared → Prop} (hh : A.handled = none) (D : ZipApart z TI TO M.it N.it M.l N.l) (st : Stands M N z TI TO i j s.heap) (sf : M.src s.heap) (sg : N.src s.heap) (hend : M.xs[i]? = none ∨ N.xs[j]? = none)
    (hE : ∀ h' e, (∀ c o, c ≠ z → c ≠ TO → c ≠ M.it → c ≠ N.it → s.heap.get? c = some o → h'.get? c = some o) → (∃ o, h'.get? e = some o ∧ o.cls = .type "StopIteration") → E (.ref e) { s with heap := h' }) :
    wpAny (model p w) A (Builtin.«zip.__next__» ⟨[.ref z], []⟩) Q E s := by
  obtain ⟨hz, hTI, ⟨a, b, hTO⟩, f0, g0⟩ := st
  show wpAny _ _ (field (.ref z) 2 >>= _) _ _ _
  refine wpAny_bind (wpAny_field hz rfl (x := .bool false) rfl ?_); show wpAny _ _ (field (.ref z) 3 >>= _) _ _ _
  refine wpAny_bind (wpAny_field hz rfl (x := .ref TI) rfl ?_); refine wpAny_bind (wpAny_seqItems hTI rfl ?_)
  show wpAny _ _ (Builtin.SmallTypes.ownedTupleIsFree (.ref z) >>= _) _ _ _
  refine wpAny_bind ?_; unfold Builtin.SmallTypes.ownedTupleIsFree
  refine wpAny_bind (wpAny_field hz rfl (x := .none) rfl (wpAny_pure ?_)); simp only [if_true]
  refine wpAny_bind (wpAny_rule ?_); refine wpAny_bind (wpAny_field hz rfl (x := .ref TO) rfl ?_)
  refine wpAny_bind (wpAny_setField_rec hz (by simp) fun m1 z1 e1 => ?_)
  have z1' : IsZip m1 z TI TO .ellipsis := z1
  refine wpAny_bind ?_; simp only [List.zipIdx_cons, List.zipIdx_nil, List.forIn_cons, List.forIn_nil]
  have x1 := e1.extBut
  refine wpAny_bind (wpAny_bind (wpAny_onRaise ?_)); show wpAny _ _ (Builtin.SmallTypes.nextOf (.ref M.it) >>= _) _ _ _
  cases hx : M.xs[i]? with
  | none =>
    refine wpAny_bind (M.done hh (M.stE f0 x1 D.i1z) (M.srcE sf x1 D.l1z) hx fun m2 e x2 he => ?_)
    obtain ⟨oe, h1, h2⟩ := he
    have z2 : IsZip m2 z TI TO .ellipsis := x2 _ _ D.i1z.symm z1'
    have ez : e ≠ z := fun q => by rw [q, z2] at h1; cases h1; simp at h2
    exact wpAny_setField_rec z2 (by simp) fun m3 _ e3 => hE m3 e (fun c o n1 _ n3 _ q => e3.extBut _ _ n1 (x2 _ _ n3 (x1 _ _ n1 q))) ⟨oe, e3.extBut _ _ ez h1, h2⟩
  | some x =>
    have hy : N.xs[j]? = none := by rcases hend with h | h; rw [hx] at h; cases h; exact h
    refine wpAny_bind (M.item (M.stE f0 x1 D.i1z) (M.srcE sf x1 D.l1z) hx fun m2 f2 e2 => wpAny_pure ?_)
    have x2 := e2.extBut
    have t2 : IsPair m2 TO a b := x2 _ _ D.TOi1 (x1 _ _ D.TOz hTO)
    refine wpAny_bind (wpAny_seqItems t2 rfl ?_); refine wpAny_bind (wpAny_updateSeq_pair t2 fun m3 t3 e3 => ?_)
    have x3 := e3.extBut
    refine wpAny_bind (wpAny_letGo (wpAny_pure ?_)); refine wpAny_bind (wpAny_bind (wpAny_onRaise ?_))
    show wpAny _ _ (Builtin.SmallTypes.nextOf (.ref N.it) >>= _) _ _ _
    refine wpAny_bind (N.done hh (N.stE (N.stE (N.stE g0 x1 D.i2z) x2 D.i12.symm) x3 D.TOi2.symm) (N.srcE (N.srcE (N.srcE sg x1 D.l2z) x2 D.l2i1) x3 D.l2TO) hy fun m4 e x4 he => ?_)
    obtain ⟨oe, h1, h2⟩ := he
    have z4 : IsZip m4 z TI TO .ellipsis := x4 _ _ D.i2z.symm (x3 _ _ D.TOz.symm (x2 _ _ D.i1z.symm z1'))
    have ez : e ≠ z := fun q => by rw [q, z4] at h1; cases h1; simp at h2
    exact wpAny_setField_rec z4 (by simp) fun m5 _ e5 => hE m5 e (fun c o n1 n2 n3 n4 q => e5.extBut _ _ n1 (x4 _ _ n4 (x3 _ _ n2 (x2 _ _ n3 (x1 _ _ n1 q))))) ⟨oe, e5.extBut _ _ ez h1, h2⟩
end
end ZX
namespace ZX
open PySem PySem.Spec PyProof.Rows
/-- t: a tuple, else a list -/
def Stand : Bool → Heap → Addr → Array Value → Prop
  | true => fun h l xs => h.IsTuple l xs
  | false => fun h l xs => h.IsList l xs
def feed (t : Bool) (it l : Addr) (xs : Array Value) : Feed := match t with
  | true => feedT it l xs
  | false => feedL it l xs
theorem feed_it {t : Bool} {it l : Addr} {xs : Array Value} : (feed t it l xs).it = it := by cases t <;> rfl
theorem feed_l {t : Bool} {it l : Addr} {xs : Array Value} : (feed t it l xs).l = l := by cases t <;> rfl
theorem feed_xs {t : Bool} {it l : Addr} {xs : Array Value} : (feed t it l xs).xs = xs := by cases t <;> rfl
theorem feed_src {t : Bool} {it l : Addr} {xs : Array Value} {h : Heap} (e : Stand t h l xs) : (feed t it l xs).src h := by cases t <;> exact e
abbrev io (t : Bool) (l : Addr) : Obj := { cls := .type (match t with | true => "tuple_iterator" | false => "list_iterator"), data := .fields #[.ref l, .int 0 0] }
theorem feed_new {t : Bool} {it l : Addr} {xs : Array Value} {h : Heap} (e : h.get? it = some (io t l)) : (feed t it l xs).st 0 h := by cases t <;> exact ⟨_, e, rfl, rfl⟩
abbrev n1 (t1 : Bool) (h : Heap) (l1 : Addr) : Heap := h.push (io t1 l1)
abbrev n2 (t1 t2 : Bool) (h : Heap) (l1 l2 : Addr) : Heap := (n1 t1 h l1).push (io t2 l2)
abbrev n3 (t1 t2 : Bool) (h : Heap) (l1 l2 : Addr) : Heap := (n2 t1 t2 h l1 l2).push { cls := .type "tuple", data := .seq #[.ref h.objs.size, .ref (n1 t1 h l1).objs.size] }
abbrev n4 (t1 t2 : Bool) (h : Heap) (l1 l2 : Addr) : Heap := (n3 t1 t2 h l1 l2).push { cls := .type "tuple", data := .seq #[.none, .none] }
abbrev n5 (t1 t2 : Bool) (h : Heap) (l1 l2 : Addr) : Heap := (n4 t1 t2 h l1 l2).push { cls := .type "zip", data := .fields #[.none, .bool false, .bool false, .ref (n2 t1 t2 h l1 l2).objs.size, .ref (n3 t1 t2 h l1 l2).objs.size] }
theorem new_tf (l1 l2 : Addr) (xs ys : Array Value) : Meets (Builtin.«zip.__new__» ⟨[.type "zip", .ref l1, .ref l2], []⟩) (fun _ R s => s.heap.IsTuple l1 xs ∧ s.heap.IsList l2 ys ∧ R (.ok (.ret (.ref (n4 true false s.heap l1 l2).objs.size))) { s with heap := n5 true false s.heap l1 l2 }) :=
  .of_wp fun prog w A R s h => by
    obtain ⟨hp, g, d, tk, os⟩ := s; obtain ⟨a1, a2, h⟩ := h; have hsub := sub_zip
    have b1 : (Shared.heap ⟨hp, g, d, tk, os⟩).IsTuple l1 xs := a1
    have b2 : (Shared.heap ⟨hp.push (io true l1), g, d, tk, os⟩).IsList l2 ys := Heap.IsList.push a2 _
    wp_walk using wpAny_pyIter_tuple b1, wpAny_pyIter_list b2
    exact ⟨_, rfl, h⟩
theorem new_ft (l1 l2 : Addr) (xs ys : Array Value) : Meets (Builtin.«zip.__new__» ⟨[.type "zip", .ref l1, .ref l2], []⟩) (fun _ R s => s.heap.IsList l1 xs ∧ s.heap.IsTuple l2 ys ∧ R (.ok (.ret (.ref (n4 false true s.heap l1 l2).objs.size))) { s with heap := n5 false true s.heap l1 l2 }) :=
  .of_wp fun prog w A R s h => by
    obtain ⟨hp, g, d, tk, os⟩ := s; obtain ⟨a1, a2, h⟩ := h; have hsub := sub_zip
    have b1 : (Shared.heap ⟨hp, g, d, tk, os⟩).IsList l1 xs := a1
    have b2 : (Shared.heap ⟨hp.push (io false l1), g, d, tk, os⟩).IsTuple l2 ys := Heap.IsTuple.push a2 _
    wp_walk using wpAny_pyIter_list b1, wpAny_pyIter_tuple b2
    exact ⟨_, rfl, h⟩
theorem new_any (t1 t2 : Bool) (l1 l2 : Addr) (xs ys : Array Value) : Meets (Builtin.«zip.__new__» ⟨[.type "zip", .ref l1, .ref l2], []⟩) (fun _ R s => Stand t1 s.heap l1 xs ∧ Stand t2 s.heap l2 ys ∧ R (.ok (.ret (.ref (n4 t1 t2 s.heap l1 l2).objs.size))) { s with heap := n5 t1 t2 s.heap l1 l2 }) := by
  cases t1 <;> cases t2
  · exact meets_zip_new l1 l2 xs ys
  · exact new_ft l1 l2 xs ys
  · exact new_tf l1 l2 xs ys
  · exact RZ.meets_zipT_new l1 l2 xs ys
section
variable {p : Program} {w : World} {A : Around} {E : Value → Shared → Prop} {s : Shared} {M N : Feed} {z TI TO : Addr} {i j : Nat} {a b : Value}
theorem zip_new {t1 t2 : Bool} {l1 l2 : Addr} {xs ys : Array Value} {Q : Value → Shared → Prop} (h1 : Stand t1 s.heap l1 xs) (h2 : Stand t2 s.heap l2 ys)
    (h : ∀ h', Stands (feed t1 s.heap.objs.size l1 xs) (feed t2 (s.heap.objs.size + 1) l2 ys) (s.heap.objs.size + 4) (s.heap.objs.size + 2) (s.heap.objs.size + 3) 0 0 h' → (∀ c o, s.heap.get? c = some o → h'.get? c = some o) → Q (.ref (s.heap.objs.size + 4)) { s with heap := h' }) :
    wpAny (model p w) A (call (.type "zip") [.ref l1, .ref l2]) Q E s := by
  refine callType_new F.called_zip (by decide) (F.typeCall_zip_2 _ _) (F.newCall_zip_2 _ _) (fun obj => F.args_object_init_3 obj _ _) F.entry_zip_new (new_any t1 t2 l1 l2 xs ys) ⟨h1, h2, ?_⟩
  have c1 : (n1 t1 s.heap l1).objs.size = s.heap.objs.size + 1 := Heap.size_push ..
  have c2 : (n2 t1 t2 s.heap l1 l2).objs.size = s.heap.objs.size + 2 := by rw [Heap.size_push, c1]
  have c3 : (n3 t1 t2 s.heap l1 l2).objs.size = s.heap.objs.size + 3 := by rw [Heap.size_push, c2]
  have c4 : (n4 t1 t2 s.heap l1 l2).objs.size = s.heap.objs.size + 4 := by rw [Heap.size_push, c3]
  have e5 : (n5 t1 t2 s.heap l1 l2).get? (n4 t1 t2 s.heap l1 l2).objs.size = some _ := Heap.get?_push_size _ rfl
  have e4 : (n5 t1 t2 s.heap l1 l2).get? (n3 t1 t2 s.heap l1 l2).objs.size = some _ := Heap.get?_push_of_some _ (Heap.get?_push_size _ rfl)
  have e3 : (n5 t1 t2 s.heap l1 l2).get? (n2 t1 t2 s.heap l1 l2).objs.size = some _ := Heap.get?_push_of_some _ (Heap.get?_push_of_some _ (Heap.get?_push_size _ rfl))
  have e2 : (n5 t1 t2 s.heap l1 l2).get? (n1 t1 s.heap l1).objs.size = some _ := Heap.get?_push_of_some _ (Heap.get?_push_of_some _ (Heap.get?_push_of_some _ (Heap.get?_push_size _ rfl)))
  have e1 : (n5 t1 t2 s.heap l1 l2).get? s.heap.objs.size = some _ := Heap.get?_push_of_some _ (Heap.get?_push_of_some _ (Heap.get?_push_of_some _ (Heap.get?_push_of_some _ (Heap.get?_push_size _ rfl))))
  show _ ∧ _
  rw [c2, c3, c4] at e5; rw [c1, c2] at e3; rw [c3] at e4; rw [c1] at e2; rw [c4]
  refine ⟨⟨_, e5, rfl⟩, h _ ⟨e5, by rw [feed_it, feed_it]; exact e3, ⟨_, _, e4⟩, feed_new e1, feed_new e2⟩ fun c o x => ?_⟩
  exact Heap.get?_push_of_some _ (Heap.get?_push_of_some _ (Heap.get?_push_of_some _ (Heap.get?_push_of_some _ (Heap.get?_push_of_some _ x))))
theorem turn_item {x y : Value} {Q : Option Value → Shared → Prop} (D : ZipApart z TI TO M.it N.it M.l N.l) (st : Stands M N z TI TO i j s.heap) (sf : M.src s.heap) (sg : N.src s.heap) (hx : M.xs[i]? = some x) (hy : N.xs[j]? = some y)
    (hQ : ∀ h', IsZip h' z TI TO (rawInt s.heap.objs.size) → IsPair h' TO x y → M.st (i + 1) h' → N.st (j + 1) h' → IsPair h' s.heap.objs.size x y → h'.objs.size = s.heap.objs.size + 1 →
      (∀ c o, c ≠ z → c ≠ TO → c ≠ M.it → c ≠ N.it → s.heap.get? c = some o → h'.get? c = some o) → Q (some (.ref s.heap.objs.size)) { s with heap := h' }) : wpAny (model p w) A (pyNext (.ref z)) Q E s := by
  have ty : s.TypeIs (.ref z) "zip" := ⟨_, st.z, rfl⟩
  unfold pyNext
  refine wpAny_bind (wpAny_attempt (wpAny_callSpecial?_slot (name := Str.ofString "__next__") ty F.slot_zip_next (wpAny_call_entry F.slot_zip_next ty F.entry_zip_next ?_ (F.args_zip_next_1 _))))
  exact next_item D st sf sg hx hy fun h' a1 a2 a3 a4 a5 a6 a7 => wpAny_pure (hQ h' a1 a2 a3 a4 a5 a6 a7)
theorem turn_end {Q : Option Value → Shared → Prop} (hh : A.handled = none) (D : ZipApart z TI TO M.it N.it M.l N.l) (st : Stands M N z TI TO i j s.heap) (sf : M.src s.heap) (sg : N.src s.heap) (hend : M.xs[i]? = none ∨ N.xs[j]? = none)
    (hQ : ∀ h', (∀ c o, c ≠ z → c ≠ TO → c ≠ M.it → c ≠ N.it → s.heap.get? c = some o → h'.get? c = some o) → Q none { s with heap := h' }) : wpAny (model p w) A (pyNext (.ref z)) Q E s := by
  have ty : s.TypeIs (.ref z) "zip" := ⟨_, st.z, rfl⟩
  unfold pyNext
  refine wpAny_bind (wpAny_attempt (wpAny_callSpecial?_slot (name := Str.ofString "__next__") ty F.slot_zip_next (wpAny_call_entry F.slot_zip_next ty F.entry_zip_next (next_end hh D st sf sg hend fun h' e k he => ?_) (F.args_zip_next_1 _))))
  obtain ⟨o, h1, h2⟩ := he
  exact wpAny_bind (wpAny_isInstance (T := "StopIteration") (b := true) ⟨o, h1, h2⟩ isSubtype_stop (wpAny_pure (hQ _ k)))
end
end ZX

set_option Elab.async false
set_option linter.all false
set_option maxRecDepth 100000
set_option maxHeartbeats 4000000
/-! comprehensions over zip -/
namespace DL
open PySem PySem.Spec PyProof.Rows L2 ZX
/-- t: a tuple, else a list -/
def SqB (K : PySem.W.Frag) : Bool → Hp → Addr → List V → Prop
  | true => fun H a xs => SqT K H a xs
  | false => fun H a xs => SqL K H a xs
theorem SqB.stand {X : Cx} {pins : List (Addr × Obj)} {σ : L2.St} {H : Hp} {s : Shared} {t : Bool} {a : Addr} {xs : List V} (I : Inv X pins σ H s) (h : SqB X.K t H a xs) : ∃ its : List Value, Vals xs its ∧ Stand t s.heap a its.toArray := by
  cases t with
  | true =>
    obtain ⟨its, rv, q, _⟩ := I.tuple h
    exact ⟨its, rv, q⟩
  | false =>
    obtain ⟨its, rv, q, _⟩ := I.list h
    exact ⟨its, rv, q.isList⟩
theorem SqB.inj {X : Cx} {pins : List (Addr × Obj)} {σ : L2.St} {H : Hp} {s : Shared} {t : Bool} {a : Addr} {xs ys : List V} (I : Inv X pins σ H s) (h : SqB X.K t H a xs) (h' : SqB X.K t H a ys) : xs = ys := by
  cases t with
  | true => exact I.tuple_inj h h'
  | false => exact I.list_inj h h'
theorem stand_lt {t : Bool} {h : Heap} {a : Addr} {xs : Array Value} (e : Stand t h a xs) : a < h.objs.size := by
  cases t <;> obtain ⟨o, e, _⟩ := e <;> exact Heap.lt_size e
/-- the two sequences as they stand at each turn, the items in new pairs -/
def Itm (K : PySem.W.Frag) (t u : Bool) (a b : Addr) : It where
  go := fun i H => ∃ (xs ys : List V) (x y : V), SqB K t H a xs ∧ SqB K u H b ys ∧ xs[i]? = some x ∧ ys[i]? = some y
  yld := fun i H v H' => ∃ T x y, v = .ref T ∧ H T = none ∧ H' = upd H T (.tup [x, y]) ∧ (∀ xs, SqB K t H a xs → xs[i]? = some x) ∧ ∀ ys, SqB K u H b ys → ys[i]? = some y
  stop := fun i H => ∃ xs ys : List V, SqB K t H a xs ∧ SqB K u H b ys ∧ (xs.length ≤ i ∨ ys.length ≤ i)
/-- the iterators go through a, b, whatever these hold -/
def Goes (t u : Bool) (i1 i2 a b z TI TO : Addr) (i : Nat) (h : Heap) : Prop := Stands (feed t i1 a #[]) (feed u i2 b #[]) z TI TO i i h
theorem feed_st {t : Bool} {it l : Addr} {xs ys : Array Value} {k : Nat} {h : Heap} : (feed t it l xs).st k h ↔ (feed t it l ys).st k h := by cases t <;> exact Iff.rfl
theorem stands_of {t u : Bool} {i1 i2 a b z TI TO : Addr} {i : Nat} {h : Heap} {xs ys xs' ys' : Array Value} (s : Stands (feed t i1 a xs) (feed u i2 b ys) z TI TO i i h) : Stands (feed t i1 a xs') (feed u i2 b ys') z TI TO i i h :=
  ⟨s.z, by have q := s.ti; rw [feed_it, feed_it] at q ⊢; exact q, s.to, feed_st.mp s.f, feed_st.mp s.g⟩
theorem apart_of {t u : Bool} {i1 i2 a b z TI TO : Addr} {xs ys : Array Value} (D : ZipApart z TI TO i1 i2 a b) : ZipApart z TI TO (feed t i1 a xs).it (feed u i2 b ys).it (feed t i1 a xs).l (feed u i2 b ys).l := by
  rw [feed_it, feed_it, feed_l, feed_l]
  exact D
theorem turn_m {P : Program} {w : World} {K : PySem.W.Frag} {elts : List Expr} {kk : Nat} {tpos : Pos} {t u : Bool} {a b z TI TO i1 i2 : Addr} (D : ZipApart z TI TO i1 i2 a b) : Turn P w K (.Tuple elts kk tpos) (Itm K t u a b) [z, TI, TO, i1, i2] z (Goes t u i1 i2 a b z TI TO) where
  mem := by simp
  obj := fun i h st c hc => by
    obtain ⟨x, y, hTO⟩ := st.to
    have e' : c = z ∨ c = TI ∨ c = TO ∨ c = i1 ∨ c = i2 := by simpa using hc
    rcases e' with q | q | q | q | q
    · subst q; exact ⟨_, st.z, fun v q => nomatch q⟩
    · subst q; exact ⟨_, st.ti, fun v q => nomatch q⟩
    · subst q; exact ⟨_, hTO, fun v q => nomatch q⟩
    · subst q; have r := (feed t c a #[]).obj st.f; rw [feed_it] at r; exact r
    · subst q; have r := (feed u c b #[]).obj st.g; rw [feed_it] at r; exact r
  keep := fun i h h' st k => by
    obtain ⟨x, y, hTO⟩ := st.to
    refine ⟨k z (by simp) _ st.z, k TI (by simp) _ st.ti, ⟨x, y, k TO (by simp) _ hTO⟩, (feed t i1 a #[]).same st.f fun o q => ?_, (feed u i2 b #[]).same st.g fun o q => ?_⟩
    · rw [feed_it] at q ⊢; exact k i1 (by simp) o q
    · rw [feed_it] at q ⊢; exact k i2 (by simp) o q
  item := by
    intro X hP hw hK hc i pins s σ H E I hf st hg
    subst hP hw hK
    obtain ⟨xs, ys, x, y, qx, qy, hx, hy⟩ := hg
    obtain ⟨m1, r1, p1⟩ := qx.stand I
    obtain ⟨m2, r2, p2⟩ := qy.stand I
    obtain ⟨v1, e1, rv1⟩ := r1.get hx
    obtain ⟨v2, e2, rv2⟩ := r2.get hy
    have st' : Stands (feed t i1 a m1.toArray) (feed u i2 b m2.toArray) z TI TO i i s.heap := stands_of st
    have zlt : z < s.heap.objs.size := Heap.lt_size st.z
    refine turn_item (apart_of D) st' (feed_src p1) (feed_src p2) (x := v1) (y := v2) (by rw [feed_xs]; simpa using e1) (by rw [feed_xs]; simpa using e2) fun h' z' t' f' g' T' size' keep => ?_
    rw [feed_it, feed_it] at keep
    refine ⟨_, rfl, wpAny_letOwnedTupleGo_zip (s := { s with heap := h' }) z' fun h'' z'' sb => ?_⟩
    have T2 : h''.get? s.heap.objs.size = some { cls := .type "tuple", data := .seq #[v1, v2] } := (sb.2 _ (Nat.ne_of_gt zlt)).trans T'
    have new : ObjOk X.prog X.w (upd H s.heap.objs.size (.tup [x, y])) h'' s.heap.objs.size (.tup [x, y]) := ⟨by show 2 ≤ sizeLine; decide, [v1, v2], .cons rv1 (.cons rv2 .nil), ⟨_, T2, rfl, _, rfl⟩⟩
    have far : ∀ c, c ∉ [z, TI, TO, i1, i2] → c ≠ z ∧ c ≠ TO ∧ c ≠ i1 ∧ c ≠ i2 := fun c hb => ⟨fun q => hb (by simp [q]), fun q => hb (by simp [q]), fun q => hb (by simp [q]), fun q => hb (by simp [q])⟩
    have I1 : Inv X pins σ (upd H s.heap.objs.size (.tup [x, y])) { s with heap := h'' } :=
      I.turnedNew (t' := s.toks) (ch := [z, TI, TO, i1, i2]) (fun c o hb q => let ⟨q1, q2, q3, q4⟩ := far c hb; (sb.2 c q1).trans (keep c o q1 q2 q3 q4 q)) hf (Nat.le_refl _) new
    refine ⟨.ref s.heap.objs.size, _, I1, rfl, ⟨_, x, y, rfl, I.hok.fresh (Nat.le_refl _), rfl, fun l hl => by rw [hl.inj I qx]; exact hx, fun l hl => by rw [hl.inj I qy]; exact hy⟩, ⟨z'', ?_, ⟨v1, v2, ?_⟩, ?_, ?_⟩, fun c hcm => ?_⟩
    · have e := keep _ _ D.TIz D.TITO D.TIi1 D.TIi2 st.ti
      exact (sb.2 _ D.TIz).trans e
    · exact (sb.2 _ D.TOz).trans t'
    · refine feed_st.mp ((feed t i1 a m1.toArray).same f' fun o q => ?_)
      rw [feed_it] at q ⊢
      exact (sb.2 _ D.i1z).trans q
    · refine feed_st.mp ((feed u i2 b m2.toArray).same g' fun o q => ?_)
      rw [feed_it] at q ⊢
      exact (sb.2 _ D.i2z).trans q
    · have lt : c < s.heap.objs.size := by
        have e' : c = z ∨ c = TI ∨ c = TO ∨ c = i1 ∨ c = i2 := by simpa using hcm
        rcases e' with q | q | q | q | q
        · rw [q]; exact zlt
        · rw [q]; exact Heap.lt_size st.ti
        · obtain ⟨_, _, e⟩ := st.to; rw [q]; exact Heap.lt_size e
        · obtain ⟨_, e, _⟩ := (feed t i1 a #[]).obj st.f; rw [feed_it] at e; rw [q]; exact Heap.lt_size e
        · obtain ⟨_, e, _⟩ := (feed u i2 b #[]).obj st.g; rw [feed_it] at e; rw [q]; exact Heap.lt_size e
      rw [upd_ne (Nat.ne_of_lt lt)]
      exact (hf c hcm).1
  done := by
    intro X hP hw hK hc i pins s σ H E I hf st hg
    subst hP hw hK
    obtain ⟨xs, ys, qx, qy, hend⟩ := hg
    obtain ⟨m1, r1, p1⟩ := qx.stand I
    obtain ⟨m2, r2, p2⟩ := qy.stand I
    have l1 := r1.length
    have l2 := r2.length
    have st' : Stands (feed t i1 a m1.toArray) (feed u i2 b m2.toArray) z TI TO i i s.heap := stands_of st
    refine turn_end (I.ok.hd hc) (apart_of D) st' (feed_src p1) (feed_src p2) ?_ fun h' keep => ?_
    · rw [feed_xs, feed_xs]
      rcases hend with q | q
      · exact .inl (by simp; omega)
      · exact .inr (by simp; omega)
    · rw [feed_it, feed_it] at keep
      exact ⟨rfl, I.turnedL (t' := s.toks) (ch := [z, TI, TO, i1, i2]) (fun c o hb q => keep c o (fun q' => hb (by simp [q'])) (fun q' => hb (by simp [q'])) (fun q' => hb (by simp [q'])) (fun q' => hb (by simp [q'])) q) hf⟩
  self := fun A i s Q E st h => wpAny_pyIter_zip st.z h
def iZm (K : PySem.W.Frag) (ta : TA) : TI := fun σ H R => ta σ H fun vs H1 => ∃ t u a b xs ys, vs = [.ref a, .ref b] ∧ SqB K t H1 a xs ∧ SqB K u H1 b ys ∧ R (Itm K t u a b) H1
theorem pi_zm {X : Cx} {e e2 : Expr} {ta : TA} {p pos tpos : Pos} {elts : List Expr} {kk : Nat} (hg : Gl X "zip") (hm : X.mg "zip" = none) (ha : PA X [e, e2] ta)
    (hs : starEach [e, e2] X.env = (false, eval e X.env) :: starEach [e2] X.env) (hpl : (backTo pos (starEach [e2] X.env)).any (·.1) = false) : PI X (.Tuple elts kk tpos) (.Call (.Name "zip" p) [e, e2] [] pos) (iZm X.K ta) := by
  refine ⟨fun pins s σ H R I h => Call_ (ld_blt I hg hm PyProof.Rows.boot_zip (PyProof.Rows.callWith_type1 (thn (ha.run pos pins s σ H _ I h) fun us s1 ⟨vs, H1, I1, rv, q1⟩ => ?_) hs hpl))⟩
  obtain ⟨t, u, a, b, xs, ys, rfl, qx, qy, q⟩ := q1
  obtain ⟨v1, v2, rfl, r1, r2⟩ := (show ∃ v1 v2, us = [v1, v2] ∧ RelV (.ref a) v1 ∧ RelV (.ref b) v2 from by
    cases rv with
    | cons r rr => cases rr with
      | cons r' rr => cases rr; exact ⟨_, _, rfl, r, r'⟩)
  cases r1
  cases r2
  obtain ⟨m1, w1, p1⟩ := qx.stand I1
  obtain ⟨m2, w2, p2⟩ := qy.stand I1
  refine zip_new p1 p2 fun h' st hk => wpAny_pyIter_zip st.z ?_
  have I2 : Inv X pins σ H1 { s1 with heap := h' } := I1.kept (t' := s1.toks) hk
  refine ⟨s1.heap.objs.size + 4, [s1.heap.objs.size + 4, s1.heap.objs.size + 2, s1.heap.objs.size + 3, s1.heap.objs.size, s1.heap.objs.size + 1], _, _, H1, rfl, I2, turn_m (PySem.W.ktu_apart s1.heap.objs.size a b (stand_lt p1) (stand_lt p2)), stands_of st, fun c hc => ?_, q⟩
  have le : s1.heap.objs.size ≤ c := by
    have e' : c = s1.heap.objs.size + 4 ∨ c = s1.heap.objs.size + 2 ∨ c = s1.heap.objs.size + 3 ∨ c = s1.heap.objs.size ∨ c = s1.heap.objs.size + 1 := by simpa using hc
    rcases e' with q | q | q | q | q <;> rw [q]
    · exact Nat.le_add_right _ _
    · exact Nat.le_add_right _ _
    · exact Nat.le_add_right _ _
    · exact Nat.le_refl _
    · exact Nat.le_add_right _ _
  exact I1.fpOk le (I1.hok.fresh le)

/-- a list or a tuple of these -/
def SeqD (d : D) (l : List D) : Prop := d = .lst l ∨ d = .tup l
theorem SeqD.at {K : PySem.W.Frag} {I : Hp} {d : D} {l : List D} {v : V} (s : SeqD d l) (n : Dn K I d v) : ∃ t a xs, v = .ref a ∧ Dns K I l xs ∧ ∀ H, Ex I H → SqB K t H a xs := by
  rcases s with rfl | rfl
  · cases n with
    | lst h m => exact ⟨false, _, _, rfl, m, fun H e => SqL.of (e _ _ h)⟩
  · cases n with
    | tup h m => exact ⟨true, _, _, rfl, m, fun H e => SqT.of (e _ _ h)⟩
section
variable {X : Cx} {B : Hp} {S : En} {pos : Pos} {e e2 : Expr}
/-- [elt for g in zip(e, e2)] -/
theorem fd_lcZ {elt : Expr} {elts : List Expr} {kk : Nat} {tpos p1 pos1 : Pos} {scope : Scope} {own : List (Str × Nat)} {g : TG} {Q : List D → Prop} (l l' : List D) (J : Nat → List D → Prop) (S' : D → D → En) (hc : X.calm = true) (hN : X.N.Nodup) (hm : X.mg "zip" = none) (ok : BlkOk X.N X.env.scope scope own)
    (hg : ∀ (s : Shared) (H : Hp) (C : Addr) (cl : List (Str × Addr)) (fp : List Addr), PG (X.blk s H scope (compEnvC scope cl C X.env) fp) (.Tuple elts kk tpos) g)
    (h : AD X B S [e, e2] fun as => ∃ d d', as = [.val d, .val d'] ∧ SeqD d l ∧ SeqD d' l' ∧ l.length ≤ 50000 ∧ J 0 []) (hp : ∀ d d', Pat X.K g (own.map (·.2)) S (.tup [d, d']) (S' d d'))
    (he : ∀ (i : Nat) d d' acc, l[i]? = some d → l'[i]? = some d' → acc.length = i → J i acc → ∀ (s : Shared) (H0 : Hp) (C : Addr) (cl : List (Str × Addr)) (fp : List Addr), ED (X.blk s H0 scope (compEnvC scope cl C X.env) fp) B (S' d d') elt fun y => J (i + 1) (acc ++ [y]))
    (hd : ∀ acc i, acc.length = i → J i acc → i ≤ l.length → i ≤ l'.length → (l.length ≤ i ∨ l'.length ≤ i) → Q acc) (hgl : Gl X "zip" := by rfl)
    (hst : starEach [e, e2] X.env = (false, eval e X.env) :: starEach [e2] X.env := by rfl) (hpl : (backTo pos1 (starEach [e2] X.env)).any (·.1) = false := by rfl)
    (hs : ∀ x, foldedSetIterable (.Call (.Name "zip" p1) [e, e2] [] pos1) X.env x = pure x := by intro _; rfl) : FD X B S (.ListComp elt [⟨.Tuple elts kk tpos, .Call (.Name "zip" p1) [e, e2] [] pos1, [], 0⟩] scope pos) Q := fun σ W H r R k => by
  refine PE.w (pe_lc (te := WEb X scope elt) hc hN (pi_zm hgl hm wa_pa hst hpl) ok hg (fun _ _ _ _ _ => pts_nil) web_pe hs) ?_
  refine h σ W H r _ fun as vs W1 H1 s1 ok1 n1 q1 => ?_
  obtain ⟨d, d', rfl, sd, sd', hz, j0⟩ := q1
  obtain ⟨v, v', rfl, m, m'⟩ := two_args n1
  obtain ⟨t, a, xs, rfl, w, hx⟩ := sd.at m
  obtain ⟨u, b, ys, rfl, w', hy⟩ := sd'.at m'
  refine ⟨t, u, a, b, xs, ys, rfl, hx _ ok1.ex, hy _ ok1.ex, fun p hp0 => ?_⟩
  have r1 := r.step s1 ok1
  refine ⟨fun i n H' => n = xs.length - i ∧ i ≤ xs.length ∧ i ≤ ys.length ∧ ∃ acc W', Mid X.K (gOf X) W1 H1 p acc W' H' ∧ acc.length = i ∧ J i acc, ⟨xs.length, rfl, Nat.zero_le _, Nat.zero_le _, [], W1, ⟨Stp.own hp0, ok1.own hp0, ok1.notP hp0, ok1.free hp0, [], upd_same, .nil⟩, rfl, j0⟩, ?_⟩
  rintro i n H' ⟨rfl, lx, ly, acc, W', mm, hl, j⟩
  have qx := hx H' fun c o z => mm.ok.ex _ _ (mm.st.I _ _ z)
  have qy := hy H' fun c o z => mm.ok.ex _ _ (mm.st.I _ _ z)
  by_cases c : i < xs.length ∧ i < ys.length
  · have ex : xs[i]? = some xs[i] := List.getElem?_eq_getElem c.1
    have ey : ys[i]? = some ys[i] := List.getElem?_eq_getElem c.2
    refine .inr ⟨⟨xs, ys, _, _, qx, qy, ex, ey⟩, fun H' => ∃ acc W', Mid X.K (gOf X) W1 H1 p acc W' H' ∧ acc.length = i + 1 ∧ J (i + 1) acc, fun H2 z => ⟨xs.length - (i + 1), by omega, rfl, c.1, c.2, z⟩, ?_⟩
    rintro x H2 ⟨T, x1, y1, rfl, hT, rfl, f1, f2⟩
    have e1 := f1 xs qx
    have e2 := f2 ys qy
    obtain ⟨d1, hd1, nd1⟩ := w.get e1
    obtain ⟨d2, hd2, nd2⟩ := w'.get e2
    have sn := Stp.new (o := .tup [x1, y1]) mm.ok hT
    have okn := mm.ok.new (o := .tup [x1, y1]) hT
    have mn := mm.step sn okn
    have nt : Dn X.K (W'.new T (.tup [x1, y1])).I (.tup [d1, d2]) (.ref T) := .tup upd_same (.cons ((nd1.mono mm.st.I).mono sn.I) (.cons ((nd2.mono mm.st.I).mono sn.I) .nil))
    refine hp d1 d2 (gOf X) B σ _ _ _ ((r1.step mm.st mm.ok).step sn okn) nt _ fun σ2 e3 r3 => ⟨e3, ?_⟩
    show WEb X scope elt σ2 _ _
    intro s H0 C cl fp
    refine he i d1 d2 acc hd1 hd2 hl j s H0 C cl fp σ2 _ _ r3 _ fun y v W2 H3 s2 ok2 n2 q2 => ?_
    have li : i < l.length := by rw [w.length]; exact c.1
    obtain ⟨xs', g1, g3, m3⟩ := (mn.step s2 ok2).more hp0 n2 (by omega)
    exact ⟨xs', g1, g3, _, W2, m3, by simp [hl], q2⟩
  · refine .inl ⟨⟨xs, ys, qx, qy, by omega⟩, ?_⟩
    obtain ⟨zs, hH, ds⟩ := mm.h
    refine k acc p zs W' H' (s1.trans ok1 mm.st) mm.ok (s1.free ok1 hp0) mm.n mm.i hH ds (hd acc i hl j ?_ ?_ ?_)
    · rw [w.length]; exact lx
    · rw [w'.length]; exact ly
    · rw [w.length, w'.length]; omega
end
end DL

set_option Elab.async false
set_option linter.all false
set_option maxRecDepth 100000
set_option maxHeartbeats 4000000
/-! a list of lists that change -/
namespace DL
open PySem PySem.Spec PyProof.Rows L2
theorem ok_upd {g : List Code} {W : Wd} {H : Hp} {q : Addr} {o : HO} (ok : Ok g W H) (n : ¬ W.P q) (i : W.I q = none) (ht : ∀ xs, o ≠ .tup xs := by exact fun _ z => by cases z) : Ok g W (upd H q o) where
  gd := fun b hb => by
    obtain ⟨n1, n2⟩ := ok.gd b hb
    refine ⟨n1, ?_⟩
    by_cases z : b = q
    · subst z
      rw [upd_same]
      exact ⟨(fun z => by cases z), (fun _ z => ht _ (Option.some.inj z))⟩
    · rw [upd_ne z]
      exact n2
  ex := fun b u hb => by
    rw [upd_ne (fun y => by rw [y, i] at hb; cases hb)]
    exact ok.ex b u hb
  pot := fun b hb => by
    obtain ⟨nb, y2, w2, h2⟩ := ok.pot b hb
    have ne : b ≠ q := fun y => n (y ▸ hb)
    exact ⟨nb, y2, w2, by rw [upd_ne ne]; exact h2⟩
theorem stp_upd {W W0 : Wd} {B H : Hp} {q : Addr} {o : HO} (z : Stp W0 B W H) (hB : B q = none) : Stp W0 B W (upd H q o) :=
  ⟨z.I, z.P, fun b u hb hn => by rw [upd_ne (ne_of_none hb hB)]; exact z.keep b u hb hn, z.old, z.oldP⟩
theorem ixN_lt {n j : Nat} (hj : j < n) : ixN n (j : Int) = some j := by
  unfold ixN
  rw [if_pos (by omega), if_pos (by omega), Int.toNat_natCast]
/-- a new list at p of new lists at qs: each at one place alone -/
structure Nest (K : PySem.W.Frag) (B : Hp) (W : Wd) (H : Hp) (p : Addr) (qs : List Addr) (rows : List (List D)) : Prop where
  b : B p = none
  n : ¬ W.P p
  i : W.I p = none
  h : H p = some (.lst (qs.map V.ref))
  nd : (p :: qs).Nodup
  len : qs.length = rows.length
  row : ∀ (j : Nat) q l, qs[j]? = some q → rows[j]? = some l → B q = none ∧ ¬ W.P q ∧ W.I q = none ∧ ∃ xs, H q = some (.lst xs) ∧ Dns K W.I l xs
section
variable {K : PySem.W.Frag} {B : Hp} {W W1 : Wd} {H H1 : Hp} {p : Addr} {qs : List Addr} {rows : List (List D)}
end
def plainS : Option Sl → Bool
  | some (.own _) => false
  | some (.ownT _) => false
  | some (.inst _ _ _ _) => false
  | _ => true
def PlainE (S : En) : Bool := S.all plainS
structure NEnds where
  nx : En → List (List D) → Prop
  rt : D → Prop
structure NSub (K : PySem.W.Frag) (g : List Code) (B : Hp) (W0 : Wd) (I : Hp) (p : Addr) (qs : List Addr) (E : NEnds) (D' : Ends) : Prop where
  nx : ∀ S σ W H rows, Rep K g B S σ W H → PlainE S = true → Nest K B W H p qs rows → Stp W0 B W H → Ex I W.I → E.nx S rows → D'.nx σ H
  rt : ∀ d v W H, Ok g W H → Stp W0 B W H → Ex I W.I → Dn K W.I d v → E.rt d → D'.rt v H
section
variable (X : Cx) (B : Hp) (W0 : Wd) (p : Addr) (qs : List Addr) (S : En) (rows : List (List D))
def NED (e : Expr) (Q : D → Prop) : Prop := ∀ σ W H, Rep X.K (gOf X) B S σ W H → Nest X.K B W H p qs rows → ∀ R, Cont X.K (gOf X) W H Q R → WE X e σ H R
def NGD (tg : Expr) (d : D) (Q : List (List D) → Prop) : Prop := ∀ σ W H v, Rep X.K (gOf X) B S σ W H → PlainE S = true → Nest X.K B W H p qs rows → Stp W0 B W H → Dn X.K W.I d v → ∀ R, (∀ rows' H', Rep X.K (gOf X) B S σ W H' → Nest X.K B W H' p qs rows' → Stp W0 B W H' → Q rows' → R σ H') → WG X tg v σ H R
def NSD (st : Stmt) (E : NEnds) : Prop := ∀ σ W H, Rep X.K (gOf X) B S σ W H → PlainE S = true → Nest X.K B W H p qs rows → Stp W0 B W H → ∀ D', NSub X.K (gOf X) B W0 W.I p qs E D' → WS X st D' σ H
def NSDs (sts : List Stmt) (E : NEnds) : Prop := ∀ σ W H, Rep X.K (gOf X) B S σ W H → PlainE S = true → Nest X.K B W H p qs rows → Stp W0 B W H → ∀ D', NSub X.K (gOf X) B W0 W.I p qs E D' → WSs X sts D' σ H
end
section
variable {X : Cx} {B : Hp} {W0 : Wd} {p : Addr} {qs : List Addr} {S : En} {rows : List (List D)} {st : Stmt} {sts : List Stmt} {E : NEnds} {pos : Pos} {e a b c : Expr} {Q : D → Prop}
end
end DL

set_option Elab.async false
set_option linter.all false
set_option maxRecDepth 100000
set_option maxHeartbeats 4000000
/-! lists of lists: made, given away; an owned list changed at a place, shortened -/
namespace DL
open PySem PySem.Spec PyProof.Rows L2
theorem Rep.putOwn {K : PySem.W.Frag} {g : List Code} {B : Hp} {S : En} {σ : L2.St} {W : Wd} {H : Hp} {i : Nat} {l l' : List D} {p : Addr} {xs xs' : List V} (r : Rep K g B S σ W H) (h : S[i]? = some (some (.own l))) (e1 : σ[i]? = some (some (.ref p))) (hB : B p = none) (n : ¬ W.P p) (hI : W.I p = none) (hH : H p = some (.lst xs)) (d : Dns K W.I l' xs') :
    Rep K g B (S.set i (some (.own l'))) σ W (upd H p (.lst xs')) := by
  have lt : i < S.length := (List.getElem?_eq_some_iff.mp h).1
  refine ⟨ok_upd r.ok n hI, r.gb, by simpa using r.len, fun j s ej => ?_, fun a b la lb q ne e2 e3 e4 => ?_, r.distT.setS i fun l z => by cases z⟩
  · by_cases q : i = j
    · subst q
      rw [List.getElem?_set_self lt] at ej
      cases ej
      exact ⟨_, e1, p, _, rfl, hB, n, hI, upd_same, d⟩
    · rw [List.getElem?_set_ne q] at ej
      obtain ⟨v2, e2, h2⟩ := r.sl j s ej
      refine ⟨v2, e2, ?_⟩
      cases s with
      | val d2 => exact h2
      | pot => exact h2
      | own m =>
        obtain ⟨p2, ys, rfl, b1, b2, b3, b4, b5⟩ := h2
        refine ⟨p2, ys, rfl, b1, b2, b3, ?_, b5⟩
        rw [upd_ne (fun y => by
          rw [y] at e2
          exact r.dist i j l m p q h ej e1 e2)]
        exact b4
      | ownT m =>
        obtain ⟨p2, ys, rfl, b1, b2, b3, b4, b5⟩ := h2
        refine ⟨p2, ys, rfl, b1, b2, b3, ?_, b5⟩
        rw [upd_ne (fun y => by rw [y, hH] at b4; cases b4)]
        exact b4
      | inst C p2 dx fs =>
        obtain ⟨vs, rfl, b1, b2, b3, b4, b5, b6, b7, b8, b9, b10⟩ := h2
        refine ⟨vs, rfl, b1, b2, b3, b4, b5, b6, b7, ?_, ?_, b10⟩
        · rw [upd_ne (fun y => by rw [y, hH] at b8; cases b8)]
          exact b8
        · rw [upd_ne (fun y => by rw [y, hH] at b9; cases b9)]
          exact b9
  · have g : ∀ {c : Nat} {m : List D}, (S.set i (some (.own l')))[c]? = some (some (.own m)) → ∃ m', S[c]? = some (some (.own m')) := fun {c m} ec => by
      by_cases q2 : i = c
      · subst q2
        exact ⟨l, h⟩
      · rw [List.getElem?_set_ne q2] at ec
        exact ⟨m, ec⟩
    obtain ⟨m1, g1⟩ := g e2
    obtain ⟨m2, g2⟩ := g e3
    exact r.dist a b m1 m2 q ne g1 g2 e4
section
variable {K : PySem.W.Frag} {g : List Code} {B : Hp} {W0 W : Wd} {H : Hp} {p : Addr} {qs : List Addr} {rows : List (List D)}
end
section
variable (X : Cx) (B : Hp) (W0 : Wd) (p : Addr) (qs : List Addr) (S : En) (rows : List (List D))
/-- from lists of lists on, to where they are given away -/
def NF (st : Stmt) (E : Ends') : Prop := ∀ σ W H, Rep X.K (gOf X) B S σ W H → PlainE S = true → Nest X.K B W H p qs rows → Stp W0 B W H → ∀ D', Sub X.K (gOf X) B W0 W.I E D' → WS X st D' σ H
def NFs (sts : List Stmt) (E : Ends') : Prop := ∀ σ W H, Rep X.K (gOf X) B S σ W H → PlainE S = true → Nest X.K B W H p qs rows → Stp W0 B W H → ∀ D', Sub X.K (gOf X) B W0 W.I E D' → WSs X sts D' σ H
/-- an expression that makes such lists -/
def NE (S : En) (e : Expr) (Q : List (List D) → Prop) : Prop := ∀ σ W H, Rep X.K (gOf X) B S σ W H → ∀ R : VK, (∀ p qs rows W' H', Stp W H W' H' → Ok (gOf X) W' H' → Nest X.K H W' H' p qs rows → Q rows → R (.ref p) H') → WE X e σ H R
end
section
variable {X : Cx} {B : Hp} {W0 : Wd} {p : Addr} {qs : List Addr} {S : En} {rows : List (List D)} {st : Stmt} {sts : List Stmt} {E : Ends'} {pos : Pos} {e e2 a b c : Expr}
end
end DL

set_option Elab.async false
set_option linter.all false
set_option maxRecDepth 100000
set_option maxHeartbeats 4000000
/-! lists of lists by comprehensions; x[i].append, x.pop(i), x[i] = .. -/
namespace DL
open PySem PySem.Spec PyProof.Rows L2
theorem dns_take {K : PySem.W.Frag} {I : Hp} : ∀ (n : Nat) {l : List D} {xs : List V}, Dns K I l xs → Dns K I (l.take n) (xs.take n)
  | 0, _, _, _ => .nil
  | _ + 1, _, _, .nil => .nil
  | n + 1, _, _, .cons h r => .cons h (dns_take n r)
theorem dns_drop {K : PySem.W.Frag} {I : Hp} : ∀ (n : Nat) {l : List D} {xs : List V}, Dns K I l xs → Dns K I (l.drop n) (xs.drop n)
  | 0, _, _, h => h
  | _ + 1, _, _, .nil => .nil
  | n + 1, _, _, .cons h r => dns_drop n r
def NLC (X : Cx) (B : Hp) (S : En) (t : TE) (Q : List (List D) → Prop) : Prop := ∀ σ W H, Rep X.K (gOf X) B S σ W H → ∀ R : VK, (∀ p qs rows W' H', Stp W H W' H' → Ok (gOf X) W' H' → Nest X.K H W' H' p qs rows → Q rows → R (.ref p) H') → t σ H R
structure Mid2 (K : PySem.W.Frag) (g : List Code) (W1 : Wd) (H1 : Hp) (p : Addr) (qs : List Addr) (rows : List (List D)) (W : Wd) (H : Hp) : Prop where
  st : Stp W1 H1 W H
  ok : Ok g W H
  m : Nest K H1 W H p qs rows
section
variable {X : Cx} {B : Hp} {W0 : Wd} {S : En} {st : Stmt} {sts : List Stmt} {E : Ends'} {pos : Pos} {e e2 a b c : Expr}
/-- list(e), e a list or a tuple -/
theorem fd_list {p : Pos} {Q : List D → Prop} (hm : X.mg "list" = none) (h : ED X B S e fun d => ∃ l, SeqD d l ∧ Q l) (hv : bootBuiltins "list" = some (.type "list") := by first | rfl | decide +kernel) (hg : Gl X "list" := by rfl)
    (he : starEach [e] X.env = (false, eval e X.env) :: starEach [] X.env := by rfl) (hpl : (backTo pos (starEach [] X.env)).any (·.1) = false := by rfl) : FD X B S (.Call (.Name "list" p) [e] [] pos) Q := fun σ W H r R k => by
  refine PE.w (pe_callTy call_list_of hg hm hv (pa_cons we_pe pa_nil he) (by decide) (by decide) he hpl) ?_
  refine h σ W H r _ fun d v W1 H1 s1 ok1 n1 q1 => ?_
  obtain ⟨l, sd, q1⟩ := q1
  obtain ⟨t, a, xs, rfl, w, hx⟩ := sd.at n1
  refine ⟨a, xs, rfl, ?_, fun p hp => ?_⟩
  · cases t with
    | false => exact .inl (hx _ ok1.ex)
    | true => exact .inr (hx _ ok1.ex)
  · exact k l p xs W1 _ (s1.trans ok1 (Stp.own hp)) (ok1.own hp) (s1.free ok1 hp) (ok1.notP hp) (ok1.free hp) upd_same w q1
end
end DL

set_option Elab.async false
set_option linter.all false
set_option maxRecDepth 100000
set_option maxHeartbeats 4000000
/-! a dict literal, constants of the module, comprehensions over two ranges -/
namespace DL
open PySem PySem.Spec PyProof.Rows L2
section
variable {X : Cx} {B : Hp} {S : En} {pos : Pos} {Q : D → Prop} {e e1 : Expr} {x : Str}
end
end DL

set_option Elab.async false
set_option linter.all false
set_option maxRecDepth 100000
set_option maxHeartbeats 4000000
/-! comprehensions told by what each item must be -/
namespace DL
open PySem PySem.Spec PyProof.Rows L2
theorem Paired.snoc {α β : Type} {R : α → β → Prop} {x : α} {y : β} (h : R x y) : ∀ {l : List α} {m : List β}, Paired R l m → Paired R (l ++ [x]) (m ++ [y])
  | _, _, .nil => .cons h .nil
  | _, _, .cons a b => .cons a (Paired.snoc h b)
/-- what stands in the slots when the item d has come to the name in slot j -/
abbrev itE (S : En) (own : List (Str × Nat)) (j : Nat) (d : D) : En := (wipeE S (own.map (·.2))).set j (some (.val d))
abbrev AllBlk (X : Cx) (scope : Scope) (R : Cx → Prop) : Prop := ∀ (s : Shared) (H0 : Hp) (C : Addr) (cl : List (Str × Addr)) (fp : List Addr), R (X.blk s H0 scope (compEnvC scope cl C X.env) fp)
section
variable {X : Cx} {B : Hp} {W0 : Wd} {S : En} {pos : Pos} {e e2 elt iter : Expr} {x : Str} {px : Pos} {scope : Scope} {own : List (Str × Nat)} {l l' : List D} {d0 : D} {Q : List D → Prop}
/-- [elt for x in a list or a tuple] -/
theorem fd_relS (G : D → D → Prop) (j : Nat) (hc : X.calm = true) (hN : X.N.Nodup) (ok : BlkOk X.N X.env.scope scope own) (hg : AllBlk X scope fun Y => PG Y (.Name x px) (gName j)) (sd : SeqD d0 l) (hl : l.length ≤ 50000) (hit : ED X B S iter fun d => d = d0) (hj : j ∈ own.map (·.2))
    (he : ∀ d ∈ l, AllBlk X scope fun Y => ED Y B (itE S own j d) elt (G d)) (hd : ∀ out, Paired G l out → Q out) (hs : ∀ x, foldedSetIterable iter X.env x = pure x := by intro _; rfl) : FD X B S (.ListComp elt [⟨.Name x px, iter, [], 0⟩] scope pos) Q := by
  have step : ∀ (i : Nat) d acc, l[i]? = some d → acc.length = i → Paired G (l.take i) acc → ∀ (s : Shared) (H0 : Hp) (C : Addr) (cl : List (Str × Addr)) (fp : List Addr), ED (X.blk s H0 scope (compEnvC scope cl C X.env) fp) B (itE S own j d) elt fun y => Paired G (l.take (i + 1)) (acc ++ [y]) := fun i d acc hi ha hp s H0 C cl fp => by
    intro σ W H r R k
    refine he d (List.mem_of_getElem? hi) s H0 C cl fp σ W H r R fun y v W' H' st ok n q => k y v W' H' st ok n ?_
    rw [List.take_add_one, hi]
    exact Paired.snoc q hp
  have fin : ∀ acc, acc.length = l.length → Paired G (l.take l.length) acc → Q acc := fun acc _ h => hd acc (by rw [List.take_length] at h; exact h)
  have start : ED X B S iter fun d => d = d0 ∧ l.length ≤ 50000 ∧ Paired G (l.take 0) [] := fun σ W H r R k => hit σ W H r R fun d v W' H' st ok n q => k d v W' H' st ok n ⟨q, hl, .nil⟩
  rcases sd with rfl | rfl
  · exact fd_lcL (fun i acc => Paired G (l.take i) acc) (fun d => itE S own j d) hc hN ok hg start (fun d _ => pat_name j hj) step fin hs
  · exact fd_lcT (fun i acc => Paired G (l.take i) acc) (fun d => itE S own j d) hc hN ok hg start (fun d _ => pat_name j hj) step fin hs
/-- what a range brings -/
def Outs (G : Nat → D → Prop) (n : Nat) (out : List D) : Prop := out.length = n ∧ ∀ i, i < n → ∃ y, out[i]? = some y ∧ G i y
theorem Outs.nil {G : Nat → D → Prop} : Outs G 0 [] := ⟨rfl, fun i h => absurd h (Nat.not_lt_zero _)⟩
theorem Outs.snoc {G : Nat → D → Prop} {n : Nat} {out : List D} {y : D} (h : Outs G n out) (g : G n y) : Outs G (n + 1) (out ++ [y]) := ⟨by simp [h.1], fun i hi => by
  by_cases c : i < n
  · obtain ⟨z, e, gz⟩ := h.2 i c
    exact ⟨z, by rw [List.getElem?_append_left (by rw [h.1]; exact c)]; exact e, gz⟩
  · have : i = n := by omega
    subst this
    exact ⟨y, by rw [List.getElem?_append_right (by rw [h.1]; exact Nat.le_refl _), h.1, Nat.sub_self]; rfl, g⟩⟩
/-- [elt for x in range(e)] -/
theorem fd_relR {p1 pos1 : Pos} {n : Nat} (G : Nat → D → Prop) (j : Nat) (hc : X.calm = true) (hN : X.N.Nodup) (hm : X.mg "range" = none) (ok : BlkOk X.N X.env.scope scope own) (hg : AllBlk X scope fun Y => PG Y (.Name x px) (gName j)) (hn : n ≤ 50000) (h : AD X B S [e] fun as => as = [.val (.int (n : Int))]) (hj : j ∈ own.map (·.2))
    (he : ∀ i, i < n → AllBlk X scope fun Y => ED Y B (itE S own j (.int (i : Int))) elt (G i)) (hd : ∀ out, Outs G n out → Q out) (hgl : Gl X "range" := by rfl) (hst : starEach [e] X.env = [(false, eval e X.env)] := by rfl)
    (hs : ∀ x, foldedSetIterable (.Call (.Name "range" p1) [e] [] pos1) X.env x = pure x := by intro _; rfl) : FD X B S (.ListComp elt [⟨.Name x px, .Call (.Name "range" p1) [e] [] pos1, [], 0⟩] scope pos) Q := by
  refine fd_lcR (n := (n : Int)) (fun i acc => Outs G i acc) (fun d => itE S own j d) hc hN hm ok hg ?_ (fun d => pat_name j hj) ?_ ?_ hgl hst hs
  · exact fun σ W H r R k => h σ W H r R fun as vs W' H' st ok n q => k as vs W' H' st ok n ⟨q, by omega, by omega, .nil⟩
  · intro i acc hi ha o s H0 C cl fp σ W H r R k
    exact he i (by omega) s H0 C cl fp σ W H r R fun y v W' H' st ok n q => k y v W' H' st ok n (o.snoc q)
  · intro acc _ o
    exact hd acc (by rw [Int.toNat_natCast] at o; exact o)
/-- [elt for x, y in zip(e, e2)], both as long -/
theorem fd_relZ {y : Str} {py tpos p1 pos1 : Pos} {kk : Nat} {d1 : D} (G : D → D → D → Prop) (i j : Nat) (hc : X.calm = true) (hN : X.N.Nodup) (hm : X.mg "zip" = none) (ok : BlkOk X.N X.env.scope scope own) (hg : AllBlk X scope fun Y => PG Y (.Tuple [.Name x px, .Name y py] kk tpos) (gTup X.K 2 (gCons (gName i) (gCons (gName j) gNil)))) (hll : l.length = l'.length) (hl : l.length ≤ 50000) (sd : SeqD d0 l) (sd1 : SeqD d1 l')
    (h : AD X B S [e, e2] fun as => as = [.val d0, .val d1]) (hi : i ∈ own.map (·.2)) (hj : j ∈ own.map (·.2)) (he : ∀ (n : Nat) d d', l[n]? = some d → l'[n]? = some d' → AllBlk X scope fun Y => ED Y B ((itE S own i d).set j (some (.val d'))) elt (G d d'))
    (hd : ∀ out, out.length = l.length → (∀ (n : Nat) d d' z, l[n]? = some d → l'[n]? = some d' → out[n]? = some z → G d d' z) → Q out) (hgl : Gl X "zip" := by rfl)
    (hst : starEach [e, e2] X.env = (false, eval e X.env) :: starEach [e2] X.env := by rfl) (hpl : (backTo pos1 (starEach [e2] X.env)).any (·.1) = false := by rfl)
    (hs : ∀ x, foldedSetIterable (.Call (.Name "zip" p1) [e, e2] [] pos1) X.env x = pure x := by intro _; rfl) : FD X B S (.ListComp elt [⟨.Tuple [.Name x px, .Name y py] kk tpos, .Call (.Name "zip" p1) [e, e2] [] pos1, [], 0⟩] scope pos) Q := by
  refine fd_lcZ l l' (fun m acc => acc.length = m ∧ ∀ (n : Nat) d d' z, l[n]? = some d → l'[n]? = some d' → acc[n]? = some z → G d d' z) (fun d d' => (itE S own i d).set j (some (.val d'))) hc hN hm ok hg ?_ (fun d d' => pat_two i j hi hj) ?_ ?_ hgl hst hpl hs
  · exact fun σ W H r R k => h σ W H r R fun as vs W' H' st ok n q => k as vs W' H' st ok n ⟨d0, d1, q, sd, sd1, hl, rfl, fun n d d' z _ _ e => by simp at e⟩
  · intro m d d' acc h1 h2 ha ⟨_, o⟩ s H0 C cl fp σ W H r R k
    refine he m d d' h1 h2 s H0 C cl fp σ W H r R fun y v W' H' st ok n q => k y v W' H' st ok n ⟨by simp [ha], fun n a b z e1 e2 e3 => ?_⟩
    by_cases c : n < m
    · rw [List.getElem?_append_left (by omega)] at e3
      exact o n a b z e1 e2 e3
    · rw [List.getElem?_append_right (by omega)] at e3
      have : n = m := by
        rcases Nat.lt_or_ge m n with z | z
        · rw [List.getElem?_eq_none (show [y].length ≤ n - acc.length by show 1 ≤ _; omega)] at e3
          cases e3
        · omega
      subst this
      rw [ha, Nat.sub_self] at e3
      cases e3
      rw [h1] at e1
      rw [h2] at e2
      cases e1
      cases e2
      exact q
  · intro acc m ha ⟨_, o⟩ h1 h2 h3
    exact hd acc (by omega) o
theorem td_chain {op op' : CmpOp} {a b c : Expr} {QB : Bool → Prop} (h : ED X B S a fun x => ED X B S b fun y => OD X (compareOp op) x y fun z => ∃ k, z = .bl k ∧ if k = true then ED X B S c fun w => OD X (compareOp op') y w fun z => ∃ k, z = .bl k ∧ QB k else QB false)
    (hm : lastMarks [op, op'] [b, c] = false := by rfl) : TD X B S (.Compare a [op, op'] [b, c] pos) QB := fun σ W H r R k => by
  refine PT.w (pt_chain wo_op wo_op we_pe we_pe we_pe hm) ?_
  refine h σ W H r _ fun d v W1 H1 s1 ok1 n1 q1 => ?_
  refine q1 σ W1 H1 (r.step s1 ok1) _ fun d2 u W2 H2 s2 ok2 n2 q2 => ?_
  refine q2 v u W2 H2 ok2 (n1.mono s2.I) n2 _ fun d3 z W3 H3 s3 ok3 n3 q3 => ?_
  obtain ⟨t, e, q3⟩ := q3
  subst e
  cases n3
  have k3 := ((k.step s1 ok1).step s2 ok2).step s3 ok3
  refine ⟨t, rfl, ?_⟩
  cases t with
  | false => exact iteF ⟨false, rfl, k3.now ok3 (by simpa using q3)⟩
  | true =>
    have q3 : ED X B S c fun w => OD X (compareOp op') d2 w fun z => ∃ k, z = .bl k ∧ QB k := by simpa using q3
    refine iteT (q3 σ W3 H3 (((r.step s1 ok1).step s2 ok2).step s3 ok3) _ fun d4 w' W4 H4 s4 ok4 n4 q4 => ?_)
    refine q4 u w' W4 H4 ok4 ((n2.mono s3.I).mono s4.I) n4 _ fun d5 z W5 H5 s5 ok5 n5 q5 => ?_
    obtain ⟨t, e, q5⟩ := q5
    subst e
    cases n5
    exact ⟨t, rfl, ((k3.step s4 ok4).step s5 ok5).now ok5 q5⟩
end
end DL

set_option Elab.async false
set_option linter.all false
set_option maxRecDepth 100000
set_option maxHeartbeats 4000000
/-! a name = [.. for x, y in zip(..)] -/
namespace DL
open PySem PySem.Spec PyProof.Rows L2
section
variable {X : Cx} {B : Hp} {W0 : Wd} {S : En} {pos : Pos} {e e2 : Expr} {x : Str} {px : Pos} {own : List (Str × Nat)} {scope : Scope} {elt : Expr} {l l' : List D} {d0 : D}
end
end DL

set_option Elab.async false
set_option linter.all false
set_option maxRecDepth 100000
set_option maxHeartbeats 4000000
/-! a text times an int -/
namespace DL
open PySem PySem.Spec PyProof.Rows L2
end DL

set_option Elab.async false
set_option linter.all false
set_option maxRecDepth 100000
set_option maxHeartbeats 4000000
/-! dicts whose keys are tuples: owned by one name while they grow, data from then on -/
namespace DL
open PySem PySem.Spec PyProof.Rows L2
def kD : Key → D
  | .inl i => .int i
  | .inr s => .str s
abbrev tD (k : List Key) : D := .tup (k.map kD)
def has {α : Type} (kvs : List (List Key × α)) (k : List Key) : Bool := kvs.any fun kv => decide (kv.1 = k)
def look {α : Type} (kvs : List (List Key × α)) (k : List Key) : Option α := (kvs.find? fun kv => decide (kv.1 = k)).map (·.2)
/-- what stands at k from now on: in its place, or at the end -/
def putE (kvs : List (List Key × D)) (k : List Key) (d : D) : List (List Key × D) := if has kvs k = true then kvs.map (fun kv => if kv.1 = k then (kv.1, d) else kv) else kvs ++ [(k, d)]
section
variable {K : PySem.W.Frag} {I : Hp}
theorem dn_key {k : Key} {v : V} (n : Dn K I (kD k) v) : v = kV k := by
  cases k <;> cases n <;> rfl
theorem dns_keys : ∀ {ks : List Key} {xs : List V}, Dns K I (ks.map kD) xs → xs = ks.map kV
  | [], _, .nil => rfl
  | k :: ks, _, .cons h t => by rw [dn_key h, dns_keys t]; rfl
theorem key_dn : ∀ k : Key, Dn K I (kD k) (kV k)
  | .inl i => .int i
  | .inr s => .str s
theorem keys_dns : ∀ ks : List Key, Dns K I (ks.map kD) (ks.map kV)
  | [] => .nil
  | k :: ks => .cons (key_dn k) (keys_dns ks)
theorem Dnt.append : ∀ {l m : List (List Key × D)} {xs ys : List (List Key × V)}, Dnt K I l xs → Dnt K I m ys → Dnt K I (l ++ m) (xs ++ ys)
  | _, _, _, _, .nil, s => s
  | _, _, _, _, .cons h r, s => .cons h (Dnt.append r s)
theorem Dnt.length : ∀ {l : List (List Key × D)} {xs : List (List Key × V)}, Dnt K I l xs → l.length = xs.length
  | _, _, .nil => rfl
  | _, _, .cons _ r => congrArg (· + 1) (Dnt.length r)
theorem Dnt.keys : ∀ {l : List (List Key × D)} {xs : List (List Key × V)}, Dnt K I l xs → l.map (·.1) = xs.map (·.1)
  | _, _, .nil => rfl
  | _, _, .cons _ r => by simp [Dnt.keys r]
theorem Dnt.has {k : List Key} : ∀ {l : List (List Key × D)} {xs : List (List Key × V)}, Dnt K I l xs → has l k = (xs.any fun kv => decide (kv.1 = k))
  | _, _, .nil => rfl
  | _, _, .cons (f := f) _ r => by
    have := Dnt.has (k := k) r
    unfold DL.has at this ⊢
    rw [List.any_cons, List.any_cons, this]
theorem Dnt.mapK {k : List Key} {d : D} {v : V} (n : Dn K I d v) : ∀ {l : List (List Key × D)} {xs : List (List Key × V)}, Dnt K I l xs → Dnt K I (l.map fun kv => if kv.1 = k then (kv.1, d) else kv) (xs.map fun kv => if kv.1 = k then (kv.1, v) else kv)
  | _, _, .nil => .nil
  | _, _, .cons (f := f) h r => by
    rw [List.map_cons, List.map_cons]
    by_cases c : f = k
    · rw [if_pos c, if_pos c]
      exact .cons n (Dnt.mapK n r)
    · rw [if_neg c, if_neg c]
      exact .cons h (Dnt.mapK n r)
theorem Dnt.put {k : List Key} {d : D} {v : V} (n : Dn K I d v) {l : List (List Key × D)} {xs : List (List Key × V)} (m : Dnt K I l xs) : Dnt K I (putE l k d) (putK xs k v) := by
  unfold putE putK
  rw [← m.has]
  by_cases c : DL.has l k = true
  · rw [if_pos c, if_pos c]
    exact m.mapK n
  · rw [if_neg c, if_neg c]
    exact m.append (.cons n .nil)
theorem dnt_look {k : List Key} : ∀ {kvs : List (List Key × D)} {ws : List (List Key × V)}, Dnt K I kvs ws → (∀ d, look kvs k = some d → ∃ v, valV ws k = some v ∧ Dn K I d v) ∧ (look kvs k = none → valV ws k = none)
  | _, _, .nil => ⟨fun d e => by simp [look] at e, fun _ => rfl⟩
  | _, _, .cons (f := f) (d := d0) (v := v0) h t => by
    obtain ⟨a, b⟩ := dnt_look (k := k) t
    by_cases c : f = k
    · subst c
      refine ⟨fun d e => ⟨v0, valV_pos rfl, ?_⟩, fun e => by simp [look, List.find?_cons] at e⟩
      simp [look, List.find?_cons] at e
      rw [← e]
      exact h
    · refine ⟨fun d e => ?_, fun e => ?_⟩
      · rw [valV_neg c]
        refine a d ?_
        simpa [look, List.find?_cons, c] using e
      · rw [valV_neg c]
        refine b ?_
        simpa [look, List.find?_cons, c] using e
theorem look_some {kvs : List (List Key × D)} {ws : List (List Key × V)} (m : Dnt K I kvs ws) (k : List Key) : (valV ws k).isSome = (look kvs k).isSome := by
  cases e : look kvs k with
  | none => rw [(dnt_look m).2 e]; rfl
  | some d =>
    obtain ⟨v, ev, _⟩ := (dnt_look m).1 d e
    rw [ev]; rfl
theorem Dnt.get : ∀ {l : List (List Key × D)} {xs : List (List Key × V)} {i : Nat} {k : List Key} {v : V}, Dnt K I l xs → xs[i]? = some (k, v) → ∃ d, l[i]? = some (k, d) ∧ Dn K I d v
  | _, _, _, _, _, .nil, e => by simp at e
  | _, _, 0, _, _, .cons h _, e => by
    simp at e
    obtain ⟨rfl, rfl⟩ := e
    exact ⟨_, rfl, h⟩
  | _, _, i + 1, _, _, .cons _ r, e => by
    obtain ⟨d, h1, h2⟩ := Dnt.get (i := i) r (by simpa using e)
    exact ⟨d, by simpa using h1, h2⟩
end
theorem dget_of {H : Hp} {a b : Addr} {kvs : List (List Key × V)} {k : List Key} (e : Rd H a (.dT kvs)) (eb : H b = some (.tup (k.map kV))) : DGet H a (.ref b) (valV kvs k) := .inr ⟨kvs, k, b, e, rfl, eb, rfl⟩
theorem dn_tupkey {K : PySem.W.Frag} {W : Wd} {H : Hp} {g : List Code} {k : List Key} {v : V} (ok : Ok g W H) (n : Dn K W.I (tD k) v) : ∃ q, v = .ref q ∧ H q = some (.tup (k.map kV)) := by
  cases n with
  | tup h m =>
    rw [dns_keys m] at h
    exact ⟨_, rfl, ok.ex _ _ h⟩
/-! ### reading -/
/-- k in d -/
theorem op_dinT {X : Cx} (hu : X.A.units + 1 < cLine) : OpR X (compareOp .In) (fun x y H Q => ∃ p o, y = .ref p ∧ DGet H p x o ∧ Q (.bl o.isSome) H) := by
  intro pins s σ H x y v u Q I rx ry h
  obtain ⟨p, o, rfl, g, q⟩ := h
  obtain rfl : u = Value.ref p := ry
  exact d_in hu I g rx fun s3 I3 => ⟨.bl o.isSome, H, I3, rfl, q⟩
section
variable {X : Cx} {B : Hp} {W0 : Wd} {S : En} {pos px p1 : Pos} {Q : D → Prop} {QB : Bool → Prop} {a b c e value key : Expr} {es : List Expr} {E : Ends'} {x : Str} {st : Stmt} {sts : List Stmt}
/-- d[k], d data -/
theorem ed_dget (hu : X.A.units + 1 < cLine) (h : ED X B S a fun x => ED X B S b fun y => ∃ kvs k d, x = .dcT kvs ∧ y = tD k ∧ look kvs k = some d ∧ Q d) (hs : NoSl b := by exact fun _ _ => rfl) : ED X B S (.Subscript a b pos) Q := fun σ W H r R k0 => by
  refine PE.w (pe_dget hu we_pe we_pe hs) ?_
  refine h σ W H r _ fun x v W1 H1 s1 ok1 n1 q1 => ?_
  refine q1 σ W1 H1 (r.step s1 ok1) _ fun y u W2 H2 s2 ok2 n2 q2 => ?_
  obtain ⟨kvs, k, d, rfl, rfl, e, q⟩ := q2
  have n1' := n1.mono s2.I
  cases n1' with
  | @dcT _ p o ws hp m =>
    obtain ⟨bq, rfl, hb⟩ := dn_tupkey ok2 n2
    obtain ⟨z, ez, nz⟩ := (dnt_look m).1 d e
    refine ⟨p, z, rfl, ?_, ((k0.step s1 ok1).step s2 ok2).now ok2 nz q⟩
    rw [← ez]
    exact dget_of (.inr ⟨o, ok2.ex _ _ hp⟩) hb
/-- x[k], x the owner of its dict -/
theorem ed_getT (i : Nat) (kvs : List (List Key × D)) (hu : X.A.units + 1 < cLine) (hN : X.N[i]? = some x) (h : S[i]? = some (some (.ownT kvs))) (he : ED X B S b fun y => ∃ k d, y = tD k ∧ look kvs k = some d ∧ Q d) (hs : NoSl b := by exact fun _ _ => rfl)
    (hv : Vis X.env.scope x := by first | exact Or.inl rfl | exact Or.inr (Or.inl rfl) | exact Or.inr (Or.inr rfl)) (hd : (x == ("__debug__" : Str)) = false := by decide) (hcd : (x == ("__classdict__" : Str)) = false := by decide) : ED X B S (.Subscript (.Name x px) b pos) Q := fun σ W H r R k0 => by
  refine PE.w (pe_dget hu (pe_var hN hv hd hcd) we_pe hs) ?_
  obtain ⟨v, e1, p, ws, rfl, hB, n, hI, hH, d0⟩ := r.sl i _ h
  refine ⟨_, e1, he σ W H r _ fun y u W2 H2 s2 ok2 n2 q2 => ?_⟩
  obtain ⟨k, d, rfl, e, q⟩ := q2
  obtain ⟨bq, rfl, hb⟩ := dn_tupkey ok2 n2
  obtain ⟨z, ez, nz⟩ := (dnt_look (d0.mono s2.I)).1 d e
  refine ⟨p, z, rfl, ?_, (k0.step s2 ok2).now ok2 nz q⟩
  rw [← ez]
  exact dget_of (.inl (s2.keep _ _ hH n)) hb
theorem td_inT (i : Nat) (kvs : List (List Key × D)) (hu : X.A.units + 1 < cLine) (hN : X.N[i]? = some x) (h : S[i]? = some (some (.ownT kvs))) (he : ED X B S a fun y => ∃ k, y = tD k ∧ QB (look kvs k).isSome)
    (hm : behindInMarks .In (.Name x px) = false := by first | exact nomark _ | rfl) (hv : Vis X.env.scope x := by first | exact Or.inl rfl | exact Or.inr (Or.inl rfl) | exact Or.inr (Or.inr rfl)) (hd : (x == ("__debug__" : Str)) = false := by decide) (hcd : (x == ("__classdict__" : Str)) = false := by decide) : TD X B S (.Compare a [.In] [.Name x px] pos) QB := fun σ W H r R k0 => by
  refine PT.w (pt_cmpR (op_dinT hu) we_pe (pe_var hN hv hd hcd) hm) ?_
  obtain ⟨v, e1, p, ws, rfl, hB, n, hI, hH, d0⟩ := r.sl i _ h
  refine he σ W H r _ fun y u W2 H2 s2 ok2 n2 q2 => ?_
  obtain ⟨k, rfl, q⟩ := q2
  obtain ⟨bq, rfl, hb⟩ := dn_tupkey ok2 n2
  refine ⟨_, e1, p, _, rfl, dget_of (.inl (s2.keep _ _ hH n)) hb, ?_⟩
  rw [look_some (d0.mono s2.I)]
  exact ⟨_, rfl, (k0.step s2 ok2).now ok2 q⟩
end
/-! ### owned -/
section
variable {K : PySem.W.Frag} {g : List Code} {B : Hp} {S : En} {σ : L2.St} {W : Wd} {H : Hp} {i : Nat} {kvs kvs' : List (List Key × D)} {p : Addr} {ws ws' : List (List Key × V)}
theorem Rep.newT (r : Rep K g B S σ W H) (hB : B p = none) (n : ¬ W.P p) (hi : W.I p = none) (hp : H p = some (.dT ws)) (d : Dnt K W.I kvs ws) (new : ∀ (j : Nat) (m : List (List Key × D)), S[j]? = some (some (.ownT m)) → σ[j]? ≠ some (some (.ref p))) :
    Rep K g B (S.set i (some (.ownT kvs))) (σ.set i (some (.ref p))) W H where
  ok := r.ok
  gb := r.gb
  len := by simpa using r.len
  sl := fun j s e => by
    by_cases q : i = j
    · subst q
      by_cases z : i < S.length
      · rw [List.getElem?_set_self z] at e
        cases e
        exact ⟨_, List.getElem?_set_self (r.len ▸ z), p, ws, rfl, hB, n, hi, hp, d⟩
      · rw [List.getElem?_eq_none (by simpa using z)] at e
        cases e
    · rw [List.getElem?_set_ne q] at e ⊢
      exact r.sl j s e
  dist := fun a b l m q ne e1 e2 e3 => by
    have key : ∀ c l, (S.set i (some (.ownT kvs)))[c]? = some (some (Sl.own l)) → i ≠ c := fun c l e z => by
      subst z
      by_cases y : i < S.length
      · rw [List.getElem?_set_self y] at e; cases e
      · rw [List.getElem?_eq_none (by simpa using y)] at e; cases e
    have qa := key a l e1
    have qb := key b m e2
    rw [List.getElem?_set_ne qa] at e1 e3
    rw [List.getElem?_set_ne qb] at e2 ⊢
    exact r.dist a b l m q ne e1 e2 e3
  distT := fun a b la lb q ne e1 e2 e3 => by
    by_cases qa : i = a
    · subst qa
      have lt : i < σ.length := by
        rcases Nat.lt_or_ge i σ.length with z | z
        · exact z
        · rw [List.getElem?_eq_none (by simpa using z)] at e3; cases e3
      rw [List.getElem?_set_self lt] at e3
      cases e3
      rw [List.getElem?_set_ne ne] at e2 ⊢
      exact new b lb e2
    · rw [List.getElem?_set_ne qa] at e1 e3
      by_cases qb : i = b
      · subst qb
        intro e4
        have lt : i < σ.length := by
          rcases Nat.lt_or_ge i σ.length with z | z
          · exact z
          · rw [List.getElem?_eq_none (by simpa using z)] at e4; cases e4
        rw [List.getElem?_set_self lt] at e4
        cases e4
        exact new a la e1 e3
      · rw [List.getElem?_set_ne qb] at e2 ⊢
        exact r.distT a b la lb q ne e1 e2 e3
theorem Rep.putT (r : Rep K g B S σ W H) (h : S[i]? = some (some (.ownT kvs))) (e1 : σ[i]? = some (some (.ref p))) (hB : B p = none) (n : ¬ W.P p) (hI : W.I p = none) (hH : H p = some (.dT ws)) (d : Dnt K W.I kvs' ws') :
    Rep K g B (S.set i (some (.ownT kvs'))) σ W (upd H p (.dT ws')) := by
  have lt : i < S.length := (List.getElem?_eq_some_iff.mp h).1
  have key : ∀ {c : Nat} {m : List D}, (S.set i (some (.ownT kvs')))[c]? = some (some (Sl.own m)) → S[c]? = some (some (Sl.own m)) := fun {c m} ec => by
    by_cases q2 : i = c
    · subst q2
      rw [List.getElem?_set_self lt] at ec
      cases ec
    · rw [List.getElem?_set_ne q2] at ec
      exact ec
  refine ⟨ok_upd r.ok n hI, r.gb, by simpa using r.len, fun j s ej => ?_, fun a b la lb q ne e2 e3 e4 => r.dist a b la lb q ne (key e2) (key e3) e4, r.distT.setS i fun l _ => ⟨kvs, h⟩⟩
  by_cases q : i = j
  · subst q
    rw [List.getElem?_set_self lt] at ej
    cases ej
    exact ⟨_, e1, p, _, rfl, hB, n, hI, upd_same, d⟩
  · rw [List.getElem?_set_ne q] at ej
    obtain ⟨v2, e2, h2⟩ := r.sl j s ej
    refine ⟨v2, e2, ?_⟩
    cases s with
    | val d2 => exact h2
    | pot => exact h2
    | own m =>
      obtain ⟨p2, ys, rfl, b1, b2, b3, b4, b5⟩ := h2
      refine ⟨p2, ys, rfl, b1, b2, b3, ?_, b5⟩
      rw [upd_ne (fun y => by rw [y, hH] at b4; cases b4)]
      exact b4
    | ownT m =>
      obtain ⟨p2, ys, rfl, b1, b2, b3, b4, b5⟩ := h2
      refine ⟨p2, ys, rfl, b1, b2, b3, ?_, b5⟩
      rw [upd_ne (fun y => by
        rw [y] at e2
        exact r.distT i j kvs m p q h ej e1 e2)]
      exact b4
    | inst C p2 dx fs =>
      obtain ⟨vs, rfl, b1, b2, b3, b4, b5, b6, b7, b8, b9, b10⟩ := h2
      refine ⟨vs, rfl, b1, b2, b3, b4, b5, b6, b7, ?_, ?_, b10⟩
      · rw [upd_ne (fun y => by rw [y, hH] at b8; cases b8)]
        exact b8
      · rw [upd_ne (fun y => by rw [y, hH] at b9; cases b9)]
        exact b9
/-- given away: known to its object from now on -/
theorem Rep.frzT {o : Obj} (r : Rep K g B S σ W H) (h : S[i]? = some (some (.ownT kvs))) (e1 : σ[i]? = some (some (.ref p))) (hB : B p = none) (n : ¬ W.P p) (hI : W.I p = none) (hH : H p = some (.dT ws)) (d : Dnt K W.I kvs ws) :
    Rep K g B (S.set i (some (.val (.dcT kvs)))) σ (W.new p (.frz o (.dT ws))) (upd H p (.frz o (.dT ws))) := by
  have lt : i < S.length := (List.getElem?_eq_some_iff.mp h).1
  have key : ∀ {c : Nat} {m : List D}, (S.set i (some (.val (.dcT kvs))))[c]? = some (some (Sl.own m)) → S[c]? = some (some (Sl.own m)) := fun {c m} ec => by
    by_cases q2 : i = c
    · subst q2
      rw [List.getElem?_set_self lt] at ec
      cases ec
    · rw [List.getElem?_set_ne q2] at ec
      exact ec
  have ok0 : Ok g W (upd H p (.frz o (.dT ws))) := ok_upd r.ok n hI
  have ok1 := ok0.frz (p := p) upd_same n fun z => r.gb _ z hB
  refine ⟨ok1, r.gb, by simpa using r.len, fun j s ej => ?_, fun a b la lb q ne e2 e3 e4 => r.dist a b la lb q ne (key e2) (key e3) e4, r.distT.setS i fun l z => by cases z⟩
  by_cases q : i = j
  · subst q
    rw [List.getElem?_set_self lt] at ej
    cases ej
    exact ⟨_, e1, .dcT (o := o) (show upd W.I p _ p = _ from upd_same) (d.mono (Ex.new hI))⟩
  · rw [List.getElem?_set_ne q] at ej
    obtain ⟨v2, e2, h2⟩ := r.sl j s ej
    refine ⟨v2, e2, ?_⟩
    cases s with
    | val d2 => exact Dn.mono (Ex.new hI) h2
    | pot => exact h2
    | own m =>
      obtain ⟨p2, ys, rfl, b1, b2, b3, b4, b5⟩ := h2
      have ne : p2 ≠ p := fun y => by rw [y, hH] at b4; cases b4
      refine ⟨p2, ys, rfl, b1, b2, ?_, by rw [upd_ne ne]; exact b4, b5.mono (Ex.new hI)⟩
      show upd W.I p _ p2 = none
      rw [upd_ne ne]
      exact b3
    | ownT m =>
      obtain ⟨p2, ys, rfl, b1, b2, b3, b4, b5⟩ := h2
      have ne : p2 ≠ p := fun y => by
        rw [y] at e2
        exact r.distT i j kvs m p q h ej e1 e2
      refine ⟨p2, ys, rfl, b1, b2, ?_, by rw [upd_ne ne]; exact b4, b5.mono (Ex.new hI)⟩
      show upd W.I p _ p2 = none
      rw [upd_ne ne]
      exact b3
    | inst C p2 dx fs =>
      obtain ⟨vs, rfl, b1, b2, b3, b4, b5, b6, b7, b8, b9, b10⟩ := h2
      have ne : p2 ≠ p := fun y => by rw [y, hH] at b8; cases b8
      have ne2 : dx ≠ p := fun y => by rw [y, hH] at b9; cases b9
      refine ⟨vs, rfl, b1, b2, b3, b4, b5, ?_, ?_, by rw [upd_ne ne]; exact b8, by rw [upd_ne ne2]; exact b9, b10.mono (Ex.new hI)⟩
      · show upd W.I p _ p2 = none
        rw [upd_ne ne]
        exact b6
      · show upd W.I p _ dx = none
        rw [upd_ne ne2]
        exact b7
theorem stp_frzT {W0 : Wd} {o : HO} (z : Stp W0 B W H) (hB : B p = none) (hI : W.I p = none) : Stp W0 B (W.new p o) (upd H p o) :=
  (stp_upd z hB).frz hB hI
end
section
variable {X : Cx} {B : Hp} {W0 : Wd} {S : En} {pos px p1 : Pos} {Q : D → Prop} {a b c e value key : Expr} {E : Ends'} {x : Str} {st : Stmt} {sts : List Stmt}
/-- x = {} -/
theorem sd_newT {dp : Pos} (i : Nat) (hN : X.N.Nodup) (hi : X.N[i]? = some x) (q : E.nx (S.set i (some (.ownT [])))) (hx : Loc X.env.scope x := by first | exact Or.inl rfl | exact Or.inr rfl)
    (hs : swapsWith (.Dict [] [] dp) (some (.Name x px)) pos.line X.env = pure false := by rfl) (hf : X.fn x = true ∨ X.env.scope.names.lookup x = some .local := by first | exact .inl rfl | exact .inr rfl) : SD X B W0 S (.Assign [.Name x px] (.Dict [] [] dp) pos) E := fun σ W H r z D' k =>
  PS.w (ps_set hN hi hx pe_dnewT hs hf) fun p hp => k.nx _ _ W _ ((r.step (Stp.own hp) (r.ok.own hp)).newT (z.free r.ok hp) (r.ok.notP hp) (r.ok.free hp) upd_same .nil fun j m e1 e2 => by
    obtain ⟨v, e3, p2, ys, e4, _, _, _, h4, _⟩ := r.sl j _ e1
    rw [e2] at e3
    cases e3
    cases e4
    rw [hp] at h4
    cases h4) (z.trans r.ok (Stp.own hp)) (Ex.refl _) q
/-- x[k] = v, x the owner of its dict -/
theorem sd_putT (i : Nat) (kvs : List (List Key × D)) (hu : X.A.units + 1 < cLine) (hN : X.N[i]? = some x) (h : S[i]? = some (some (.ownT kvs))) (hl : kvs.length < 50000) (he : ED X B S value fun d => ED X B S key fun y => ∃ k, y = tD k ∧ E.nx (S.set i (some (.ownT (putE kvs k d)))))
    (hv : Vis X.env.scope x := by first | exact Or.inl rfl | exact Or.inr (Or.inl rfl) | exact Or.inr (Or.inr rfl)) (hd : (x == ("__debug__" : Str)) = false := by decide) (hcd : (x == ("__classdict__" : Str)) = false := by decide)
    (hs : swapsWith value (some (.Subscript (.Name x px) key p1)) pos.line X.env = pure false := by rfl) : SD X B W0 S (.Assign [.Subscript (.Name x px) key p1] value pos) E := fun σ W H r z D' k0 => by
  refine PS.w (ps_dput hu (pe_var hN hv hd hcd) we_pe we_pe hs) ?_
  obtain ⟨v0, e1, p, ws, rfl, hB, n, hI, hH, d0⟩ := r.sl i _ h
  refine he σ W H r _ fun d v W1 H1 s1 ok1 n1 q1 => ⟨_, e1, ?_⟩
  refine q1 σ W1 H1 (r.step s1 ok1) _ fun y u W2 H2 s2 ok2 n2 q2 => ?_
  obtain ⟨ks, rfl, q⟩ := q2
  obtain ⟨bq, rfl, hb⟩ := dn_tupkey ok2 n2
  have st := s1.trans ok1 s2
  have hH2 : H2 p = some (.dT ws) := st.keep _ _ hH n
  have nP : ¬ W2.P p := fun q => n (st.oldP p _ hH q)
  have hI2 : W2.I p = none := st.old p _ hH (fun _ z => by cases z) hI
  refine ⟨p, _, rfl, DPut.t hH2 hb (Nat.lt_of_lt_of_le (show ws.length < 60000 by rw [← d0.length]; omega) (by decide)), ?_⟩
  exact k0.nx _ σ W2 _ ((r.step st ok2).putT h e1 hB nP hI2 hH2 ((d0.mono st.I).put (n1.mono s2.I))) (stp_upd (z.trans r.ok st) hB) st.I q
/-- what a name owns is given away -/
theorem sds_frzT (i : Nat) (kvs : List (List Key × D)) (h : S[i]? = some (some (.ownT kvs))) (k : SDs X B W0 (S.set i (some (.val (.dcT kvs)))) sts E) : SDs X B W0 S sts E := fun σ W H r z D' q => by
  obtain ⟨v, e1, p, ws, rfl, hB, n, hI, hH, d0⟩ := r.sl i _ h
  intro pins s J
  obtain ⟨od, J'⟩ := J.lock hH True.intro
  exact k σ _ _ (r.frzT (o := od) h e1 hB n hI hH d0) (stp_frzT z hB hI) D' (q.mono (Ex.new hI)) pins s J'
/-- a new dict, not yet part of what never changes -/
def ContT (K : PySem.W.Frag) (g : List Code) (W : Wd) (H : Hp) (Q : List (List Key × D) → Prop) (R : VK) : Prop := ∀ kvs p ws W' H', Stp W H W' H' → Ok g W' H' → H p = none → ¬ W'.P p → W'.I p = none → H' p = some (.dT ws) → Dnt K W'.I kvs ws → Q kvs → R (.ref p) H'
def FT (X : Cx) (B : Hp) (S : En) (e : Expr) (Q : List (List Key × D) → Prop) : Prop := ∀ σ W H, Rep X.K (gOf X) B S σ W H → ∀ R, ContT X.K (gOf X) W H Q R → WE X e σ H R
theorem we_lock {σ : L2.St} {H : Hp} {R : VK} (h : WE X e σ H fun v H' => ∃ p ws, v = .ref p ∧ H' p = some (.dT ws) ∧ ∀ od, R (.ref p) (upd H' p (.frz od (.dT ws)))) : WE X e σ H R := fun pins s I => by
  refine wpAny_mono (h pins s I) (fun u s' hq => ?_) fun _ _ q => q
  obtain ⟨v, H', I', rv, p, ws, rfl, hp, q⟩ := hq
  obtain ⟨od, J⟩ := I'.lock hp True.intro
  exact ⟨.ref p, _, J, rv, q od⟩
theorem ed_ft (h : FT X B S e fun kvs => Q (.dcT kvs)) : ED X B S e Q := fun σ W H r R k => we_lock (by
  refine h σ W H r _ fun kvs p ws W' H' st ok hp n i hl d q => ⟨p, ws, rfl, hl, fun od => ?_⟩
  have ok0 : Ok (gOf X) W' (upd H' p (.frz od (.dT ws))) := ok_upd ok n i
  have ok1 := ok0.frz (p := p) upd_same n fun z => (r.ok.gd _ z).2.1 hp
  exact k (.dcT kvs) (.ref p) _ _ ((stp_upd st hp).frz hp i) ok1 (.dcT (o := od) (show upd W'.I p _ p = _ from upd_same) (d.mono (Ex.new i))) q)
end
end DL

set_option Elab.async false
set_option linter.all false
set_option maxRecDepth 100000
set_option maxHeartbeats 4000000
/-! dicts that are data: walked, told as lists, sorted -/
namespace DL
open PySem PySem.Spec PyProof.Rows L2
section
variable {g : List Code} {W : Wd} {H : Hp}
/-- a tuple of plain things that stands in the heap may be told as data -/
theorem ext1 {q : Addr} {ks : List Key} (ok : Ok g W H) (h : H q = some (.tup (ks.map kV))) : ∃ W', Stp W H W' H ∧ Ok g W' H ∧ W'.I q = some (.tup (ks.map kV)) := by
  cases e : W.I q with
  | some o =>
    have := ok.ex q o e
    rw [h] at this
    cases this
    exact ⟨W, Stp.refl, ok, e⟩
  | none =>
    have nP : ¬ W.P q := fun z => by
      obtain ⟨x, y, e2, _⟩ := (ok.pot q z).2
      rw [h] at e2
      cases e2
    have ng : ¬ InG g q := fun z => (ok.gd q z).2.2 ks h
    refine ⟨W.new q (.tup (ks.map kV)), ⟨Ex.new e, fun _ z => z, fun _ _ hb _ => hb, fun b u hb t n => ?_, fun _ _ _ z => z⟩, ok.frz h nP ng, show upd W.I q _ q = _ from upd_same⟩
    show upd W.I q _ b = none
    rw [upd_ne (fun y => by
      subst y
      rw [h] at hb
      exact t _ (Option.some.inj hb).symm)]
    exact n
theorem extN {kvs : List (List Key × V)} {bs : List Addr} (hk : IsKeys H kvs bs) (ok : Ok g W H) : ∃ W', Stp W H W' H ∧ Ok g W' H ∧ Paired (fun p b => W'.I b = some (.tup (p.1.map kV))) kvs bs := by
  unfold IsKeys at hk
  induction hk generalizing W with
  | nil => exact ⟨W, Stp.refl, ok, .nil⟩
  | @cons p b kvs bs h t ih =>
    obtain ⟨W1, s1, ok1, e1⟩ := ext1 ok h
    obtain ⟨W2, s2, ok2, e2⟩ := ih ok1
    exact ⟨W2, s1.trans ok1 s2, ok2, .cons (s2.I _ _ e1) e2⟩
end
/-- the keys, as tuples -/
def keysD (kvs : List (List Key × D)) : List D := kvs.map fun p => tD p.1
theorem dns_keysOf {K : PySem.W.Frag} {I : Hp} : ∀ {kvs : List (List Key × D)} {ws : List (List Key × V)} {bs : List Addr}, Dnt K I kvs ws → Paired (fun p b => I b = some (.tup (p.1.map kV))) ws bs → Dns K I (keysD kvs) (bs.map V.ref)
  | _, _, _, .nil, .nil => .nil
  | _, _, _, .cons (f := f) _ r, .cons h t => .cons (.tup h (keys_dns f)) (dns_keysOf r t)
section
variable {X : Cx} {B : Hp} {W0 : Wd} {S : En} {pos px p1 p : Pos} {Q : D → Prop} {a b c e : Expr} {E : Ends'} {x : Str} {st : Stmt} {sts : List Stmt} {kvs : List (List Key × D)}
/-- [elt for g in d] -/
theorem fd_lcK {elt tg iter : Expr} {scope : Scope} {own : List (Str × Nat)} {g : TG} {Q : List D → Prop} (J : Nat → List D → Prop) (S' : D → En) (hc : X.calm = true) (hN : X.N.Nodup) (ok : BlkOk X.N X.env.scope scope own)
    (hg : ∀ (s : Shared) (H : Hp) (C : Addr) (cl : List (Str × Addr)) (fp : List Addr), PG (X.blk s H scope (compEnvC scope cl C X.env) fp) tg g)
    (h : ED X B S iter fun d => d = .dcT kvs ∧ kvs.length ≤ 50000 ∧ J 0 []) (hp : ∀ d, Pat X.K g (own.map (·.2)) S d (S' d))
    (he : ∀ (i : Nat) k d acc, kvs[i]? = some (k, d) → acc.length = i → J i acc → ∀ (s : Shared) (H0 : Hp) (C : Addr) (cl : List (Str × Addr)) (fp : List Addr), ED (X.blk s H0 scope (compEnvC scope cl C X.env) fp) B (S' (tD k)) elt fun y => J (i + 1) (acc ++ [y]))
    (hd : ∀ acc, acc.length = kvs.length → J kvs.length acc → Q acc) (hs : ∀ x, foldedSetIterable iter X.env x = pure x := by intro _; rfl) : FD X B S (.ListComp elt [⟨tg, iter, [], 0⟩] scope pos) Q := fun σ W H r R k => by
  refine PE.w (pe_lc (te := WEb X scope elt) hc hN (pi_keys we_pe) ok hg (fun _ _ _ _ _ => pts_nil) web_pe hs) ?_
  refine h σ W H r _ fun d v W1 H1 s1 ok1 n1 q1 => ?_
  obtain ⟨rfl, hz, j0⟩ := q1
  cases n1 with
  | @dcT _ a o ws ha m =>
    have hlw := m.length
    refine ⟨a, o, rfl, .inr ⟨ws, ok1.ex _ _ ha, fun p hp0 => ?_⟩⟩
    have r1 := r.step s1 ok1
    refine lc_it walk_keysT (fun i H' => ∃ acc W', Mid X.K (gOf X) W1 H1 p acc W' H' ∧ acc.length = i ∧ J i acc) ⟨[], W1, ⟨Stp.own hp0, ok1.own hp0, ok1.notP hp0, ok1.free hp0, [], upd_same, .nil⟩, rfl, j0⟩
      (fun i H' _ ⟨acc, W', mm, _⟩ => mm.ok.ex _ _ (mm.st.I _ _ ha)) ?_ ?_
    · rintro i y H' H2 hi ⟨acc, W', mm, hl, j⟩ ⟨rfl, k1, v1, q, hw, rfl, hq⟩
      obtain ⟨d, hd', nd⟩ := m.get hw
      obtain ⟨W2, s2, ok2, hI⟩ := ext1 mm.ok hq
      have mm2 := mm.step s2 ok2
      have r2 := r1.step mm2.st mm2.ok
      refine hp (tD k1) (gOf X) B σ W2 H2 _ r2 (.tup hI (keys_dns k1)) _ fun σ2 e2 r3 => ⟨e2, ?_⟩
      show WEb X scope elt σ2 H2 _
      intro s H0 C cl fp
      refine he i k1 d acc hd' hl j s H0 C cl fp σ2 W2 H2 r3 _ fun y W3v W3 H3 s3 ok3 n3 q3 => ?_
      obtain ⟨xs', e1, e3, m3⟩ := (mm2.step s3 ok3).more hp0 n3 (by omega)
      exact ⟨xs', e1, e3, _, W3, m3, by simp [hl], q3⟩
    · rintro H' ⟨acc, W', mm, hl, j⟩
      obtain ⟨ys, hH, ds⟩ := mm.h
      rw [← hlw] at hl j
      exact k acc p ys W' H' (s1.trans ok1 mm.st) mm.ok (s1.free ok1 hp0) mm.n mm.i hH ds (hd acc hl j)
/-- len(d) -/
theorem call_len_dTr : CallR X (.builtin "len") (fun xs H Q => ∃ a ws, xs = [V.ref a] ∧ Rd H a (.dT ws) ∧ Q (.int (ws.length : Int)) H) := by
  intro pins t τ H xs us Q J r q
  obtain ⟨a, ws, rfl, ha, q⟩ := q
  rw [Vals.ref1 r]
  obtain ⟨z, hd, ys, rel, dd⟩ := dt_rd J.hok ha
  have e : ws.length = ys.length := Paired.length rel
  have z' : ys.length ≤ sizeLine := e ▸ z
  refine call_len_dictH hd dd (by rw [sizeLine_eq] at z'; omega) ?_
  rw [← e]
  exact ⟨.int (ws.length : Int), H, J.tok _, ⟨_, rfl⟩, q⟩
theorem cd_lenT (q : Q (.int (kvs.length : Int))) : CD X (.builtin "len") [.val (.dcT kvs)] Q := cd_of call_len_dTr fun vs W H ok ha R c => by
  obtain ⟨v, rfl, m⟩ := one_arg ha
  cases m with
  | @dcT _ a o ws hp m =>
    refine ⟨a, ws, rfl, .inr ⟨o, ok.ex _ _ hp⟩, ?_⟩
    rw [← m.length]
    exact c.now ok (.int _) q
end
end DL

set_option Elab.async false
set_option linter.all false
set_option maxRecDepth 100000
set_option maxHeartbeats 4000000
/-! {k: v for ..}, the keys tuples; lists of tuples of ints sorted -/
namespace DL
open PySem PySem.Spec PyProof.Rows L2
section
variable {X : Cx}
/-- one entry more, by a comprehension -/
theorem put_dT {pins : List (Addr × Obj)} {τ : L2.St} {G : Hp} {t : Shared} {E : Value → Shared → Prop} {D b : Addr} {ws : List (List Key × V)} {ks : List Key} {z : V} {u : Value} {R : Unit → Shared → Prop} (hu : X.A.units + 1 < cLine) (J : Inv X pins τ G t) (hD : G D = some (.dT ws)) (hw : ws.length < sizeLine)
    (hb : G b = some (.tup (ks.map kV))) (rz : RelV z u) (k : ∀ t', Inv X pins τ (upd G D (.dT (putK ws ks z))) t' → R () t') : wpAny (model X.prog X.w) X.A (dictSet D (.ref b) u) R E t := by
  obtain ⟨le, ns, ys, rel, at_⟩ := dt_of J.hok hD
  have le2 : ys.length ≤ sizeLine := (Paired.length rel) ▸ le
  have fit : (putK ws ks z).length ≤ sizeLine := Nat.le_trans (length_putK ws ks z) hw
  refine wpAny_dictSet_heap (hsz := le2) (Nat.lt_of_succ_lt hu) (key_of J.hok hb) at_ fun h' at2 same => k _ ?_
  obtain ⟨oD, es, ep, gD, x1, x2, x3, _, x5⟩ := at2
  refine d_write J (by rw [hD]; trivial) same ⟨oD, gD⟩ ⟨fit, ns, _, KT.keeps (rel.put ks hb rz) (fun c zs ec => ?_), oD, es, ep, gD, x1, x2, x3, x5⟩
  have : c ≠ D := fun e => by rw [e, hD] at ec; cases ec
  rw [upd_ne this, ec]
/-- {k: v for g in ..}: D the new dict -/
def tDcT (wi : TI) (g : TG) (tk tv : TE) (vs : List Nat) : TE := fun σ H Q => wi σ H fun Y H1 => ∀ D, H1 D = none → ∃ Z : Nat → Nat → Hp → Prop, (∃ m, Z 0 m (upd H1 D (.dT []))) ∧ ∀ i m G, Z i m G →
  (Y.stop i G ∧ Q (.ref D) G) ∨ (Y.go i G ∧ ∃ Nx : Hp → Prop, (∀ G', Nx G' → ∃ m', m' < m ∧ Z (i + 1) m' G') ∧ ∀ x G', Y.yld i G x G' → g x (wipe σ vs) G' fun τ G2 => wipe τ vs = wipe σ vs ∧
    tk τ G2 fun y G3 => tv τ G3 fun z G4 => ∃ ws ks b, y = .ref b ∧ G4 b = some (.tup (ks.map kV)) ∧ G4 D = some (.dT ws) ∧ ws.length < sizeLine ∧ Nx (upd G4 D (.dT (putK ws ks z))))
theorem pe_dcT {kx vx tg iter : Expr} {scope : Scope} {own : List (Str × Nat)} {pos : Pos} {wi : TI} {g : TG} {tk tv : TE} (hc : X.calm = true) (hu : X.A.units + 1 < cLine) (hN : X.N.Nodup) (hi : PI X tg iter wi) (ok : BlkOk X.N X.env.scope scope own) (hg : AllBlk X scope fun Y => PG Y tg g)
    (hk : AllBlk X scope fun Y => PE Y kx tk) (hv : AllBlk X scope fun Y => PE Y vx tv) (hs : ∀ x, foldedSetIterable iter X.env x = pure x := by intro _; rfl) : PE X (.DictComp kx vx [⟨tg, iter, [], 0⟩] scope pos) (tDcT wi g tk tv (own.map (·.2))) := by
  refine ⟨fun pins t σ H Q J h => ?_⟩
  rw [arm_eval_DictComp]
  have known : ∀ y ∈ scope.names, y.2 = .free → ∃ c, X.env.cells.lookup y.1 = some c := fun y my e => (ok.free y my e).elim (fun k => J.ok.has _ (Or.inl k)) (fun k => J.ok.has _ (Or.inr k))
  refine wpAny_comprehension_free rfl hs (closure_ok known) ok.kind (fun y my e => (ok.uniq y my).trans (congrArg some e)) (thn (hi.run pins t σ H _ J h) fun xv t1 hx => thn hx fun itv t2 hit => ?_)
  obtain ⟨it, fp, tn, Y, H2, rfl, J2, T, stay, fpOk, turns⟩ := hit
  refine wpAny_newObj_type (newEnv_comp ?_)
  generalize eD : t2.heap.objs.size = D
  obtain ⟨Z, ⟨m0, z0⟩, turn⟩ := turns D (J2.hok.fresh (Nat.le_of_eq eD))
  generalize e3 : ({ t2 with heap := t2.heap.push { cls := .type "dict", data := .dict #[] } } : Shared) = t3
  have hp3 : t3.heap = t2.heap.push { cls := .type "dict", data := .dict #[] } := by rw [← e3]
  have J3 : Inv X pins σ (upd H2 D (.dT [])) t3 := by
    subst e3 eD
    exact J2.laid (t' := t2.toks) (fun b o e => Heap.get?_push_of_some _ e) (Nat.le_refl _) (dt_empty t2.heap J2.big)
  have below : ∀ b ∈ fp, b < D := fun b mb => by
    obtain ⟨o, e, _⟩ := T.obj _ _ stay b mb
    exact eD ▸ Heap.lt_size e
  generalize eG : upd H2 D (.dT []) = G0 at J3 z0
  have fp3 : ∀ b ∈ fp, FpOk X pins G0 b ∧ b < t3.heap.objs.size := fun b mb => by
    have lt := below b mb
    refine ⟨⟨?_, (fpOk b mb).2⟩, by rw [hp3, Heap.size_push, eD]; exact Nat.lt_succ_of_lt lt⟩
    rw [← eG, upd_ne (Nat.ne_of_lt lt)]
    exact (fpOk b mb).1
  have stay3 : tn 0 t3.heap := T.keep _ _ _ stay fun b _ o e => hp3 ▸ Heap.get?_push_of_some _ e
  have J4 := block_start J3 ok hN fp3
  generalize eC : cellsFrom (t3.heap.objs.size + 1) scope.names (cloFrom X.env.cells scope.names []) = cs at J4
  have pg := hg t3 G0 t3.heap.objs.size cs fp
  have pk := hk t3 G0 t3.heap.objs.size cs fp
  have pv := hv t3 G0 t3.heap.objs.size cs fp
  generalize eE : compEnvC scope cs t3.heap.objs.size X.env = ce at J4 pg pk pv
  have loc : ce.locals = t3.heap.objs.size := by rw [← eE]; rfl
  have start : codeAny (model X.prog X.w) X.A (.compStart (.DictComp kx vx [⟨tg, iter, [], 0⟩] scope pos) 0 (.ref it) (.ref D) ce) (compPost (model X.prog X.w) X.A X.xe none (EP X pins σ Q) (.ref D) t3.heap.objs.size)
      { t3 with heap := pushCells (t3.heap.push { cls := .type "dict", data := .dict #[] }) scope.names } := by
    generalize e4 : ({ t3 with heap := pushCells (t3.heap.push { cls := .type "dict", data := .dict #[] }) scope.names } : Shared) = t4 at J4
    have stay4 : tn 0 t4.heap := T.keep _ _ _ stay3 fun b _ o e => by rw [← e4]; exact pushCells_keeps _ _ _ _ (Heap.get?_push_of_some _ e)
    have fpS : ∀ {τ : L2.St} {G : Hp} {u : Shared}, Inv (X.blk t3 G0 scope ce fp) [] τ G u → (∀ b ∈ fp, G b = none) → ∀ b ∈ fp, FpOk (X.blk t3 G0 scope ce fp) [] G b := fun {τ G u} I' no b mb =>
      ⟨no b mb, (I'.ok.exf b mb).1, I'.ok.exfs b mb, .inl mb, fun x c e => (I'.ok.exf b mb).2 x c e, fun p mp => absurd (show p ∈ ([] : List (Addr × Obj)) ++ [] from mp) (by simp)⟩
    have goes : codeAny (model X.prog X.w) X.A (.compLoop (.DictComp kx vx [⟨tg, iter, [], 0⟩] scope pos) 0 (.ref it) (.ref D) ce) (compPost (model X.prog X.w) X.A X.xe none (EP X pins σ Q) (.ref D) t3.heap.objs.size) t4 := by
      refine compLoop_anyD (fun n u => ∃ i G, Inv (X.blk t3 G0 scope ce fp) [] (wipe σ (own.map (·.2))) G u ∧ tn i u.heap ∧ (∀ b ∈ fp, G b = none) ∧ Z i n G) ?_ m0 ⟨0, G0, J4, stay4, fun b mb => (fp3 b mb).1.1, z0⟩
      rintro n t5 ⟨i, G5, J5, stay5, no5, z5⟩
      rcases turn i n G5 z5 with ⟨stop, fin⟩ | ⟨go, Nx, less, step⟩
      · refine thnF (T.done (X.blk t3 G0 scope ce fp) rfl rfl rfl hc i [] t5 _ G5 (fun _ _ => False) J5 (fpS J5 no5) stay5 stop) fun r t6 ⟨er, J6⟩ => ?_
        subst er
        have J7 : Inv X pins σ G5 t6 := J3.call' (ch := fp) J6.os J6.base J6.hok J6.bare fun b mb => by
          obtain ⟨_, a1, a2, a3, a4, a5⟩ := (fp3 b mb).1
          exact ⟨a3, a1, a4, a5⟩
        obtain ⟨m, ns, _⟩ := J6.loc
        have ns' : t6.heap.Ns ce.locals m := ns
        rw [loc] at ns'
        have noC : G5 t3.heap.objs.size = none := by
          have := J6.free
          rw [show (X.blk t3 G0 scope ce fp).env.locals = ce.locals from rfl, loc] at this
          exact this
        obtain ⟨f0, f1, f2, f3, f4, f5⟩ := J3.fpOk (H' := G5) (Nat.le_refl _) noC
        exact ⟨m, ns', fun h'' sb => ⟨.ref D, G5, J7.turned (t' := t6.toks) (fun b o nb e => (sb.2 b nb).trans e) f0 f1 f3 f4 f5, rfl, fin⟩⟩
      · refine thnF (T.item (X.blk t3 G0 scope ce fp) rfl rfl rfl hc i [] t5 _ G5 (fun _ _ => False) J5 (fpS J5 no5) stay5 go) fun r t6 ⟨u, er, goes6⟩ => ?_
        subst er
        refine thnF goes6 fun _ t7 ⟨x, G7, J7, r7, y7, stay7, no7⟩ => ?_
        refine thnF (pg.run _ t7 _ G7 x u _ (J7.pinned (fpS J7 no7) (T.obj _ _ stay7)) r7 (step x G7 y7)) fun _ t8 ⟨τ, G8, J8, wiped, q8⟩ => ?_
        refine thnF ((pts_nil (X := X.blk t3 G0 scope ce fp)).run _ t8 τ G8 (fun b G => b = true ∧ G = G8) J8 ⟨rfl, rfl⟩) fun b t9 ⟨G9, J9, eb, eG9⟩ => ?_
        subst eb eG9
        show wpAny _ _ (eval kx ce) _ _ t9
        refine thnF (pk.run _ t9 τ G9 _ J9 q8) fun kv ta ⟨y, Ga, Ja, ry, qa⟩ => ?_
        refine thnF (pv.run _ ta τ Ga _ Ja qa) fun vv tb ⟨w', Gb, Jb, rw', ws, ks, q, ey, hq, hD, hw, nx⟩ => ?_
        subst ey
        cases (show kv = Value.ref q from ry)
        refine put_dT (X := X.blk t3 G0 scope ce fp) hu Jb hD hw hq rw' fun tc Jc => ?_
        obtain ⟨m', lt, z6⟩ := less _ nx
        have same : ∀ b ∈ fp, ∀ o, t7.heap.get? b = some o → tc.heap.get? b = some o ∧ upd Gb D (.dT (putK ws ks w')) b = none := fun b mb o e => by
          have z := Jc.pin (b, o) (List.mem_append_right _ (List.mem_append_right _ (mem_pinsAt mb e)))
          exact ⟨z.1, z.2.1⟩
        have hl : (wipe σ (own.map (·.2))).length = τ.length := by rw [← wiped, wipe_length]
        refine ⟨m', lt, i + 1, _, (Jc.unpinned (pins := [])).weak hl (fun j v e => ?_), T.keep _ _ _ stay7 fun b mb o e => (same b mb o e).1, fun b mb => ?_, z6⟩
        · rw [← wiped] at e
          exact (wipe_some e).1
        · obtain ⟨o, e, _⟩ := T.obj _ _ stay7 b mb
          exact (same b mb o e).2
    exact codeAny_compStart_dict goes (T.self X.A 0 _ _ _ stay4 goes)
  rw [← eE] at start
  exact start
end
end DL

set_option Elab.async false
set_option linter.all false
set_option maxRecDepth 100000
set_option maxHeartbeats 4000000
/-! {k: v for .. in a list}; sorted of tuples of ints, as data -/
namespace DL
open PySem PySem.Spec PyProof.Rows L2
theorem putE_len (kvs : List (List Key × D)) (k : List Key) (d : D) : (putE kvs k d).length ≤ kvs.length + 1 := by
  unfold putE
  split
  · rw [List.length_map]; omega
  · simp
theorem dct_it {J : It} {n : Nat} {G : Hp → Prop} {Y : Nat → Hp → V → Hp → Prop} (w : Walk J n G Y) {g : TG} {tk tv : TE} {vs : List Nat} {σ : L2.St} {H1 : Hp} {D : Addr} {Qd : Hp → Prop} (Pv : Nat → Hp → Prop) (h0 : Pv 0 (upd H1 D (.dT []))) (hG : ∀ i H, i ≤ n → Pv i H → G H)
    (hs : ∀ i x H H', i < n → Pv i H → Y i H x H' → g x (wipe σ vs) H' fun σ2 H2 => wipe σ2 vs = wipe σ vs ∧ tk σ2 H2 fun y H3 => tv σ2 H3 fun z H4 => ∃ ws ks b, y = .ref b ∧ H4 b = some (.tup (ks.map kV)) ∧ H4 D = some (.dT ws) ∧ ws.length < sizeLine ∧ Pv (i + 1) (upd H4 D (.dT (putK ws ks z)))) (hd : ∀ H, Pv n H → Qd H) :
    ∃ Z : Nat → Nat → Hp → Prop, (∃ m, Z 0 m (upd H1 D (.dT []))) ∧ ∀ i m H, Z i m H → (J.stop i H ∧ Qd H) ∨ (J.go i H ∧ ∃ Nx : Hp → Prop, (∀ H', Nx H' → ∃ m', m' < m ∧ Z (i + 1) m' H') ∧ ∀ x H', J.yld i H x H' → g x (wipe σ vs) H' fun σ2 H2 => wipe σ2 vs = wipe σ vs ∧
      tk σ2 H2 fun y H3 => tv σ2 H3 fun z H4 => ∃ ws ks b, y = .ref b ∧ H4 b = some (.tup (ks.map kV)) ∧ H4 D = some (.dT ws) ∧ ws.length < sizeLine ∧ Nx (upd H4 D (.dT (putK ws ks z)))) := by
  refine ⟨fun i m H => m = n - i ∧ i ≤ n ∧ Pv i H, ⟨n, rfl, Nat.zero_le _, h0⟩, fun i m H ⟨em, hi, p⟩ => ?_⟩
  have hg := hG i H hi p
  rcases Nat.lt_or_ge i n with lt | ge
  · exact .inr ⟨w.goes i H lt hg, Pv (i + 1), fun H' p' => ⟨n - (i + 1), by omega, rfl, lt, p'⟩, fun x H' y => hs i x H H' lt p (w.yields i H x H' lt hg y)⟩
  · have : i = n := by omega
    subst this
    exact .inl ⟨w.stops H hg, hd H p⟩
/-- at an address of one's own: the dict so far -/
structure MidT (K : PySem.W.Frag) (g : List Code) (W1 : Wd) (H1 : Hp) (p : Addr) (l : List (List Key × D)) (W : Wd) (H : Hp) : Prop where
  st : Stp W1 H1 W H
  ok : Ok g W H
  n : ¬ W.P p
  i : W.I p = none
  h : ∃ ws, H p = some (.dT ws) ∧ Dnt K W.I l ws
theorem MidT.step {K : PySem.W.Frag} {g : List Code} {W1 W W2 : Wd} {H1 H H2 : Hp} {p : Addr} {l : List (List Key × D)} (m : MidT K g W1 H1 p l W H) (a : Stp W H W2 H2) (ok : Ok g W2 H2) : MidT K g W1 H1 p l W2 H2 := by
  obtain ⟨ws, hp, d⟩ := m.h
  exact ⟨m.st.trans m.ok a, ok, fun z => m.n (a.oldP p _ hp z), a.old p _ hp (fun _ z => by cases z) m.i, ws, a.keep p _ hp m.n, d.mono a.I⟩
theorem MidT.more {K : PySem.W.Frag} {g : List Code} {W1 W : Wd} {H1 H : Hp} {p : Addr} {l : List (List Key × D)} {k : List Key} {d : D} {v : V} (hp0 : H1 p = none) (m : MidT K g W1 H1 p l W H) (hd : Dn K W.I d v) (hl : l.length < 60000) :
    ∃ ws, H p = some (.dT ws) ∧ ws.length < sizeLine ∧ MidT K g W1 H1 p (putE l k d) W (upd H p (.dT (putK ws k v))) := by
  obtain ⟨ws, hp, ds⟩ := m.h
  exact ⟨ws, hp, Nat.lt_of_lt_of_le (ds.length ▸ hl) (by decide), stp_upd m.st hp0, ok_upd m.ok m.n m.i, m.n, m.i, _, upd_same, ds.put hd⟩
section
variable {X : Cx} {B : Hp} {W0 : Wd} {S : En} {pos px p1 p : Pos} {Q : D → Prop} {a b c e : Expr} {E : Ends'} {x : Str} {kvs : List (List Key × D)}
/-- {kx: vx for g in a list} -/
theorem ft_dcL {kx vx tg iter : Expr} {scope : Scope} {own : List (Str × Nat)} {g : TG} {l : List D} {Q : List (List Key × D) → Prop} (J : Nat → List (List Key × D) → Prop) (S' : D → En) (hc : X.calm = true) (hu : X.A.units + 1 < cLine) (hN : X.N.Nodup) (ok : BlkOk X.N X.env.scope scope own)
    (hg : AllBlk X scope fun Y => PG Y tg g) (h : ED X B S iter fun d => d = .lst l ∧ l.length ≤ 50000 ∧ J 0 []) (hp : ∀ d ∈ l, Pat X.K g (own.map (·.2)) S d (S' d))
    (he : ∀ (i : Nat) d acc, l[i]? = some d → J i acc → AllBlk X scope fun Y => ED Y B (S' d) kx fun y => ∃ k, y = tD k ∧ AllBlk X scope fun Y => ED Y B (S' d) vx fun z => J (i + 1) (putE acc k z))
    (hd : ∀ acc, J l.length acc → Q acc) (hs : ∀ x, foldedSetIterable iter X.env x = pure x := by intro _; rfl) : FT X B S (.DictComp kx vx [⟨tg, iter, [], 0⟩] scope pos) Q := fun σ W H r R k => by
  refine PE.w (pe_dcT (tk := WEb X scope kx) (tv := WEb X scope vx) hc hu hN (pi_list we_pe) ok hg web_pe web_pe hs) ?_
  refine h σ W H r _ fun d v W1 H1 s1 ok1 n1 q1 => ?_
  obtain ⟨rfl, hz, j0⟩ := q1
  cases n1 with
  | @lst _ a xs ha m =>
    refine ⟨a, rfl, ⟨xs, SqL.of (ok1.ex _ _ ha)⟩, fun p hp0 => ?_⟩
    have r1 := r.step s1 ok1
    have hlx := m.length
    refine dct_it walk_list (fun i H' => ∃ acc W', MidT X.K (gOf X) W1 H1 p acc W' H' ∧ acc.length ≤ i ∧ J i acc) ⟨[], W1, ⟨Stp.own hp0, ok1.own hp0, ok1.notP hp0, ok1.free hp0, [], upd_same, .nil⟩, Nat.le_refl _, j0⟩
      (fun i H' _ ⟨acc, W', mm, _⟩ => SqL.of (mm.ok.ex _ _ (mm.st.I _ _ ha))) ?_ ?_
    · rintro i y H' H2 hi ⟨acc, W', mm, hl, j⟩ ⟨rfl, hx⟩
      obtain ⟨d, hd', nd⟩ := m.get hx
      have r2 := r1.step mm.st mm.ok
      refine hp d (List.mem_of_getElem? hd') (gOf X) B σ W' H2 y r2 (nd.mono mm.st.I) _ fun σ2 e2 r3 => ⟨e2, ?_⟩
      show WEb X scope kx σ2 H2 _
      intro s H0 C cl fp
      refine he i d acc hd' j s H0 C cl fp σ2 W' H2 r3 _ fun y W3v W3 H3 s3 ok3 n3 q3 => ?_
      obtain ⟨k1, rfl, q3⟩ := q3
      obtain ⟨bq, rfl, hb⟩ := dn_tupkey ok3 n3
      show WEb X scope vx σ2 H3 _
      intro s' H0' C' cl' fp'
      refine q3 s' H0' C' cl' fp' σ2 W3 H3 (r3.step s3 ok3) _ fun z W4v W4 H4 s4 ok4 n4 q4 => ?_
      have st := s3.trans ok3 s4
      obtain ⟨ws, e1, e3, m4⟩ := (mm.step st ok4).more (k := k1) hp0 n4 (by omega)
      have hb4 : H4 bq = some (.tup (k1.map kV)) := s4.keep _ _ hb fun z => by
        obtain ⟨x1, x2, e, _⟩ := (ok3.pot bq z).2
        rw [hb] at e
        cases e
      exact ⟨ws, k1, bq, rfl, hb4, e1, e3, _, W4, m4, Nat.le_trans (putE_len _ _ _) (by omega), q4⟩
    · rintro H' ⟨acc, W', mm, hl, j⟩
      obtain ⟨ys, hH, ds⟩ := mm.h
      rw [← hlx] at j
      exact k acc p ys W' H' (s1.trans ok1 mm.st) mm.ok (s1.free ok1 hp0) mm.n mm.i hH ds (hd acc j)
end
/-! ### sorted -/
abbrev tI (l : List Int) : D := .tup (l.map D.int)
abbrev ik (l : List Int) : List Key := l.map Sum.inl
theorem tD_ik (l : List Int) : tD (ik l) = tI l := by simp [tD, tI, ik, kD, Function.comp_def]
section
variable {K : PySem.W.Frag} {I : Hp}
theorem dns_perm {ys xs : List V} (p : ys.Perm xs) : ∀ {ls : List (List Int)}, Dns K I (ls.map tI) xs → ∃ ls' : List (List Int), ls'.Perm ls ∧ Dns K I (ls'.map tI) ys := by
  induction p with
  | nil =>
    intro ls h
    exact ⟨ls, .refl _, h⟩
  | cons x _ ih =>
    intro ls h
    match ls, h with
    | l :: ls, .cons h1 h2 =>
      obtain ⟨ls', q, h3⟩ := ih h2
      exact ⟨l :: ls', q.cons l, .cons h1 h3⟩
  | swap x y zs =>
    intro ls h
    match ls, h with
    | a :: b :: ls, .cons h1 (.cons h2 h3) => exact ⟨b :: a :: ls, .swap a b ls, .cons h2 (.cons h1 h3)⟩
  | trans _ _ ih1 ih2 =>
    intro ls h
    obtain ⟨l1, q1, h1⟩ := ih2 h
    obtain ⟨l2, q2, h2⟩ := ih1 h1
    exact ⟨l2, q2.trans q1, h2⟩
theorem dn_tupI {W : Wd} {H : Hp} {g : List Code} (ok : Ok g W H) {l : List Int} {v : V} (n : Dn K W.I (tI l) v) : TupI K H v l := by
  cases n with
  | tup h m =>
    rw [Dns.ints m] at h
    exact ⟨_, rfl, SqT.of (ok.ex _ _ h)⟩
theorem dns_pair {W : Wd} {H : Hp} {g : List Code} (ok : Ok g W H) {R : List Int → List Int → Prop} : ∀ {ls : List (List Int)} {ys : List V}, Dns K W.I (ls.map tI) ys → ys.Pairwise (fun x y => ∀ n m, TupI K H x n → TupI K H y m → R n m) → ls.Pairwise R
  | [], _, _, _ => .nil
  | l :: ls, _, .cons h1 h2, p => by
    rw [List.pairwise_cons] at p
    refine .cons (fun l' hl' => ?_) (dns_pair ok h2 p.2)
    obtain ⟨j, hj, e⟩ := List.getElem_of_mem hl'
    obtain ⟨v, hv, nv⟩ := h2.get' (i := j) (d := tI l') (by rw [List.getElem?_map, List.getElem?_eq_getElem hj, e]; rfl)
    exact p.1 v (List.mem_of_getElem? hv) l l' (dn_tupI ok h1) (dn_tupI ok nv)
end
end DL

set_option Elab.async false
set_option linter.all false
set_option maxRecDepth 100000
set_option maxHeartbeats 4000000
/-! sorted(d), the keys tuples of ints -/
namespace DL
open PySem PySem.Spec PyProof.Rows L2
theorem keyPairs {H : Hp} {P : Program} {w : World} {h : Heap} (ok : HOk P w H h) : ∀ {kvs : List (List Key × V)} {ks : List (List Key × Addr × Value)}, KT H kvs ks → IsKeys H kvs (ks.map fun x => x.2.1)
  | _, _, .nil => .nil
  | _, _, .cons h t => .cons h.2.1 (keyPairs ok t)
theorem accKeys {ks : List (List Key × Addr × Value)} {es : Array DictEntry} {acc : List Value} {P : Program} {w : World} (he : es.toList = ks.map (entryOfKey (tupleKind (mixKind P w)))) (hl : acc.length = ks.length) (hi : ∀ (j : Nat) v, acc[j]? = some v → ∃ en : DictEntry, es[j]? = some en ∧ v = en.key) :
    acc = (ks.map fun x => x.2.1).map Value.ref := by
  apply List.ext_getElem?
  intro j
  rw [List.getElem?_map, List.getElem?_map]
  rcases Nat.lt_or_ge j ks.length with lt | ge
  · have ej : acc[j]? = some (acc[j]'(hl ▸ lt)) := List.getElem?_eq_getElem _
    obtain ⟨en, e1, e2⟩ := hi j _ ej
    have e3 := entry_at he j
    rw [e1, List.getElem?_eq_getElem lt] at e3
    rw [ej, e2, List.getElem?_eq_getElem lt, Option.some.inj e3]
    rfl
  · rw [List.getElem?_eq_none (by omega), List.getElem?_eq_none ge]
    rfl
theorem Itemz {H : Hp} {kvs : List (List Key × V)} {bs : List Addr} (h : IsKeys H kvs bs) (j : Nat) (hj : j < kvs.length) : ∃ b, bs[j]? = some b ∧ H b = some (.tup (kvs[j].1.map kV)) := by
  obtain ⟨b, e, r⟩ := paired_get h (List.getElem?_eq_getElem hj)
  exact ⟨b, e, r⟩
theorem keysD_ik {kvs : List (List Key × D)} {ls : List (List Int)} (h : kvs.map (·.1) = ls.map ik) : keysD kvs = ls.map tI := by
  have : keysD kvs = (kvs.map (·.1)).map tD := by unfold keysD; rw [List.map_map]; rfl
  rw [this, h, List.map_map]
  exact List.map_congr_left fun l _ => tD_ik l
end DL

set_option Elab.async false
set_option linter.all false
set_option maxRecDepth 100000
set_option maxHeartbeats 4000000
/-! dict(l), l a list of pairs (tuple, value) -/
namespace DL
open PySem PySem.Spec PyProof.Rows L2
/-- one pair after another is put -/
def putAll (kvs more : List (List Key × D)) : List (List Key × D) := more.foldl (fun acc p => putE acc p.1 p.2) kvs
def putAllV (kvs more : List (List Key × V)) : List (List Key × V) := more.foldl (fun acc p => putK acc p.1 p.2) kvs
theorem putE_new {kvs : List (List Key × D)} {k : List Key} {d : D} (h : k ∉ kvs.map (·.1)) : putE kvs k d = kvs ++ [(k, d)] := by
  unfold putE
  rw [if_neg]
  intro z
  obtain ⟨p, hp, e⟩ := List.any_eq_true.mp z
  exact h (List.mem_map.mpr ⟨p, hp, of_decide_eq_true e⟩)
abbrev prD (p : List Key × D) : D := .tup [tD p.1, p.2]
section
variable {X : Cx} {B : Hp} {S : En} {pos p : Pos} {e : Expr}
end
end DL

set_option Elab.async false
set_option linter.all false
set_option maxRecDepth 100000
set_option maxHeartbeats 4000000
/-! == inside built-in sequences and dicts, by an own == where there is one: where all is equal -/
namespace DL
open PySem PySem.Spec PyProof.Rows L2
section
variable {prog : Program} {w : World} {A : Around} {E : Value → Shared → Prop}
theorem same_own {nm : String} {a b : Addr} {oa ob : Obj} {es es' : Array DictEntry} {ep ep' : Nat} {R : Bool → Shared → Prop} (na : (a == sysModules) = false) (nb : (b == sysModules) = false) (da : oa.data = .dict es ep) (db : ob.data = .dict es' ep') (hsz : es.size = es'.size) (Z : Nat → Shared → Prop)
    (get : ∀ i t, Z i t → t.heap.get? a = some oa ∧ t.heap.get? b = some ob)
    (turn : ∀ i (h : i < es.size) t, Z i t → ∃ j, ∃ hj : j < es'.size, (∀ Q : Option Nat → Shared → Prop, Q (some j) t → wpAny (model prog w) A (dictFind b es[i].key es[i].hash) Q E t) ∧ wpAny (model prog w) A (eqBool es[i].val es'[j].val) (fun r t' => r = true ∧ Z (i + 1) t') E t)
    (fin : ∀ t, Z es.size t → R true t) {t : Shared} (z : Z 0 t) : wpAny (model prog w) A (Builtin.Dict.samePairs nm a b) R E t := by
  obtain ⟨ga, gb⟩ := get 0 t z
  unfold Builtin.Dict.samePairs Builtin.Dict.showsAll
  rw [if_neg (by rw [na]; exact Bool.false_ne_true), if_neg (by rw [nb]; exact Bool.false_ne_true)]
  refine wpAny_bind (wpAny_pure (wpAny_bind (wpAny_pure (wpAny_bind (wpAny_dictEntries ga da ?_)))))
  dsimp only
  refine wpAny_bind (wpAny_dictEntries gb db ?_)
  rw [if_neg (by rw [hsz]; simp)]
  refine wpAny_bind (wpAny_dictEpoch ga da (wpAny_bind ?_))
  rw [Std.Legacy.Range.forIn_eq_forIn_range']
  simp only [Std.Legacy.Range.size, Nat.sub_zero, Nat.add_sub_cancel, Nat.div_one]
  refine wpAny_forIn_list _ (fun rest q t' => q = (none, ()) ∧ ∃ i, rest = List.range' i (es.size - i) ∧ i ≤ es.size ∧ Z i t') _ ?_ ?_ _ _ ⟨rfl, 0, by simp, Nat.zero_le _, z⟩
  · rintro x rest q t' ⟨rfl, i, er, le, z'⟩
    have lt : i < es.size := Nat.lt_of_not_le fun ge => by
      rw [Nat.sub_eq_zero_of_le ge] at er
      simp at er
    rw [show es.size - i = (es.size - (i + 1)) + 1 by omega, List.range'_succ] at er
    injection er with e1 e2
    subst e1
    obtain ⟨ga, gb⟩ := get x t' z'
    obtain ⟨j, hj, find, eq⟩ := turn x lt t' z'
    refine wpAny_bind (wpAny_dictEntries ga da ?_)
    rw [Array.getElem?_eq_getElem lt]
    show wpAny _ _ (holding [es[x].key, es[x].val] _ >>= _) _ _ _
    refine wpAny_bind (wpAny_holding (wpAny_bind (find _ ?_)))
    refine wpAny_bind (wpAny_dictEntries gb db ?_)
    rw [Array.getElem?_eq_getElem hj]
    refine wpAny_holding (wpAny_mono eq (fun r t2 hr => ?_) fun _ _ h => h)
    obtain ⟨rfl, z2⟩ := hr
    show wpAny _ _ (if (!true) = true then _ else _) _ _ _
    rw [if_neg (by decide)]
    refine wpAny_bind (wpAny_dictEpoch (get _ _ z2).1 da ?_)
    rw [if_neg (by simp)]
    exact wpAny_pure ⟨rfl, x + 1, e2, lt, z2⟩
  · rintro q t' ⟨rfl, i, er, le, z'⟩
    have : i = es.size := Nat.le_antisymm le (Nat.le_of_not_lt fun lt => by
      rw [show es.size - i = (es.size - (i + 1)) + 1 by omega, List.range'_succ] at er
      cases er)
    subst this
    exact wpAny_pure (fin t' z')
end
/-- behind what is compared: later worlds -/
def Later (X : Cx) (pins : List (Addr × Obj)) (τ : L2.St) (W : Wd) (H : Hp) (t : Shared) : Prop := ∃ W' H', Inv X pins τ H' t ∧ Stp W H W' H' ∧ Ok (gOf X) W' H'
def EqR (X : Cx) (n : Nat) (x y : D) : Prop := ∀ (A : Around) (pins : List (Addr × Obj)) (t : Shared) (τ : L2.St) (W : Wd) (H : Hp) (v u : V) (v' u' : Value), L2.Sub X n A → A.guards = some (gOf X) → Inv X pins τ H t → Ok (gOf X) W H → Dn X.K W.I x v → Dn X.K W.I y u → RelV v v' → RelV u u' →
  wpAny (model X.prog X.w) A (eqBool v' u') (fun r t' => r = true ∧ Later X pins τ W H t') X.xe t
def RcR (X : Cx) (n : Nat) (x y : D) : Prop := ∀ (A : Around) (pins : List (Addr × Obj)) (t : Shared) (τ : L2.St) (W : Wd) (H : Hp) (v u : V) (v' u' : Value), L2.Sub X n A → A.guards = some (gOf X) → Inv X pins τ H t → Ok (gOf X) W H → Dn X.K W.I x v → Dn X.K W.I y u → RelV v v' → RelV u u' →
  wpAny (model X.prog X.w) A (richCompare .Eq v' u') (fun r t' => r = .bool true ∧ Later X pins τ W H t') X.xe t
section
variable {X : Cx} {n m : Nat} {x y : D}
def refD : D → Bool
  | .tup _ | .lst _ | .obj _ _ | .dcT _ => true
  | _ => false
theorem Dn.ref {K : PySem.W.Frag} {I : Hp} {v : V} (h : refD x = true) (d : Dn K I x v) : ∃ a, v = .ref a := by
  cases d <;> first | exact ⟨_, rfl⟩ | cases h
theorem RcR.eq (h : RcR X n x y) (hx : refD x = true) (hy : refD y = true) : EqR X n x y := fun A pins t τ W H v u v' u' sb hG J ok dx dy rv ru => by
  obtain ⟨a, rfl⟩ := dx.ref hx
  obtain ⟨b, rfl⟩ := dy.ref hy
  cases rv
  cases ru
  by_cases e : a = b
  · subst e
    exact SeqAt.EqAt.same (A := A) (s := t) (.ref a) X.prog X.w X.xe _ ⟨rfl, W, H, J, Stp.refl, ok⟩
  · exact GQ.eqBool_refG e (wpAny_mono (h A pins t τ W H (.ref a) (.ref b) _ _ sb hG J ok dx dy rfl rfl) (fun r t' ⟨er, l⟩ => ⟨true, er, rfl, l⟩) fun _ _ q => q)
/-- instances, by their own == -/
theorem rcR_ins {C : Addr} {k : Nat} {sp : SpD} {fs gs : List (Str × D)} (N : Num X.K C) (F : Sm X.prog X.w X.K X.mg X.base C "__eq__" k sp) (q : sp [.val (.obj C fs), .val (.obj C gs)] fun d => d = .bl true) : RcR X k (.obj C fs) (.obj C gs) := fun A pins t τ W H v u v' u' sb hG J ok dx dy rv ru => by
  have aa := args2 dx dy
  have rr := vals2 rv ru
  cases id dx with
  | obj a1 _ => cases id dy with
    | obj a2 _ =>
      cases rv
      cases ru
      obtain ⟨ox, od, I1⟩ := inst_at J (ok.ex _ _ a1)
      obtain ⟨oy, oe, I2⟩ := inst_at J (ok.ex _ _ a2)
      obtain ⟨f, fd, ps, F, hf, hi, hb⟩ := F.ex
      obtain ⟨mm, hF⟩ := J.fr
      have e0 : Env0 X.prog X.w X.K X.mg X.base A X.stack t H := by
        have e := J.env0
        exact ⟨by rw [sb.fr]; exact e.frames, e.mod, e.bs, e.bsz, e.funs, e.frf, e.hok, e.bare⟩
      refine PySem.W.cmp_K (op := .Eq) (tb := .ref C) sb.room.units0 hF J.ok.mod.kin I1 I2.type N.nf hf hi ?_
      refine wpAny_call (run_gn (A := A) F sb.room hG e0 hb .nil J rr (Q := fun v H' => v = .bl true ∧ ∃ W', Stp W H W' H' ∧ Ok (gOf X) W' H') ?_ fun v t' hv => ?_)
      · rw [List.append_nil]
        exact ⟨_, W, _, ok, aa, q, fun d v W' H' st ok' dn e => by subst e; cases dn; exact ⟨rfl, W', st, ok'⟩⟩
      · obtain ⟨z, H', J', rz, rfl, W', st, ok'⟩ := hv
        cases rz
        exact ⟨rfl, W', H', J', st, ok'⟩
theorem rcR_dct {kvs kvs' : List (List Key × D)} (hl : kvs.length = kvs'.length) (h : ∀ k d, (k, d) ∈ kvs → ∃ e, look kvs' k = some e ∧ EqR X n d e) : RcR X (n + 1) (.dcT kvs) (.dcT kvs') := fun A pins t τ W H v u v' u' sb hG J ok dx dy rv ru => by
  cases dx with
  | @dcT _ a oa ws ha d1 => cases dy with
    | @dcT _ b ob us hb d2 =>
      cases rv
      cases ru
      obtain ⟨ga, z1, n1, rows, pr, o1, es, ep, g1, x1, da, he, nd⟩ := (show ObjOk X.prog X.w H t.heap a (.frz oa (.dT ws)) from J.hok a _ (ok.ex _ _ ha))
      rw [ga] at g1
      cases g1
      obtain ⟨gb, z2, n2, rows2, pr2, o2, es', ep', g2, x2, db, he2, nd2⟩ := (show ObjOk X.prog X.w H t.heap b (.frz ob (.dT us)) from J.hok b _ (ok.ex _ _ hb))
      rw [gb] at g2
      cases g2
      have l1 : es.size = rows.length := size_of_entries he
      have l2 : es'.size = rows2.length := size_of_entries he2
      have l3 : ws.length = rows.length := Paired.length pr
      have l4 : us.length = rows2.length := Paired.length pr2
      have l5 := d1.length
      have l6 := d2.length
      have ta : ∀ s : Shared, s.heap.get? a = some oa → s.TypeIs (.ref a) "dict" := fun s g => ⟨oa, g, x1.1⟩
      have tb : ∀ s : Shared, s.heap.get? b = some ob → s.TypeIs (.ref b) "dict" := fun s g => ⟨ob, g, x2.1⟩
      have get : ∀ (i : Nat) t', Later X pins τ W H t' → t'.heap.get? a = some oa ∧ t'.heap.get? b = some ob := by
        rintro i t' ⟨W', H', J', st, ok'⟩
        exact ⟨(J'.hok a _ (ok'.ex _ _ (st.I _ _ ha))).1, (J'.hok b _ (ok'.ex _ _ (st.I _ _ hb))).1⟩
      have turn : ∀ i (h : i < es.size) t', Later X pins τ W H t' → ∃ j, ∃ hj : j < es'.size, (∀ Q : Option Nat → Shared → Prop, Q (some j) t' → wpAny (model X.prog X.w) A.in1 (dictFind b es[i].key es[i].hash) Q X.xe t') ∧ wpAny (model X.prog X.w) A.in1 (eqBool es[i].val es'[j].val) (fun r t2 => r = true ∧ Later X pins τ W H t2) X.xe t' := by
        rintro i lt t' ⟨W', H', J', st, ok'⟩
        obtain ⟨ga', _, _, rows3, pr3, o3, es3, ep3, g3, _, da3, he3, _⟩ := (show ObjOk X.prog X.w H' t'.heap a (.frz oa (.dT ws)) from J'.hok a _ (ok'.ex _ _ (st.I _ _ ha)))
        rw [ga'] at g3
        cases g3
        rw [da] at da3
        cases da3
        obtain ⟨_, _, rows4, pr4, o4, es4, ep4, g4, _, db4, he4, his4, nd4⟩ := dt_rd J'.hok (show Rd H' b (.dT us) from .inr ⟨ob, ok'.ex _ _ (st.I _ _ hb)⟩)
        have gb' := (J'.hok b _ (ok'.ex _ _ (st.I _ _ hb))).1
        rw [gb'] at g4
        cases g4
        rw [db] at db4
        cases db4
        have hi : i < ws.length := by omega
        obtain ⟨⟨k, w1⟩, hw⟩ : ∃ p, ws[i]? = some p := ⟨_, List.getElem?_eq_getElem hi⟩
        obtain ⟨d, hd, nd1⟩ := d1.get hw
        obtain ⟨e, he', hEq⟩ := h k d (List.mem_of_getElem? hd)
        obtain ⟨⟨k1, b1, v1⟩, hr3, e1, e2, e3⟩ := paired_get pr3 hw
        simp only at e1 e2 e3
        subst e1
        have en := entry_at he3 i
        rw [hr3, Array.getElem?_eq_getElem lt] at en
        have en' : es[i] = ⟨tupleKeyHash (mixKind X.prog X.w) k, .ref b1, v1⟩ := Option.some.inj en
        obtain ⟨w2, hw2, nd2'⟩ := (dnt_look d2).1 e he'
        obtain ⟨p4, hp4, rp4⟩ := RelO.some_of (v := w2) (o := (atKey rows4 k).map (·.2)) (by rw [← hw2]; exact KT.val pr4 k)
        obtain ⟨q4, hq4, eq4⟩ := Option.map_eq_some_iff.mp hp4
        obtain ⟨j, hj4⟩ : ∃ j, rows4[j]? = some (k, q4) := by
          unfold atKey at hq4
          obtain ⟨x, hx, ex⟩ := Option.map_eq_some_iff.mp hq4
          have hm := List.mem_of_find?_eq_some hx
          have hk := List.find?_some hx
          obtain ⟨j, hj⟩ := List.mem_iff_getElem?.mp hm
          exact ⟨j, by rw [hj, ← ex, ← of_decide_eq_true hk]⟩
        have hjl : j < es'.size := by
          rw [size_of_entries he4]
          exact (List.getElem?_eq_some_iff.mp hj4).1
        have en4 := entry_at he4 j
        rw [hj4, Array.getElem?_eq_getElem hjl] at en4
        have en4' : es'[j].val = q4.2 := by rw [Option.some.inj en4]; rfl
        refine ⟨j, hjl, fun Q hQ => ?_, ?_⟩
        · rw [en']
          refine wpAny_dictFind_heap (knd := tupleKind (mixKind X.prog X.w)) (k := k) (show A.in1.units < cLine from sb.room.in1.units0) (key_of J'.hok e2) gb' db he4 his4 nd4 (fun hno => absurd hj4 (hno j q4)) fun j' p' hj' => ?_
          have : j' = j := idxH_unique nd4 hj' hj4
          rw [this]
          exact hQ
        · rw [en', en4']
          show wpAny _ _ (eqBool v1 q4.2) _ _ _
          rw [eq4]
          exact wpAny_mono (hEq A.in1 pins t' τ W' H' w1 w2 v1 p4 sb.in1 hG J' ok' (nd1.mono st.I) (nd2'.mono st.I) e3 rp4) (fun r t2 ⟨er, W2, H2, J2, st2, ok2⟩ => ⟨er, W2, H2, J2, st.trans ok' st2, ok2⟩) fun _ _ q => q
      refine wpAny_richCompare_same_room (op := .Eq) (ta t ga) (tb t gb) PySem.F.slot_dict_eq (wpAny_call_entry PySem.F.slot_dict_eq (ta t ga) PySem.F.entry_dict_eq ?_ (PySem.F.args_dict_eq_2 _ _)) sb.room.units0
      show wpAny _ _ (Builtin.Dict.dictSlotArgs "__eq__" ⟨[.ref a, .ref b], []⟩ >>= _) _ _ t
      refine wpAny_bind ?_
      unfold Builtin.Dict.dictSlotArgs
      refine wpAny_bind (wpAny_notOrdered_dict (ta t ga) ?_)
      show wpAny _ _ (pure (Value.ref a, Value.ref b)) _ _ t
      refine wpAny_pure (wpAny_bind (wpAny_isInstance (T := "dict") (tb t gb) PySem.F.sub_dict_dict ?_))
      simp only [Bool.not_true, Bool.false_eq_true, if_false]
      refine wpAny_bind (wpAny_pure (wpAny_bind (wpAny_pure ?_)))
      refine wpAny_bind (wpAny_mono (same_own (R := fun r t' => r = true ∧ Later X pins τ W H t') n1 n2 da db (by omega) (fun _ t' => Later X pins τ W H t') get turn (fun t' l => ⟨rfl, l⟩) ⟨W, H, J, Stp.refl, ok⟩) (fun r t' hr => ?_) fun _ _ q => q)
      obtain ⟨rfl, l⟩ := hr
      exact wpAny_pure ⟨_, rfl, (fun x => nomatch x), rfl, l⟩
end
section
variable {X : Cx} {n : Nat} {x y : D} {Q : D → Prop}
theorem od_eqR (h : RcR X n x y) (hr : Room n X.A) (hG : X.A.guards = some (gOf X)) (q : Q (.bl true)) : OD X (compareOp .Eq) x y Q := fun v u W H ok h1 h2 R c pins t τ v' u' J r1 r2 => by
  show wpAny _ _ (richCompare .Eq _ _) _ _ _
  refine wpAny_mono (h X.A pins t τ W H v u v' u' ⟨hr, rfl⟩ hG J ok h1 h2 r1 r2) (fun r t' ⟨er, W', H', J', st, ok'⟩ => ?_) fun _ _ q => q
  subst er
  exact ⟨.bl true, H', J', rfl, c _ _ W' H' st ok' (.bl true) q⟩
end
end DL

set_option Elab.async false
set_option linter.all false
set_option maxRecDepth 100000
set_option maxHeartbeats 4000000
/-! != of lists that are equal -/
namespace NQ
open PySem PySem.SeqAt
open AutoSeq1 (wpAny_loadPart')
open MeetsSeq MeetsSeq2 MeetsSeq3 SeqRoads2
section
variable {prog : Program} {w : World} {A : Around} {R : Result → Shared → Prop}
end
end NQ
namespace DL
open PySem PySem.Spec PyProof.Rows L2
section
variable {X : Cx} {n : Nat} {Q : D → Prop}
end
end DL

set_option Elab.async false
set_option linter.all false
set_option maxRecDepth 100000
set_option maxHeartbeats 4000000
/-! zip of two texts -/
namespace TZ
open PySem PySem.Spec PyProof.Rows
abbrev tio (x : Str) (t : Tok) : Obj := { cls := .type "str_ascii_iterator", data := .fields #[.str x t, .int 0 0] }
abbrev m1 (h : Heap) (x : Str) (t : Tok) : Heap := h.push (tio x t)
abbrev m2 (h : Heap) (x y : Str) (t u : Tok) : Heap := (m1 h x t).push (tio y u)
abbrev m3 (h : Heap) (x y : Str) (t u : Tok) : Heap := (m2 h x y t u).push { cls := .type "tuple", data := .seq #[.ref h.objs.size, .ref (m1 h x t).objs.size] }
abbrev m4 (h : Heap) (x y : Str) (t u : Tok) : Heap := (m3 h x y t u).push { cls := .type "tuple", data := .seq #[.none, .none] }
abbrev m5 (h : Heap) (x y : Str) (t u : Tok) : Heap := (m4 h x y t u).push { cls := .type "zip", data := .fields #[.none, .bool false, .bool false, .ref (m2 h x y t u).objs.size, .ref (m3 h x y t u).objs.size] }
theorem new_ss (x y : Str) (t u : Tok) (hx : x.cps.all (· < 128) = true) (hy : y.cps.all (· < 128) = true) : Meets (Builtin.«zip.__new__» ⟨[.type "zip", .str x t, .str y u], []⟩) (fun _ R s => R (.ok (.ret (.ref (m4 s.heap x y t u).objs.size))) { s with heap := m5 s.heap x y t u }) :=
  .of_wp fun prog w A R s h => by
    obtain ⟨hp, g, d, tk, os⟩ := s
    have hsub := sub_zip
    wp_walk using wpAny_pyIter_ascii hx, wpAny_pyIter_ascii hy
    exact ⟨_, rfl, h⟩
section
variable {p : Program} {w : World} {A : Around} {E : Value → Shared → Prop} {s : Shared}
/-- how the zip stands ahead of turn i -/
structure St2 (x y : Str) (t u : Tok) (z TI TO i1 i2 : Addr) (i : Nat) (h : Heap) : Prop where
  z : IsZip h z TI TO .none
  ti : IsTupOf2 h TI (.ref i1) (.ref i2)
  to : ∃ a b, IsTupOf2 h TO a b
  f : h.IsStrIter i1 "str_ascii_iterator" x t i
  g : h.IsStrIter i2 "str_ascii_iterator" y u i
theorem zip_ss {x y : Str} {t u : Tok} (hx : x.cps.all (· < 128) = true) (hy : y.cps.all (· < 128) = true) {Q : Value → Shared → Prop}
    (h : ∀ h', St2 x y t u (s.heap.objs.size + 4) (s.heap.objs.size + 2) (s.heap.objs.size + 3) s.heap.objs.size (s.heap.objs.size + 1) 0 h' → (∀ c o, s.heap.get? c = some o → h'.get? c = some o) → Q (.ref (s.heap.objs.size + 4)) { s with heap := h' }) :
    wpAny (model p w) A (call (.type "zip") [.str x t, .str y u]) Q E s := by
  refine callType_new F.called_zip (by decide) (F.typeCall_zip_2 _ _) (F.newCall_zip_2 _ _) (fun obj => F.args_object_init_3 obj _ _) F.entry_zip_new (new_ss x y t u hx hy) ?_
  have c1 : (m1 s.heap x t).objs.size = s.heap.objs.size + 1 := Heap.size_push ..
  have c2 : (m2 s.heap x y t u).objs.size = s.heap.objs.size + 2 := by rw [Heap.size_push, c1]
  have c3 : (m3 s.heap x y t u).objs.size = s.heap.objs.size + 3 := by rw [Heap.size_push, c2]
  have c4 : (m4 s.heap x y t u).objs.size = s.heap.objs.size + 4 := by rw [Heap.size_push, c3]
  have d5 : (m5 s.heap x y t u).get? (m4 s.heap x y t u).objs.size = some _ := Heap.get?_push_size _ rfl
  have d4 : (m5 s.heap x y t u).get? (m3 s.heap x y t u).objs.size = some _ := Heap.get?_push_of_some _ (Heap.get?_push_size _ rfl)
  have d3 : (m5 s.heap x y t u).get? (m2 s.heap x y t u).objs.size = some _ := Heap.get?_push_of_some _ (Heap.get?_push_of_some _ (Heap.get?_push_size _ rfl))
  have d2 : (m5 s.heap x y t u).get? (m1 s.heap x t).objs.size = some _ := Heap.get?_push_of_some _ (Heap.get?_push_of_some _ (Heap.get?_push_of_some _ (Heap.get?_push_size _ rfl)))
  have d1 : (m5 s.heap x y t u).get? s.heap.objs.size = some _ := Heap.get?_push_of_some _ (Heap.get?_push_of_some _ (Heap.get?_push_of_some _ (Heap.get?_push_of_some _ (Heap.get?_push_size _ rfl))))
  show _ ∧ _
  rw [c2, c3, c4] at d5
  rw [c1, c2] at d3
  rw [c3] at d4
  rw [c1] at d2
  rw [c4]
  exact ⟨⟨_, d5, rfl⟩, h _ ⟨d5, d3, ⟨_, _, d4⟩, ⟨_, d1, rfl, rfl⟩, ⟨_, d2, rfl, rfl⟩⟩ fun c o e => Heap.get?_push_of_some _ (Heap.get?_push_of_some _ (Heap.get?_push_of_some _ (Heap.get?_push_of_some _ (Heap.get?_push_of_some _ e))))⟩
end
end TZ
namespace DL
open PySem PySem.Spec PyProof.Rows L2 TZ
/-- the signs of both, two by two -/
def Itss (x y : Str) : It := ⟨fun i _ => i < x.cps.size ∧ i < y.cps.size, fun i H v H' => ∃ T c d, x.cps[i]? = some c ∧ y.cps[i]? = some d ∧ v = .ref T ∧ H T = none ∧ H' = upd H T (.tup [.str ⟨#[c]⟩, .str ⟨#[d]⟩]),
  fun i _ => i ≤ x.cps.size ∧ i ≤ y.cps.size ∧ (i = x.cps.size ∨ i = y.cps.size)⟩
theorem turn_ss {P : Program} {w : World} {K : PySem.W.Frag} {elts : List Expr} {kk : Nat} {tpos : Pos} {x y : Str} {t u : Tok} {z TI TO i1 i2 : Addr} (D : ZipSep2 z TI TO i1 i2 [i1] [i2]) : Turn P w K (.Tuple elts kk tpos) (Itss x y) [z, TI, TO, i1, i2] z (St2 x y t u z TI TO i1 i2) where
  mem := by simp
  obj := fun i h st c hc => by
    obtain ⟨a, b, hTO⟩ := st.to
    have e : c = z ∨ c = TI ∨ c = TO ∨ c = i1 ∨ c = i2 := by simpa using hc
    rcases e with q | q | q | q | q <;> subst q
    · exact ⟨_, st.z, fun v q => nomatch q⟩
    · exact ⟨_, st.ti, fun v q => nomatch q⟩
    · exact ⟨_, hTO, fun v q => nomatch q⟩
    · obtain ⟨o, e, _, d⟩ := st.f
      exact ⟨o, e, fun v q => by rw [d] at q; cases q⟩
    · obtain ⟨o, e, _, d⟩ := st.g
      exact ⟨o, e, fun v q => by rw [d] at q; cases q⟩
  keep := fun i h h' st k => by
    obtain ⟨a, b, hTO⟩ := st.to
    obtain ⟨o1, e1, r1⟩ := st.f
    obtain ⟨o2, e2, r2⟩ := st.g
    exact ⟨k z (by simp) _ st.z, k TI (by simp) _ st.ti, ⟨a, b, k TO (by simp) _ hTO⟩, ⟨o1, k i1 (by simp) _ e1, r1⟩, ⟨o2, k i2 (by simp) _ e2, r2⟩⟩
  item := by
    intro X hP hw hK hc i pins s σ H E J hf st hg
    subst hP hw hK
    obtain ⟨a, b, hTO⟩ := st.to
    have zlt : z < s.heap.objs.size := Heap.lt_size st.z
    have hd : X.A.in1.handled = none := J.ok.hd hc
    refine wpAny_pyNext_zipD2_item D (Draws.strAscii hd i1 x t) (Draws.strAscii hd i2 y u) st.z st.ti hTO st.f st.g hg.1 hg.2 fun v1 v2 h' tk y1 y2 z' t' f' g' T' size' keep => ?_
    obtain ⟨c1, u1, hc1, rfl⟩ := y1
    obtain ⟨c2, u2, hc2, rfl⟩ := y2
    refine ⟨_, rfl, wpAny_letOwnedTupleGo_zip (s := { s with heap := h', toks := tk }) z' fun h'' z'' sb => ?_⟩
    have T2 : h''.get? s.heap.objs.size = some { cls := .type "tuple", data := .seq #[.str ⟨#[c1]⟩ u1, .str ⟨#[c2]⟩ u2] } := (sb.2 _ (Nat.ne_of_gt zlt)).trans T'
    have new : ObjOk X.prog X.w (upd H s.heap.objs.size (.tup [.str ⟨#[c1]⟩, .str ⟨#[c2]⟩])) h'' s.heap.objs.size (.tup [.str ⟨#[c1]⟩, .str ⟨#[c2]⟩]) := ⟨by show 2 ≤ sizeLine; decide, [_, _], .cons ⟨u1, rfl⟩ (.cons ⟨u2, rfl⟩ .nil), ⟨_, T2, rfl, _, rfl⟩⟩
    have far : ∀ c, c ∉ [z, TI, TO, i1, i2] → c ≠ z ∧ c ≠ TO ∧ c ≠ i1 ∧ c ≠ i2 := fun c hb => ⟨fun q => hb (by simp [q]), fun q => hb (by simp [q]), fun q => hb (by simp [q]), fun q => hb (by simp [q])⟩
    have J1 : Inv X pins σ (upd H s.heap.objs.size (.tup [.str ⟨#[c1]⟩, .str ⟨#[c2]⟩])) { s with heap := h'', toks := tk } :=
      J.turnedNew (t' := tk) (ch := [z, TI, TO, i1, i2]) (fun c o hb q => let ⟨q1, q2, q3, q4⟩ := far c hb; (sb.2 c q1).trans (keep c o q1 q2 q3 q4 q)) hf (Nat.le_refl _) new
    have s1 : ∀ k, k ≠ z → ∀ o, h'.get? k = some o → h''.get? k = some o := fun k n o e => (sb.2 _ n).trans e
    refine ⟨.ref s.heap.objs.size, _, J1, rfl, ⟨_, c1, c2, hc1, hc2, rfl, J.hok.fresh (Nat.le_refl _), rfl⟩, ⟨z'', s1 _ D.TIz _ (keep _ _ D.TIz D.TITO D.TIi1 D.TIi2 st.ti), ⟨_, _, s1 _ D.TOz _ t'⟩, ?_, ?_⟩, fun c hcm => ?_⟩
    · obtain ⟨o1, e1, r1⟩ := f'
      exact ⟨o1, s1 _ D.zi1.symm _ e1, r1⟩
    · obtain ⟨o1, e1, r1⟩ := g'
      exact ⟨o1, s1 _ D.zi2.symm _ e1, r1⟩
    · have lt : c < s.heap.objs.size := by
        have e' : c = z ∨ c = TI ∨ c = TO ∨ c = i1 ∨ c = i2 := by simpa using hcm
        rcases e' with q | q | q | q | q <;> rw [q]
        · exact zlt
        · exact Heap.lt_size st.ti
        · exact Heap.lt_size hTO
        · exact Heap.lt_size st.f.choose_spec.1
        · exact Heap.lt_size st.g.choose_spec.1
      rw [upd_ne (Nat.ne_of_lt lt)]
      exact (hf c hcm).1
  done := by
    intro X hP hw hK hc i pins s σ H E J hf st hg
    subst hP hw hK
    obtain ⟨a, b, hTO⟩ := st.to
    have hd : X.A.in1.handled = none := J.ok.hd hc
    exact wpAny_pyNext_zipD2_end D (Draws.strAscii hd i1 x t) (Draws.strAscii hd i2 y u) st.z st.ti hTO st.f st.g hg.1 hg.2.1 hg.2.2 fun h' tk keep =>
      ⟨rfl, J.turnedL (t' := tk) (ch := [z, TI, TO, i1, i2]) (fun c o hb q => keep c o (fun q' => hb (by simp [q'])) (fun q' => hb (by simp [q'])) (fun q' => hb (by simp [q'])) (fun q' => hb (by simp [q'])) q) hf⟩
  self := fun A i s Q E st h => wpAny_pyIter_zip st.z h
theorem sep_ss (n : Nat) : ZipSep2 (n + 4) (n + 2) (n + 3) n (n + 1) [n] [n + 1] := by
  constructor <;> simp
def iZss (ta : TA) : TI := fun σ H R => ta σ H fun vs H1 => ∃ x y, vs = [.str x, .str y] ∧ x.cps.all (· < 128) = true ∧ y.cps.all (· < 128) = true ∧ R (Itss x y) H1
theorem pi_ss {X : Cx} {e e2 : Expr} {ta : TA} {p pos tpos : Pos} {elts : List Expr} {kk : Nat} (hg : Gl X "zip") (hm : X.mg "zip" = none) (ha : PA X [e, e2] ta)
    (hs : starEach [e, e2] X.env = (false, eval e X.env) :: starEach [e2] X.env) (hpl : (backTo pos (starEach [e2] X.env)).any (·.1) = false) : PI X (.Tuple elts kk tpos) (.Call (.Name "zip" p) [e, e2] [] pos) (iZss ta) := by
  refine ⟨fun pins s σ H R J h => Call_ (ld_blt J hg hm PyProof.Rows.boot_zip (PyProof.Rows.callWith_type1 (thn (ha.run pos pins s σ H _ J h) fun us s1 ⟨vs, H1, J1, rv, q1⟩ => ?_) hs hpl))⟩
  obtain ⟨x, y, rfl, hx, hy, q⟩ := q1
  obtain ⟨v1, v2, rfl, r1, r2⟩ := (show ∃ v1 v2, us = [v1, v2] ∧ RelV (.str x) v1 ∧ RelV (.str y) v2 from by
    cases rv with
    | cons r rr => cases rr with
      | cons r' rr => cases rr; exact ⟨_, _, rfl, r, r'⟩)
  obtain ⟨t, rfl⟩ := r1
  obtain ⟨u, rfl⟩ := r2
  refine zip_ss hx hy fun h' st hk => wpAny_pyIter_zip st.z ?_
  have J2 : Inv X pins σ H1 { s1 with heap := h' } := J1.kept (t' := s1.toks) hk
  refine ⟨s1.heap.objs.size + 4, [s1.heap.objs.size + 4, s1.heap.objs.size + 2, s1.heap.objs.size + 3, s1.heap.objs.size, s1.heap.objs.size + 1], _, _, H1, rfl, J2, turn_ss (sep_ss _), st, fun c hc => ?_, q⟩
  have le : s1.heap.objs.size ≤ c := by
    have e : c = s1.heap.objs.size + 4 ∨ c = s1.heap.objs.size + 2 ∨ c = s1.heap.objs.size + 3 ∨ c = s1.heap.objs.size ∨ c = s1.heap.objs.size + 1 := by simpa using hc
    rcases e with q | q | q | q | q <;> rw [q]
    · exact Nat.le_add_right _ _
    · exact Nat.le_add_right _ _
    · exact Nat.le_add_right _ _
    · exact Nat.le_refl _
    · exact Nat.le_add_right _ _
  exact J1.fpOk le (J1.hok.fresh le)
end DL

set_option Elab.async false
set_option linter.all false
set_option maxRecDepth 100000
set_option maxHeartbeats 4000000
/-! texts, sign by sign -/
namespace DL
open PySem PySem.Spec PyProof.Rows L2
abbrev sg (c : Nat) : Str := ⟨#[c]⟩
def signs (s : Str) : List D := s.cps.toList.map fun c => .str (sg c)
section
variable {X : Cx} {B : Hp} {W0 : Wd} {S : En} {pos px p1 p apos cpos : Pos} {Q : D → Prop} {QB : Bool → Prop} {a b c e e2 o elt iter : Expr} {es : List Expr} {E : Ends'} {x : Str} {s : Str}
theorem od_ltS {i j : Str} (q : Q (.bl (decide (i.cps.toList < j.cps.toList)))) : OD X (compareOp .Lt) (.str i) (.str j) Q := od_of op_lt_str fun v u W H ok h1 h2 R c => by
  cases h1; cases h2
  exact ⟨i, j, rfl, rfl, c.now ok (.bl _) q⟩
theorem od_leS {i j : Str} (q : Q (.bl (!decide (j.cps.toList < i.cps.toList)))) : OD X (compareOp .LtE) (.str i) (.str j) Q := od_of op_le_str fun v u W H ok h1 h2 R c => by
  cases h1; cases h2
  exact ⟨i, j, rfl, rfl, c.now ok (.bl _) q⟩
theorem od_inS {c : Nat} {z : Str} (q : Q (.bl (decide (c ∈ z.cps.toList)))) : OD X (compareOp .In) (.str (sg c)) (.str z) Q := od_of op_in_sign fun v u W H ok h1 h2 R k => by
  cases h1; cases h2
  exact ⟨c, z, rfl, rfl, k.now ok (.bl _) q⟩
theorem cd_lenS {z : Str} (hz : z.length ≤ 50000) (q : Q (.int (z.length : Int))) : CD X (.builtin "len") [.val (.str z)] Q := cd_of call_len fun vs W H ok ha R c => by
  obtain ⟨v, rfl, m⟩ := one_arg ha
  cases m
  exact ⟨.str z, z.length, rfl, ⟨Nat.le_trans hz (by decide), rfl⟩, c.now ok (.int _) q⟩
/-- s[i] -/
theorem ed_ixS (h : ED X B S a fun x => ED X B S b fun y => ∃ (z : Str) (i c : Nat), x = .str z ∧ y = .int (i : Int) ∧ i < 1000 ∧ z.cps[i]? = some c ∧ Q (.str (sg c))) (hs : PlainIxT b := by exact fun _ _ => rfl) : ED X B S (.Subscript a b pos) Q := fun σ W H r R k => by
  refine PE.w (pe_item_str we_pe we_pe hs) ?_
  refine h σ W H r _ fun d v W1 H1 s1 ok1 n1 q1 => ?_
  refine q1 σ W1 H1 (r.step s1 ok1) _ fun d2 u W2 H2 s2 ok2 n2 q2 => ?_
  obtain ⟨z, i, c, rfl, rfl, hi, hz, q⟩ := q2
  cases n1
  cases n2
  have lt : i < z.cps.size := (Array.getElem?_eq_some_iff.mp hz).1
  exact ⟨z, i, c, rfl, rfl, by omega, by omega, by show (i : Int) < (z.cps.size : Int); omega, by simpa using hz, ((k.step s1 ok1).step s2 ok2).now ok2 (.str _) q⟩
end
end DL

set_option Elab.async false
set_option linter.all false
set_option maxRecDepth 100000
set_option maxHeartbeats 4000000
/-! sum, min of tuples; factorial, perm; the signs of a text as a list, sorted -/
namespace DL
open PySem PySem.Spec PyProof.Rows L2
section
variable {prog : Program} {w : World} {A : Around} {E : Value → Shared → Prop} {s : Shared} {l : Addr}
theorem past {h' : Heap} {o : Obj} (hk : ∀ b u, b ∉ [s.heap.objs.size] → (s.heap.push o).get? b = some u → h'.get? b = some u) (b : Addr) (u : Obj) (e : s.heap.get? b = some u) : h'.get? b = some u :=
  hk b u (fun hm => Nat.lt_irrefl _ (by have := Heap.lt_size e; rw [List.mem_singleton.mp hm] at this; exact this)) (Heap.get?_push_of_some _ e)
theorem sum_tup {its : List Value} {ns : List Int} {Q : Value → Shared → Prop} (hh : A.handled = none) (hl : s.heap.IsTuple l its.toArray) (hi : IntsAre its ns) (k : ∀ h' tk t', (∀ b o, s.heap.get? b = some o → h'.get? b = some o) → Q (.int ns.sum t') { s with heap := h', toks := tk }) :
    wpAny (model prog w) A (call (.builtin "sum") [.ref l]) Q E s := by
  obtain ⟨xs, e⟩ := hi.allInts.items
  have en : numsOf (intItems xs).toList = ns := by rw [← e]; exact hi.numsOf
  rw [nums_intItems] at en
  rw [e] at hl
  have lt : l < s.heap.objs.size := by obtain ⟨_, g, _⟩ := hl; exact Heap.lt_size g
  refine call_sum_walkG (wpAny_pyIter_tuple hl ?_)
  refine ⟨_, _, _, _, _, _, numAt xs, rfl, Walks.tuple (A := A.in1) hh s.heap.objs.size l (Nat.ne_of_lt lt) (intItems xs), ⟨⟨_, Heap.get?_push_size _ rfl, rfl, rfl⟩, hl.push _⟩, fun b hb => ?_, (fun _ _ => intItems_at), fun h' tk t' hk => ?_⟩
  · show b < (s.heap.push _).objs.size
    rw [Heap.size_push]
    rcases List.mem_cons.mp hb with z | hb
    · rw [z]; exact Nat.lt_succ_self _
    · rw [List.mem_singleton.mp hb]; exact Nat.lt_succ_of_lt lt
  · have := k h' tk t' fun b u e => past hk b u e
    rw [preSum_eq, List.take_of_length_le (by simp [intItems]), en]
    exact this
end
section
variable {X : Cx} {Q : D → Prop}
theorem cr_sumT (hc : X.calm = true) : CallR X (.builtin "sum") (fun vs H Q => ∃ (a : Addr) (ns : List Int), vs = [V.ref a] ∧ SqT X.K H a (ns.map V.int) ∧ Q (.int ns.sum) H) := by
  intro pins t τ H vs us Q J r q
  obtain ⟨a, ns, rfl, hs, q⟩ := q
  obtain ⟨its, rv, hl, _⟩ := J.tuple hs
  rw [Vals.ref1 r]
  exact sum_tup (J.ok.hd hc) hl rv.ints fun h' tk t' keep => ⟨.int _, H, J.kept keep, ⟨_, rfl⟩, q⟩
theorem cd_sumT {l : List Int} (hc : X.calm = true) (q : Q (.int l.sum)) : CD X (.builtin "sum") [.val (tI l)] Q := cd_of (cr_sumT hc) fun vs W H ok ha R c => by
  obtain ⟨v, rfl, m⟩ := one_arg ha
  cases m with
  | @tup _ a xs hp m =>
    rw [Dns.ints m] at hp
    exact ⟨a, l, rfl, SqT.of (ok.ex _ _ hp), c.now ok (.int _) q⟩
theorem cd_sumL {l : List Int} (hc : X.calm = true) (q : Q (.int l.sum)) : CD X (.builtin "sum") [.val (.lst (l.map D.int))] Q := cd_of (cr_sum hc) fun vs W H ok ha R c => by
  obtain ⟨v, rfl, m⟩ := one_arg ha
  cases m with
  | @lst _ a xs hp m =>
    rw [Dns.ints m] at hp
    exact ⟨a, l, rfl, SqL.of (ok.ex _ _ hp), c.now ok (.int _) q⟩
/-- n! -/
def fac : Nat → Nat
  | 0 => 1
  | n + 1 => fac n * (n + 1)
/-! ### the signs of a text -/
theorem strs_items {x : Str} {acc : Array Value} (it : ItemsOf (SignAt x) acc x.cps.size) : StrsAre acc.toList (x.cps.toList.map sg) := by
  refine strs_at (by rw [Array.length_toList, it.1, List.length_map, Array.length_toList]) fun j v e => ?_
  obtain ⟨c, u, hc, rfl⟩ := it.2 j v (by rw [← Array.getElem?_toList]; exact e)
  exact ⟨sg c, u, by rw [List.getElem?_map, Array.getElem?_toList, hc]; rfl, rfl⟩
theorem cr_listS (hc : X.calm = true) : CallR X (.type "list") (fun xs H Q => ∃ x : Str, xs = [V.str x] ∧ x.cps.size ≤ 50000 ∧ ∀ p, H p = none → Q (.ref p) (upd H p (.lst ((x.cps.toList.map sg).map V.str)))) := by
  intro pins t τ H xs us Q J r q
  obtain ⟨x, rfl, hx, q⟩ := q
  obtain ⟨u, rfl, ru⟩ := vals1 r
  obtain ⟨tk, rfl⟩ := ru
  refine call_list_str (hn := Nat.le_trans hx (by decide)) (J.ok.hd hc) x tk fun h' tk' acc c keep e it => ?_
  have sa := strs_items it
  have len : ((x.cps.toList.map sg).map V.str).length ≤ sizeLine := Nat.le_trans (by simpa using hx) (show 50000 ≤ sizeLine by decide)
  exact ⟨.ref t.heap.objs.size, upd H t.heap.objs.size (.lst ((x.cps.toList.map sg).map V.str)), J.laid (t' := tk') keep (Nat.le_refl _) ⟨len, acc.toList, c, vals_of_strs sa, by rw [Array.toArray_toList]; exact e⟩, rfl, q _ (J.hok.fresh (Nat.le_refl _))⟩
theorem cr_sortS (hc : X.calm = true) : CallR X (.builtin "sorted") (fun xs H Q => ∃ x : Str, xs = [V.str x] ∧ x.cps.size < 64 ∧ ∀ ys p, ys.Perm (x.cps.toList.map sg) → sortedS ys = true → H p = none → Q (.ref p) (upd H p (.lst (ys.map V.str)))) := by
  intro pins t τ H xs us Q J r q
  obtain ⟨x, rfl, hx, q⟩ := q
  obtain ⟨u, rfl, ru⟩ := vals1 r
  obtain ⟨tk, rfl⟩ := ru
  have small : x.cps.size ≤ sizeLine := Nat.le_trans (Nat.le_of_lt hx) (by decide)
  refine Calls.call_function_entry kind_sorted plain_sorted entry_sorted (args_sorted1 _) ?_
  unfold Builtin.«sorted»
  refine wpAny_bind (m := checkCount "sorted" 1 1 _) (wpAny_pure ?_)
  refine wpAny_bind (wpAny_collect_str (A := X.A.in1) (hn := small) (J.ok.hd hc) x tk fun t1 acc keep g1 g2 g3 it => ?_)
  have sa := strs_items it
  have hal : acc.toList.length = x.cps.size := by rw [Array.length_toList, it.1]
  have e1 : t1 = { t with heap := t1.heap, toks := t1.toks } := by
    cases t1
    cases t
    simp only at g1 g2 g3
    subst g1 g2 g3
    rfl
  rw [e1]
  generalize t1.heap = h' at keep
  have J1 : Inv X pins τ H { t with heap := h', toks := t1.toks } := J.kept keep
  refine wpAny_bind (wpAny_newList ?_ (by rw [hal]; exact small))
  have at_ : (h'.push (seqObj "list" acc.toList.toArray 0)).get? h'.objs.size = some (seqObj "list" acc.toList.toArray 0) := Heap.get?_push_size _ rfl
  show wpAny _ _ _ _ _ { t with heap := h'.push (seqObj "list" acc.toList.toArray 0), toks := t1.toks }
  refine wpAny_bind (wpAny_holding (wpAny_call_entry slot_list_sort ⟨_, at_, rfl⟩ entry_list_sort (list_sort_treeK strKind_oneLt (s := { t with heap := h'.push (seqObj "list" acc.toList.toArray 0), toks := t1.toks }) at_ sa.keysOf (fun v₁ v₂ rest e => keyKind_strs (by rw [← e]; exact sa)) (by rw [hal]; exact hx) fun st' hp hs => ⟨_, rfl, ?_⟩) (args_list_sort _)))
  obtain ⟨ys, y1, y2, y3⟩ := sorted_out_str sa hp hs
  obtain ⟨e', at2⟩ := sortedHeap_at (vs := acc.toList) (out := (arrOf st').map (·.2)) at_
  have len : (ys.map V.str).length ≤ sizeLine := by
    rw [List.length_map, y2.length_eq, List.length_map, Array.length_toList]
    exact small
  refine wpAny_pure ⟨_, rfl, .ref h'.objs.size, upd H h'.objs.size (.lst (ys.map V.str)), J1.laid (t' := t1.toks) (fun b u e => ?_) (Nat.le_refl _) ⟨len, ((arrOf st').map (·.2)).toList, e', vals_of_strs y1, by rw [Array.toArray_toList]; exact at2⟩, rfl, q ys _ y2 y3 (J1.hok.fresh (Nat.le_refl _))⟩
  have lt : b < h'.objs.size := Heap.lt_size e
  rw [sortedHeap_old (Nat.ne_of_lt lt) (by rw [size_push']; exact Nat.lt_succ_of_lt lt)]
  exact Heap.get?_push_of_some _ e
theorem strs_dns {K : PySem.W.Frag} {I : Hp} : ∀ ys : List Str, Dns K I (ys.map D.str) (ys.map V.str)
  | [] => .nil
  | y :: ys => .cons (.str y) (strs_dns ys)
theorem cd_sortS {x : Str} (hc : X.calm = true) (hx : x.cps.size < 64) (q : ∀ ys : List Str, ys.Perm (x.cps.toList.map sg) → sortedS ys = true → Q (.lst (ys.map D.str))) : CD X (.builtin "sorted") [.val (.str x)] Q := cd_of (cr_sortS hc) fun vs W H ok ha R c => by
  obtain ⟨v, rfl, m⟩ := one_arg ha
  cases m
  refine ⟨x, rfl, hx, fun ys p p1 p2 hp => ?_⟩
  have st := Stp.new (o := .lst (ys.map V.str)) ok hp
  exact c _ _ _ _ st (ok.new hp) (.lst (show upd W.I p _ p = _ from upd_same) (strs_dns _)) (q ys p1 p2)
end
end DL

set_option Elab.async false
set_option linter.all false
set_option maxRecDepth 100000
set_option maxHeartbeats 4000000
/-! enumerate(()); texts and enumerations walked -/
namespace EZ
open PySem PySem.Spec PyProof.Rows
open AutoSeq1 (wpAny_loadPart')
abbrev tit (l : Addr) : Obj := { cls := .type "tuple_iterator", data := .fields #[.ref l, .int 0 0] }
theorem new_enum (l : Addr) (xs : Array Value) : Meets (Builtin.«enumerate.__new__» ⟨[.type "enumerate", .ref l], []⟩) (fun _ R s => s.heap.IsTuple l xs ∧
    R (.ok (.ret (.ref (s.heap.push (tit l)).objs.size))) { s with heap := (s.heap.push (tit l)).push { cls := .type "enumerate", data := .fields #[.none, .bool false, .ref s.heap.objs.size, rawInt 0, .none, .none] } }) :=
  .of_wp fun prog w A R s h => by
    obtain ⟨h0, g, d, tk, os⟩ := s
    obtain ⟨hl, h⟩ := h
    have hsub := sub_enumerate
    have at_ : Heap.IsTuple (Shared.heap ⟨h0, g, d, tk, os⟩) l xs := hl
    wp_walk
    refine wpAny_stack_any fun st => wpAny_pure ?_
    split
    · rename_i c _ _ _ _ _
      cases (c == Value.type "enumerate")
      · wp_walk using wpAny_pyIter_tuple at_
        exact ⟨_, rfl, h⟩
      · wp_walk using wpAny_pyIter_tuple at_
        exact ⟨_, rfl, h⟩
    · wp_walk using wpAny_pyIter_tuple at_
      exact ⟨_, rfl, h⟩
theorem call_enum {prog : Program} {w : World} {A : Around} {E : Value → Shared → Prop} {s : Shared} {l : Addr} {xs : Array Value} {Q : Value → Shared → Prop} (hl : s.heap.IsTuple l xs)
    (h : ∀ h', IsEnum h' (s.heap.objs.size + 1) s.heap.objs.size 0 .none → h'.IsTupleIter s.heap.objs.size l 0 → (∀ b o, s.heap.get? b = some o → h'.get? b = some o) → Q (.ref (s.heap.objs.size + 1)) { s with heap := h' }) :
    wpAny (model prog w) A (call (.type "enumerate") [.ref l]) Q E s := by
  refine callType_new F.called_enumerate (by decide) (F.typeCall_enumerate_1 _) (F.newCall_enumerate_1 _) (fun obj => F.args_object_init_2 obj _) F.entry_enumerate_new (new_enum l xs) ⟨hl, ?_⟩
  have sz : (s.heap.push (tit l)).objs.size = s.heap.objs.size + 1 := Heap.size_push ..
  show _ ∧ _
  rw [sz]
  have e := Heap.get?_push_size (s.heap.push (tit l)) (o := { cls := .type "enumerate", data := .fields #[.none, .bool false, .ref s.heap.objs.size, rawInt 0, .none, .none] }) rfl
  rw [sz] at e
  exact ⟨⟨_, e, rfl⟩, h _ e ⟨_, Heap.get?_push_of_some _ (Heap.get?_push_size _ rfl), rfl, rfl⟩ fun b o x => Heap.get?_push_of_some _ (Heap.get?_push_of_some _ x)⟩
end EZ
namespace DL
open PySem PySem.Spec PyProof.Rows L2
/-- nothing to walk -/
def Itn (K : PySem.W.Frag) (a : Addr) : It := ⟨fun _ _ => False, fun _ _ _ _ => False, fun i H => i = 0 ∧ SqT K H a []⟩
theorem turn_en {P : Program} {w : World} {K : PySem.W.Frag} {elts : List Expr} {kk : Nat} {tpos : Pos} (a e it : Addr) : Turn P w K (.Tuple elts kk tpos) (Itn K a) [e, it] e (fun _ h => IsEnum h e it 0 .none ∧ h.IsTupleIter it a 0 ∧ a ≠ it) where
  mem := by simp
  obj := fun i h st b hb => by
    obtain ⟨h1, ⟨o, h2, _, h3⟩, _⟩ := st
    have q : b = e ∨ b = it := by simpa using hb
    rcases q with q | q <;> subst q
    · exact ⟨_, h1, fun v z => nomatch z⟩
    · exact ⟨o, h2, fun v z => by rw [h3] at z; cases z⟩
  keep := fun i h h' st k => by
    obtain ⟨h1, ⟨o, h2, r⟩, ne⟩ := st
    exact ⟨k e (by simp) _ h1, ⟨o, k it (by simp) _ h2, r⟩, ne⟩
  item := fun X hP hw hK hc i pins s σ H E J hf st hg => hg.elim
  done := by
    intro X hP hw hK hc i pins s σ H E J hf st hg
    subst hP hw hK
    obtain ⟨h1, h2, ne⟩ := st
    obtain ⟨rfl, sq⟩ := hg
    obtain ⟨its, rv, tp, _⟩ := J.tuple sq
    cases rv
    obtain ⟨f0, f1, f2, f3, f4, f5⟩ := hf it (by simp)
    exact wpAny_pyNext_enum_endD (Draws.tuple (A := X.A.in1) (J.ok.hd hc) it a ne #[]) h1 ⟨h2, tp⟩ fun h' eb => ⟨rfl, J.turned (t' := s.toks) (fun b o nb q => eb b o nb q) f0 f1 f3 f4 f5⟩
  self := fun A i s Q E st h => wpAny_pyIter_enum st.1 h
def iEn (K : PySem.W.Frag) (ta : TA) : TI := fun σ H R => ta σ H fun vs H1 => ∃ a, vs = [.ref a] ∧ SqT K H1 a [] ∧ R (Itn K a) H1
theorem pi_en {X : Cx} {e : Expr} {ta : TA} {p pos tpos : Pos} {elts : List Expr} {kk : Nat} (hg : Gl X "enumerate") (hm : X.mg "enumerate" = none) (ha : PA X [e] ta) (hs : starEach [e] X.env = [(false, eval e X.env)] := by rfl) :
    PI X (.Tuple elts kk tpos) (.Call (.Name "enumerate" p) [e] [] pos) (iEn X.K ta) := by
  refine ⟨fun pins s σ H R J h => Call_ (ld_blt J hg hm boot_enumerate (PyProof.Rows.callWith_type1 (thn (ha.run pos pins s σ H _ J h) fun us s1 ⟨vs, H1, J1, r1, q1⟩ => ?_) hs rfl))⟩
  obtain ⟨a, rfl, sq, q⟩ := q1
  cases r1 with
  | cons r rr =>
    cases rr
    cases r
    obtain ⟨its, rv, tp, _⟩ := J1.tuple sq
    refine EZ.call_enum tp fun h' h1 h2 keep => wpAny_pyIter_enum h1 ?_
    have J2 : Inv X pins σ H1 { s1 with heap := h' } := J1.kept (t' := s1.toks) keep
    have lt : a < s1.heap.objs.size := by obtain ⟨_, g, _⟩ := tp; exact Heap.lt_size g
    refine ⟨s1.heap.objs.size + 1, [s1.heap.objs.size + 1, s1.heap.objs.size], _, _, H1, rfl, J2, turn_en a _ _, ⟨h1, h2, Nat.ne_of_lt lt⟩, fun b hb => ?_, q⟩
    have le : s1.heap.objs.size ≤ b := by
      have z : b = s1.heap.objs.size + 1 ∨ b = s1.heap.objs.size := by simpa using hb
      rcases z with z | z <;> rw [z]
      · exact Nat.le_add_right _ _
      · exact Nat.le_refl _
    exact J1.fpOk le (J1.hok.fresh le)
section
variable {X : Cx} {B : Hp} {W0 : Wd} {S : En} {pos px p1 p apos cpos : Pos} {Q : D → Prop} {a b c e e2 o elt iter value : Expr} {es : List Expr} {E : Ends'} {x : Str}
/-- for i, x in enumerate(a list) -/
theorem sd_forE {elts : List Expr} {kk : Nat} {tpos : Pos} {body : List Stmt} {l : List D} (hp : PassesOwn (model X.prog X.w) X.A X.env X.xe) (hc : X.calm = true) (hm : X.mg "enumerate" = none) (Inv : Nat → En → Prop) (h : AD X B S [e] fun as => as = [.val (.lst l)] ∧ Inv 0 S)
    (hs : ∀ (i : Nat) d S', l[i]? = some d → Inv i S' → GD X B W0 S' (.Tuple elts kk tpos) (.tup [.int (i : Int), d]) fun S2 => SDs X B W0 S2 body { nx := Inv (i + 1), rt := E.rt, bk := E.nx, ct := Inv (i + 1) })
    (hd : ∀ S', Inv l.length S' → E.nx S') (hg : Gl X "enumerate" := by rfl) (hst : starEach [e] X.env = [(false, eval e X.env)] := by rfl) (hf : ∀ x, foldedSetIterable (.Call (.Name "enumerate" p) [e] [] p1) X.env x = pure x := by intro _; rfl) :
    SD X B W0 S (.For (.Tuple elts kk tpos) (.Call (.Name "enumerate" p) [e] [] p1) body [] pos) E := fun σ W H r z D' k => by
  refine PS.w (ps_for hp hc (pi_enum hg hm wa_pa hst) wg_pg wss_pss hf) ?_
  refine h σ W H r _ fun as vs W1 H1 s1 ok1 n1 q1 => ?_
  obtain ⟨rfl, i0⟩ := q1
  obtain ⟨v, rfl, m⟩ := one_arg n1
  cases m with
  | @lst _ a xs ha m =>
    refine ⟨a, xs, rfl, SqL.of (ok1.ex _ _ ha), for_it walk_enum (fun i σ' H' => ∃ S' W', Rep X.K (gOf X) B S' σ' W' H' ∧ Stp W0 B W' H' ∧ Ex W1.I W'.I ∧ Inv i S') ⟨S, W1, r.step s1 ok1, z.trans r.ok s1, Ex.refl _, i0⟩
      (fun i σ' H' _ ⟨S', W', r', _, e', _⟩ => SqL.of (r'.ok.ex _ _ (e' _ _ ha))) ?_ ?_⟩
    · rintro i y σ' H' H2 hi ⟨S', W', r', z', e', i'⟩ ⟨T, x1, x2, rfl, hT, rfl, ex1, ex2⟩
      obtain ⟨d, hd', nd⟩ := m.get ex2
      cases ex1
      have st := Stp.new (o := .tup [.int (i : Nat), x2]) r'.ok hT
      have ok2 := r'.ok.new (o := .tup [.int (i : Nat), x2]) hT
      refine hs i d S' hd' i' σ' _ _ _ (r'.step st ok2) (z'.trans r'.ok st) (.tup (show upd W'.I T _ T = _ from upd_same) (.cons (.int _) (.cons ((nd.mono e').mono st.I) .nil))) _ fun S3 σ3 W3 H3 r3 z3 e3 q3 => ?_
      have e4 := (e'.trans st.I).trans e3
      exact q3 σ3 W3 H3 r3 z3 _ ⟨fun S5 σ5 W5 H5 r5 z5 e5 q5 => ⟨S5, W5, r5, z5, e4.trans e5, q5⟩, fun d5 v5 W5 H5 r5 z5 e5 n5 q5 => k.rt d5 v5 W5 H5 r5 z5 ((s1.I.trans e4).trans e5) n5 q5,
        fun S5 σ5 W5 H5 r5 z5 e5 q5 => k.nx S5 σ5 W5 H5 r5 z5 ((s1.I.trans e4).trans e5) q5, fun S5 σ5 W5 H5 r5 z5 e5 q5 => ⟨S5, W5, r5, z5, e4.trans e5, q5⟩⟩
    · rintro σ' H' ⟨S', W', r', z', e', i'⟩
      rw [← m.length] at i'
      exact k.nx S' σ' W' H' r' z' (s1.I.trans e') (hd S' i')
/-- [elt for x in a text] -/
theorem fd_relC {s : Str} {scope : Scope} {own : List (Str × Nat)} {Q : List D → Prop} (G : Nat → D → Prop) (j : Nat) (hc : X.calm = true) (hN : X.N.Nodup) (ok : BlkOk X.N X.env.scope scope own) (hg : AllBlk X scope fun Y => PG Y (.Name x px) (gName j)) (hl : s.cps.size ≤ 50000) (hit : ED X B S iter fun d => d = .str s) (hj : j ∈ own.map (·.2))
    (he : ∀ (i c : Nat), s.cps[i]? = some c → AllBlk X scope fun Y => ED Y B (itE S own j (.str (sg c))) elt (G c)) (hd : ∀ out, Paired G s.cps.toList out → Q out) (hs : ∀ x, foldedSetIterable iter X.env x = pure x := by intro _; rfl) : FD X B S (.ListComp elt [⟨.Name x px, iter, [], 0⟩] scope pos) Q := fun σ W H r R k => by
  refine PE.w (pe_lc (te := WEb X scope elt) hc hN (pi_str we_pe) ok hg (fun _ _ _ _ _ => pts_nil) web_pe hs) ?_
  refine hit σ W H r _ fun d v W1 H1 s1 ok1 n1 q1 => ?_
  subst q1
  cases n1
  refine ⟨s, rfl, fun p hp0 => ?_⟩
  have r1 := r.step s1 ok1
  refine lc_it (walk_str (z := s)) (fun i H' => ∃ acc W', Mid X.K (gOf X) W1 H1 p acc W' H' ∧ acc.length = i ∧ Paired G (s.cps.toList.take i) acc) ⟨[], W1, ⟨Stp.own hp0, ok1.own hp0, ok1.notP hp0, ok1.free hp0, [], upd_same, .nil⟩, rfl, .nil⟩ (fun _ _ _ _ => trivial) ?_ ?_
  · rintro i y H' H2 hi ⟨acc, W', mm, hl2, pr⟩ ⟨rfl, c, hc', rfl⟩
    have r2 := r1.step mm.st mm.ok
    refine pat_name j hj (gOf X) B σ W' H2 (.str (sg c)) r2 (.str (sg c)) _ fun σ2 e2 r3 => ⟨e2, ?_⟩
    show WEb X scope elt σ2 H2 _
    intro s' H0 C cl fp
    refine he i c hc' s' H0 C cl fp σ2 W' H2 r3 _ fun y W3v W3 H3 s3 ok3 n3 q3 => ?_
    obtain ⟨xs', e1, e3, m3⟩ := (mm.step s3 ok3).more hp0 n3 (by omega)
    refine ⟨xs', e1, e3, _, W3, m3, by simp [hl2], ?_⟩
    rw [List.take_add_one, Array.getElem?_toList, hc']
    exact Paired.snoc q3 pr
  · rintro H' ⟨acc, W', mm, hl2, pr⟩
    obtain ⟨ys, hH, ds⟩ := mm.h
    rw [List.take_of_length_le (by rw [Array.length_toList]; exact Nat.le_refl _)] at pr
    exact k acc p ys W' H' (s1.trans ok1 mm.st) mm.ok (s1.free ok1 hp0) mm.n mm.i hH ds (hd acc pr)
/-- [elt for x, y in zip(a text, a text)] -/
theorem fd_relCC {s t : Str} {y : Str} {py tpos pos1 : Pos} {kk : Nat} {scope : Scope} {own : List (Str × Nat)} {Q : List D → Prop} (G : Nat → Nat → D → Prop) (i j : Nat) (hc : X.calm = true) (hN : X.N.Nodup) (hm : X.mg "zip" = none) (ok : BlkOk X.N X.env.scope scope own) (hg : AllBlk X scope fun Y => PG Y (.Tuple [.Name x px, .Name y py] kk tpos) (gTup X.K 2 (gCons (gName i) (gCons (gName j) gNil))))
    (hs : s.cps.all (· < 128) = true) (ht : t.cps.all (· < 128) = true) (hl : s.cps.size ≤ 50000) (h : AD X B S [e, e2] fun as => as = [.val (.str s), .val (.str t)]) (hi : i ∈ own.map (·.2)) (hj : j ∈ own.map (·.2)) (he : ∀ (n c d : Nat), s.cps[n]? = some c → t.cps[n]? = some d → AllBlk X scope fun Y => ED Y B ((itE S own i (.str (sg c))).set j (some (.val (.str (sg d))))) elt (G c d))
    (hd : ∀ out, out.length = min s.cps.size t.cps.size → (∀ (n c d : Nat) z, s.cps[n]? = some c → t.cps[n]? = some d → out[n]? = some z → G c d z) → Q out) (hgl : Gl X "zip" := by rfl)
    (hst : starEach [e, e2] X.env = (false, eval e X.env) :: starEach [e2] X.env := by rfl) (hpl : (backTo pos1 (starEach [e2] X.env)).any (·.1) = false := by rfl)
    (hsf : ∀ x, foldedSetIterable (.Call (.Name "zip" p1) [e, e2] [] pos1) X.env x = pure x := by intro _; rfl) : FD X B S (.ListComp elt [⟨.Tuple [.Name x px, .Name y py] kk tpos, .Call (.Name "zip" p1) [e, e2] [] pos1, [], 0⟩] scope pos) Q := fun σ W H r R k => by
  refine PE.w (pe_lc (te := WEb X scope elt) hc hN (pi_ss hgl hm wa_pa hst hpl) ok hg (fun _ _ _ _ _ => pts_nil) web_pe hsf) ?_
  refine h σ W H r _ fun as vs W1 H1 s1 ok1 n1 q1 => ?_
  subst q1
  obtain ⟨v1, v2, rfl, m1, m2⟩ := two_args n1
  cases m1
  cases m2
  refine ⟨s, t, rfl, hs, ht, fun p hp0 => ?_⟩
  have r1 := r.step s1 ok1
  have wk : Walk (Itss s t) (min s.cps.size t.cps.size) (fun _ => True) (fun i H v H' => ∃ T c d, s.cps[i]? = some c ∧ t.cps[i]? = some d ∧ v = .ref T ∧ H T = none ∧ H' = upd H T (.tup [.str ⟨#[c]⟩, .str ⟨#[d]⟩])) :=
    ⟨fun i H hi _ => ⟨by omega, by omega⟩, fun H _ => ⟨by omega, by omega, by omega⟩, fun i H x H' _ _ y => y⟩
  refine lc_it wk (fun n H' => ∃ acc W', Mid X.K (gOf X) W1 H1 p acc W' H' ∧ acc.length = n ∧ ∀ (m c d : Nat) z, s.cps[m]? = some c → t.cps[m]? = some d → acc[m]? = some z → G c d z) ⟨[], W1, ⟨Stp.own hp0, ok1.own hp0, ok1.notP hp0, ok1.free hp0, [], upd_same, .nil⟩, rfl, fun m c d z _ _ e => by simp at e⟩ (fun _ _ _ _ => trivial) ?_ ?_
  · rintro n y H' H2 hn ⟨acc, W', mm, hl2, pr⟩ ⟨T, c, d, hc', hd', rfl, hT, rfl⟩
    have st := Stp.new (o := .tup [.str ⟨#[c]⟩, .str ⟨#[d]⟩]) mm.ok hT
    have ok2 := mm.ok.new (o := .tup [.str ⟨#[c]⟩, .str ⟨#[d]⟩]) hT
    have mm2 := mm.step st ok2
    have r2 := r1.step mm2.st mm2.ok
    refine pat_two i j hi hj (gOf X) B σ _ _ (.ref T) r2 (d := .str (sg c)) (d' := .str (sg d)) (.tup (show upd W'.I T _ T = _ from upd_same) (.cons (.str _) (.cons (.str _) .nil))) _ fun σ2 e2 r3 => ⟨e2, ?_⟩
    show WEb X scope elt σ2 _ _
    intro s' H0 C cl fp
    refine he n c d hc' hd' s' H0 C cl fp σ2 _ _ r3 _ fun y W3v W3 H3 s3 ok3 n3 q3 => ?_
    obtain ⟨xs', e1, e3, m3⟩ := (mm2.step s3 ok3).more hp0 n3 (by omega)
    refine ⟨xs', e1, e3, _, W3, m3, by simp [hl2], fun m c1 d1 z f1 f2 f3 => ?_⟩
    rcases Nat.lt_or_ge m n with lt | ge
    · rw [List.getElem?_append_left (by omega)] at f3
      exact pr m c1 d1 z f1 f2 f3
    · rw [List.getElem?_append_right (by omega)] at f3
      have : m = n := by
        rcases Nat.lt_or_ge n m with q | q
        · rw [List.getElem?_eq_none (show [y].length ≤ m - acc.length by show 1 ≤ _; omega)] at f3
          cases f3
        · omega
      subst this
      rw [hl2, Nat.sub_self] at f3
      cases f3
      rw [hc'] at f1
      rw [hd'] at f2
      cases f1
      cases f2
      exact q3
  · rintro H' ⟨acc, W', mm, hl2, pr⟩
    obtain ⟨ys, hH, ds⟩ := mm.h
    exact k acc p ys W' H' (s1.trans ok1 mm.st) mm.ok (s1.free ok1 hp0) mm.n mm.i hH ds (hd acc hl2 pr)
end
end DL

set_option Elab.async false
set_option linter.all false
set_option maxRecDepth 100000
set_option maxHeartbeats 2000000
/-! the law's own call, of a def whose promise asks that the guards are known -/
namespace DL
open PySem PySem.Spec PyProof.Rows L2
/-- what is tracked when the law is called: the script alone, and that only where it is no object of the module -/
def given (K : PySem.W.Frag) (a : Addr) (o : Obj) (ns : List Int) : Hp := fun b => if b = a ∧ K.lookup a = none then some (.frz o (.lst (ns.map V.int))) else none
theorem given_is {K : PySem.W.Frag} {a b : Addr} {o : Obj} {ns : List Int} {u : HO} (h : given K a o ns b = some u) : b = a ∧ K.lookup a = none ∧ u = .frz o (.lst (ns.map V.int)) := by
  unfold given at h
  by_cases c : b = a ∧ K.lookup a = none
  · rw [if_pos c] at h
    exact ⟨c.1, c.2, (Option.some.inj h).symm⟩
  · rw [if_neg c] at h
    cases h
theorem law_gn {P : Program} {w : World} {K : PySem.W.Frag} {mg mb : Str → Option Value} {k : Nat} {fa a : Addr} {fd : FuncData} {x : Str} {sp : SpG} {t : Shared} {vs : List Value} {ns : List Int}
    (kin : K.In t.heap) (glob : t.heap.Ns mainGlobals mg) (bl : t.heap.Ns builtinsNs mb) (boot : ∀ x : Str, x ≠ "__name__" → mb x = bootBuiltins x) (lim : t.heap.NoLimit) (gens : t.gens = #[])
    (script : t.heap.get? a = some { cls := .type "list", data := .seq vs.toArray }) (iv : IntsAre vs ns) (len : ns.length ≤ sizeLine) (room : Room k callerA)
    (F : ∀ base : Heap, K.In base → base.Ns mainGlobals mg → GnOk P w K mg base k fa fd [x] sp) (bind : ∀ (s : Shared) (u : Value), BindsTo s fd ⟨[u], []⟩ [(x, u)])
    (q : ∀ H : Hp, SqL K H a (ns.map V.int) → sp [] [.ref a] H fun v _ => v = .bl true) :
    codeAny (model P w) callerA (.call (.ref fa) ⟨[.ref a], []⟩) (fun r s' => r = .ok (.ret (.bool true)) ∧ OldK t.heap s'.heap ∧ s'.os = t.os ∧ AllBare s'.gens) t := by
  have rel : Vals (ns.map V.int) vs := vals_ints iv
  obtain ⟨H, eH⟩ : ∃ H, H = given K a { cls := .type "list", data := .seq vs.toArray } ns := ⟨_, rfl⟩
  have one : ∀ {b : Addr} {u : HO}, H b = some u → b = a ∧ K.lookup a = none ∧ u = .frz { cls := .type "list", data := .seq vs.toArray } (.lst (ns.map V.int)) := fun {b u} e => given_is (by rw [← eH]; exact e)
  -- what is tracked is no dict and nothing of the module
  have untracked : ∀ {b : Addr}, (b = a → K.lookup a = none → False) → H b = none := fun {b} n => by
    cases e : H b with
    | none => rfl
    | some u => exact (n (one e).1 (one e).2.1).elim
  have inBase : ∀ {b : Addr} {o : Obj}, t.heap.get? b = some o → (b = a → K.lookup a = none → False) → (hidT t.heap H).get? b = some o := fun e n => hidT_get e (untracked n)
  have dict : ∀ {b : Addr} {m : Str → Option Value}, t.heap.Ns b m → (hidT t.heap H).Ns b m := fun {b m} ⟨o, es, n, e, d, r⟩ => ⟨o, es, n, inBase e (fun z _ => by
    rw [z, script] at e
    cases e
    exact nomatch (show Data.seq vs.toArray _ = Data.dict es n from d)), d, r⟩
  have kin' : K.In (hidT t.heap H) := fun b o e => inBase (kin b o e) fun z n => by rw [z, n] at e; cases e
  have hold : HOk P w H t.heap := fun b u e => by
    obtain ⟨rfl, _, rfl⟩ := one e
    exact ⟨script, by rw [List.length_map]; exact len, vs, _, rel, script⟩
  have seq : SqL K H a (ns.map V.int) := by
    cases c : K.lookup a with
    | none => exact .inl (.inr ⟨{ cls := .type "list", data := .seq vs.toArray }, by rw [eH]; exact if_pos ⟨rfl, c⟩⟩)
    | some o =>
      have e := kin a o c
      rw [script] at e
      cases e
      exact .inr ⟨_, vs.toArray, _, c, rfl, rfl, rfl, by rw [List.size_toArray, iv.length]; exact len, rel⟩
  have md : Mod K mg (hidT t.heap H) := ⟨kin', dict glob, ⟨mb, dict bl, boot⟩, let ⟨mc, h1, h2⟩ := lim; ⟨mc, dict h1, h2⟩⟩
  have env : Env0 P w K mg (hidT t.heap H) callerA [] t H := ⟨rfl, md, fun b o e => of_hidT e, Nat.le_of_eq (hidT_size _ _), trivial, fun b z => absurd (show b ∈ ([] : List Addr) from z) List.not_mem_nil, hold, .of_eq gens⟩
  refine codeAny_mono ((F _ kin' (dict glob)).run callerA [] [] t H ⟨[.ref a], []⟩ [.ref a] [.ref a] _ room rfl env (bind t (.ref a)) (.cons rfl .nil) (q H seq)) fun r s' back => ?_
  match r, back with
  | .error e, back => exact back.elim
  | .ok (.ret u), ⟨v, H', os, bare, un, hold', ru, ev⟩ =>
    have ev' : v = .bl true := ev
    subst ev'
    obtain rfl : u = Value.bool true := ru
    refine ⟨rfl, OldK.of_keep fun b o e => ?_, os, bare⟩
    cases c : H b with
    | none => exact un.keep b o e c (fun z => absurd (show b ∈ ([] : List Addr) from z) List.not_mem_nil) List.not_mem_nil
    | some u =>
      obtain ⟨rfl, _, rfl⟩ := one c
      have after := (hold' _ _ (un.frzs _ _ _ c)).1
      rw [script] at e
      cases e
      exact after
/-- the goal that the head of an open law leaves, from the law's promise -/
theorem walk_gn {l : PySem.W.OpenLaw} {n k : Nat} {q : Program} {loose : List Str} {XP : (Str → Option Value) → Heap → Prop} {YP : World → Heap → Prop} {d : DefRec} {K : Params → PySem.W.Frag} {sp : World → SpG} {x : Str}
    (hn : l.most = some n) (hn2 : n ≤ sizeLine) (hdf : d.params.defaults = []) (hr : Room k callerA) (hY : ∀ (w : World) (h : Heap), YP w h → (K w.params).In h)
    (F : ∀ (w : World) (mg : Str → Option Value) (fa : Addr) (h : Heap), (K w.params).In h → h.Ns mainGlobals mg → mg d.name = some (.ref fa) →
      ∃ fd : FuncData, (∀ (s : Shared) (u : Value), BindsTo s fd ⟨[u], []⟩ [(x, u)]) ∧ ∀ base : Heap, (K w.params).In base → base.Ns mainGlobals mg → GnOk l.prog w (K w.params) mg base k fa fd [x] (sp w))
    (hsp : ∀ (w : World) (H : Hp) (a : Addr) (ns : List Int), ns.length ≤ n → SqL (K w.params) H a (ns.map V.int) → sp w [] [.ref a] H fun v _ => v = .bl true) :
    PySem.W.WalkO q loose XP YP l.row.toRowW d [] (fun f vs => PySem.call f vs) :=
  Att.attach_call hn hdf fun w s₀ s₁ mg mb fa o pm cd doc a vs ns G Y ho hd hcd hmg hobj hints hlen hg =>
    let ⟨fd, hb, hF⟩ := F w mg fa _ (hY w _ Y) G.T.g hmg
    law_gn (hY w _ Y) G.T.g G.T.b G.T.builtins G.T.nolimit hg hobj hints (Nat.le_trans hlen hn2) hr hF hb fun H hS => hsp w H a ns hlen hS
end DL

set_option Elab.async false
set_option linter.all false
set_option maxRecDepth 100000
set_option maxHeartbeats 2000000
/-! k21: the text by places, the data, the promises -/
namespace K21
open PySem L2 DL
def top (i : Nat) : Stmt := PySem.Challenge.pw_onecrest_k21_whole_pieces_and_halves.main.body.getD i (.Pass ⟨0, 0, 0, 0⟩)
abbrev sIsInt : Stmt := top 3
abbrev sIsList : Stmt := top 5
abbrev sIsCount : Stmt := top 4
abbrev ble (j : Nat) : Stmt := inClass (top 29) j
abbrev rat (j : Nat) : Stmt := inClass (top 21) j
abbrev sIsNumber : Stmt := top 22
abbrev sRatioOf : Stmt := top 24
/-! ### fractions -/
abbrev Fr := Int × Int
/-- the common part, with the sign of the bottom -/
def gs (t b : Int) : Int := if b > 0 then (Nat.gcd t.natAbs b.natAbs : Int) else -(Nat.gcd t.natAbs b.natAbs : Int)
def low (t b : Int) : Fr := (t.fdiv (gs t b), b.fdiv (gs t b))
/-- a fraction as it is held: below 2 ^ n, the bottom above 0 -/
structure Bd (n : Nat) (p : Fr) : Prop where
  t : p.1.natAbs < 2 ^ n
  b : p.2.natAbs < 2 ^ n
  pos : 0 < p.2
theorem gs_ne {t b : Int} (h : b ≠ 0) : gs t b ≠ 0 := by
  have g : 0 < Nat.gcd t.natAbs b.natAbs := Nat.gcd_pos_of_pos_right _ (by omega)
  unfold gs
  split <;> omega
theorem gs_dvd_t {t b : Int} : gs t b ∣ t := by
  have h : ((Nat.gcd t.natAbs b.natAbs : Nat) : Int) ∣ t := Int.ofNat_dvd_left.mpr (Nat.gcd_dvd_left _ _)
  unfold gs
  split
  · exact h
  · exact Int.neg_dvd.mpr h
theorem gs_dvd_b {t b : Int} : gs t b ∣ b := by
  have h : ((Nat.gcd t.natAbs b.natAbs : Nat) : Int) ∣ b := Int.ofNat_dvd_left.mpr (Nat.gcd_dvd_right _ _)
  unfold gs
  split
  · exact h
  · exact Int.neg_dvd.mpr h
theorem fdiv_small {x d : Int} (h : d ∣ x) : (x.fdiv d).natAbs ≤ x.natAbs := by
  rw [Int.fdiv_eq_ediv_of_dvd h]
  obtain ⟨c, rfl⟩ := h
  by_cases z : d = 0
  · subst z; simp
  · rw [Int.mul_ediv_cancel_left _ z, Int.natAbs_mul]
    exact Nat.le_mul_of_pos_left _ (by omega)
theorem low_pos {t b : Int} (h : b ≠ 0) : 0 < (low t b).2 := by
  show 0 < b.fdiv (gs t b)
  have d := gs_dvd_b (t := t) (b := b)
  have n := gs_ne (t := t) h
  rw [Int.fdiv_eq_ediv_of_dvd d]
  obtain ⟨c, hc⟩ := d
  have e : b / gs t b = c := by
    conv => lhs; lhs; rw [hc]
    exact Int.mul_ediv_cancel_left _ n
  rw [e]
  have g : 0 < Nat.gcd t.natAbs b.natAbs := Nat.gcd_pos_of_pos_right _ (by omega)
  by_cases p : b > 0
  · have e2 : gs t b = (Nat.gcd t.natAbs b.natAbs : Int) := by unfold gs; rw [if_pos p]
    rw [e2] at hc
    by_cases q : 0 < c
    · exact q
    · have : (Nat.gcd t.natAbs b.natAbs : Int) * c ≤ 0 := Int.mul_nonpos_of_nonneg_of_nonpos (by omega) (by omega)
      omega
  · have e2 : gs t b = -(Nat.gcd t.natAbs b.natAbs : Int) := by unfold gs; rw [if_neg p]
    rw [e2] at hc
    by_cases q : 0 < c
    · exact q
    · have : 0 ≤ -(Nat.gcd t.natAbs b.natAbs : Int) * c := Int.mul_nonneg_of_nonpos_of_nonpos (by omega) (by omega)
      omega
theorem low_bd {n : Nat} {t b : Int} (h : b ≠ 0) (ht : t.natAbs < 2 ^ n) (hb : b.natAbs < 2 ^ n) : Bd n (low t b) :=
  ⟨Nat.lt_of_le_of_lt (fdiv_small gs_dvd_t) ht, Nat.lt_of_le_of_lt (fdiv_small gs_dvd_b) hb, low_pos h⟩
theorem low_gcd {t b : Int} (h : b ≠ 0) : Nat.gcd (low t b).1.natAbs (low t b).2.natAbs = 1 := by
  show Nat.gcd (t.fdiv (gs t b)).natAbs (b.fdiv (gs t b)).natAbs = 1
  have g : 0 < Nat.gcd t.natAbs b.natAbs := Nat.gcd_pos_of_pos_right _ (by omega)
  have e : (gs t b).natAbs = Nat.gcd t.natAbs b.natAbs := by
    unfold gs
    split <;> omega
  have key : ∀ x : Int, gs t b ∣ x → (x.fdiv (gs t b)).natAbs = x.natAbs / Nat.gcd t.natAbs b.natAbs := fun x hx => by
    rw [Int.fdiv_eq_ediv_of_dvd hx, ← e]
    obtain ⟨c, rfl⟩ := hx
    have n := gs_ne (t := t) h
    rw [Int.mul_ediv_cancel_left _ n, Int.natAbs_mul, Nat.mul_div_cancel_left _ (by omega)]
  rw [key t gs_dvd_t, key b gs_dvd_b]
  rw [Nat.gcd_div (Nat.gcd_dvd_left _ _) (Nat.gcd_dvd_right _ _)]
  exact Nat.div_self g
/-- what is in lowest terms stays -/
theorem low_id {t b : Int} (hb : 0 < b) (h : Nat.gcd t.natAbs b.natAbs = 1) : low t b = (t, b) := by
  have e : gs t b = 1 := by unfold gs; rw [if_pos hb, h]; rfl
  unfold low
  rw [e, Int.fdiv_one, Int.fdiv_one]
theorem low_one (n : Int) : low n 1 = (n, 1) := low_id (by decide) (Nat.gcd_one_right _)
theorem mul_bd {a b : Int} {m n : Nat} (h : a.natAbs < 2 ^ m) (k : b.natAbs < 2 ^ n) : (a * b).natAbs < 2 ^ (m + n) := by
  rw [Int.natAbs_mul, Nat.pow_add]
  exact Nat.mul_lt_mul'' h k
theorem add_bd {a b : Int} {m : Nat} (h : a.natAbs < 2 ^ m) (k : b.natAbs < 2 ^ m) : (a + b).natAbs < 2 ^ (m + 1) := by
  have := Int.natAbs_add_le a b
  rw [Nat.pow_succ]
  omega
theorem bd_mono {a : Int} {m n : Nat} (h : a.natAbs < 2 ^ m) (k : m ≤ n) : a.natAbs < 2 ^ n := Nat.lt_of_lt_of_le h (Nat.pow_le_pow_right (by decide) k)
theorem Bd.mono {p : Fr} {m n : Nat} (h : Bd m p) (k : m ≤ n) : Bd n p := ⟨bd_mono h.t k, bd_mono h.b k, h.pos⟩
theorem cmul {a b : Int} {m n : Nat} (h : a.natAbs < 2 ^ m) (k : b.natAbs < 2 ^ n) (hm : m ≤ 60000000) (hn : n ≤ 60000000) : CMulX a b := by
  have e1 := intBits_le_iff.mpr h
  have e2 := intBits_le_iff.mpr k
  show (Builtin.Int.intBits a : Int) + (Builtin.Int.intBits b : Int) ≤ 134217728
  omega
theorem cdivg {a b : Int} {n : Nat} (h : b ≠ 0) (k : b.natAbs < 2 ^ n) (hn : n ≤ 9000) : CDivG a b :=
  ⟨h, Nat.lt_of_lt_of_le ((Nat.log2_lt (by omega)).mpr k) hn⟩
theorem gs_bd {t b : Int} {n : Nat} (h : b ≠ 0) (hb : b.natAbs < 2 ^ n) : (gs t b).natAbs < 2 ^ n := by
  have e : (gs t b).natAbs = Nat.gcd t.natAbs b.natAbs := by
    unfold gs
    split <;> omega
  rw [e]
  exact Nat.lt_of_le_of_lt (Nat.gcd_le_right _ (by omega)) hb
end K21

set_option Elab.async false
set_option linter.all false
set_option maxRecDepth 100000
set_option maxHeartbeats 2000000
/-! k21: the promises, the checks, Ratio -/
namespace K21
open PySem L2 DL
section
variable {X : Cx} {B : Hp} {S : En} {pos : Pos} {Q : D → Prop} {x : Str} {d : D}
theorem nm (i : Nat) (q : Q d) (hN : X.N[i]? = some x := by rfl) (h : S[i]? = some (some (.val d)) := by rfl) (hv : Vis X.env.scope x := by first | exact Or.inl rfl | exact Or.inr (Or.inl rfl) | exact Or.inr (Or.inr rfl))
    (hd : (x == ("__debug__" : Str)) = false := by decide) (hcd : (x == ("__classdict__" : Str)) = false := by decide) : ED X B S (.Name x pos) Q := ed_name i hN h q hv hd hcd
theorem sd_post {W0 : Wd} {st : Stmt} {E : Ends'} (QS : En → Prop) (h : SD X B W0 S st { E with nx := QS }) (k : ∀ S', QS S' → E.nx S') : SD X B W0 S st E := fun σ W H r z D' q => h σ W H r z D' ⟨fun S' σ' W' H' r' z' x' y => q.nx S' σ' W' H' r' z' x' (k S' y), q.rt, q.bk, q.ct⟩
theorem kB {QB : Bool → Prop} {b : Bool} (q : QB b) : ∃ k, D.bl b = .bl k ∧ QB k := ⟨b, rfl, q⟩
end
/-! ### data -/
def rf (p : Fr) : List (Str × D) := [("_top", .int p.1), ("_bottom", .int p.2)]
abbrev Ra (C : Addr) (p : Fr) : D := .obj C (rf p)
def pr (p : Fr) : D := .tup [.int p.1, .int p.2]
/-- what may be handed to a check -/
inductive Kn (C : Addr) : D → Prop
  | non : Kn C .non
  | bl (b) : Kn C (.bl b)
  | int (i) : Kn C (.int i)
  | str (s) : Kn C (.str s)
  | tup (l) : Kn C (.tup l)
  | lst (l) : Kn C (.lst l)
  | dct : Kn C .dct
  | rat (p) : Kn C (Ra C p)
def isI : D → Bool
  | .int _ => true
  | _ => false
def isB : D → Bool
  | .bl _ => true
  | _ => false
def isO : D → Bool
  | .obj _ _ => true
  | _ => false
structure Txt (K : PySem.W.Frag) (mg : Str → Option Value) (C : Addr) : Prop where
  nu : Num K C
  is : Isi K C
  nT : NoAttr K C "_top"
  nB : NoAttr K C "_bottom"
  ne : PySem.W.findIn K (.ref C) "__ne__" = some (some (.builtin "object.__ne__"))
  mC : mg "Ratio" = some (.ref C)
  gcd : mg "gcd" = some (.builtin "math.gcd")
  isi : mg "isinstance" = none
  int : mg "int" = none
  bool : mg "bool" = none
  list : mg "list" = none
  tuple : mg "tuple" = none
  abs : mg "abs" = none
  len : mg "len" = none
  max : mg "max" = none
  divmod : mg "divmod" = none
  str : mg "str" = none
  repr : mg "repr" = none
  range : mg "range" = none
  k1 : PySem.W.kitOne K (.type "NoneType") (.type "int") = some false
  k2 : PySem.W.kitOne K (.type "bool") (.type "int") = some true
  k3 : PySem.W.kitOne K (.type "str") (.type "int") = some false
  k4 : PySem.W.kitOne K (.type "tuple") (.type "int") = some false
  k5 : PySem.W.kitOne K (.type "list") (.type "int") = some false
  k6 : PySem.W.kitOne K (.ref C) (.type "int") = some false
  k7 : PySem.W.kitOne K (.type "int") (.type "bool") = some false
  r1 : PySem.W.kitOne K (.type "NoneType") (.ref C) = some false
  r2 : PySem.W.kitOne K (.type "bool") (.ref C) = some false
  r3 : PySem.W.kitOne K (.type "str") (.ref C) = some false
  r4 : PySem.W.kitOne K (.type "tuple") (.ref C) = some false
  r5 : PySem.W.kitOne K (.type "list") (.ref C) = some false
  r7 : PySem.W.kitOne K (.type "int") (.ref C) = some false
  k8 : PySem.W.kitOne K (.type "dict") (.type "int") = some false
  r8 : PySem.W.kitOne K (.type "dict") (.ref C) = some false
  l0 : ∀ T : String, T = "NoneType" ∨ T = "bool" ∨ T = "str" ∨ T = "int" ∨ T = "dict" → PySem.W.kitAny K (.type T) [.type "list", .type "tuple"] = some false
  l3 : PySem.W.kitAny K (.ref C) [.type "list", .type "tuple"] = some false
  all : mg "all" = none
  zip : mg "zip" = none
  l1 : PySem.W.kitAny K (.type "list") [.type "list", .type "tuple"] = some true
  l2 : PySem.W.kitAny K (.type "tuple") [.type "list", .type "tuple"] = some true
theorem same {K : PySem.W.Frag} {t : Value} (h : (t == t) = true) : PySem.W.kitOne K t t = some true := by
  unfold PySem.W.kitOne
  rw [if_pos h]
theorem Kn.ty {K : PySem.W.Frag} {mg : Str → Option Value} {C : Addr} (T : Txt K mg C) {d : D} (h : Kn C d) : ∃ t, TyD K d t ∧ PySem.W.kitOne K t (.type "int") = some (isI d || isB d) ∧ ((isI d || isB d) = true → PySem.W.kitOne K t (.type "bool") = some (isB d)) ∧ PySem.W.kitOne K t (.ref C) = some (isO d) := by
  cases h with
  | non => exact ⟨_, .non, T.k1, fun z => Bool.noConfusion z, T.r1⟩
  | bl b => exact ⟨_, .bl b, T.k2, fun _ => same (by decide +kernel), T.r2⟩
  | int i => exact ⟨_, .int i, same (by decide +kernel), fun _ => T.k7, T.r7⟩
  | str s => exact ⟨_, .str s, T.k3, fun z => Bool.noConfusion z, T.r3⟩
  | tup l => exact ⟨_, .tup l, T.k4, fun z => Bool.noConfusion z, T.r4⟩
  | dct => exact ⟨_, .dct, T.k8, fun z => Bool.noConfusion z, T.r8⟩
  | lst l => exact ⟨_, .lst l, T.k5, fun z => Bool.noConfusion z, T.r5⟩
  | rat p => exact ⟨_, .obj _ T.is, T.k6, fun z => Bool.noConfusion z, same (beq_self_eq_true _)⟩
/-! ### promises -/
abbrev spB (C : Addr) (f : D → Bool) : SpD := fun as Q => ∃ d, as = [.val d] ∧ Kn C d ∧ Q (.bl (f d))
section
variable {P : Program} {w : World} {K : PySem.W.Frag} {mg : Str → Option Value} {base : Heap} {C : Addr}
theorem sc_isint : FnScope ["value"] ["value"] (defScope sIsInt) := ⟨rfl, rfl, rfl, by decide +kernel, rfl, by decide +kernel, by decide +kernel⟩
theorem ok_isint {f : Addr} {fd : FuncData} (F : FunS K "is_integer" "is_integer" sIsInt f fd) (T : Txt K mg C) : GnOk P w K mg base 1 f fd ["value"] (lift K (spB C isI)) := by
  refine gn_dl F sc_isint (fun as Q h => by obtain ⟨d, rfl, _⟩ := h; rfl) (fun cdv A outer s H hr hG W as Q h => ?_)
  obtain ⟨d, rfl, kn, q⟩ := h
  obtain ⟨t, ty, h1, h2, _⟩ := kn.ty T
  refine sds_cons (sd_ret (ed_and (ed_callB T.isi (ad_cons (nm 0 (ad_cons (ed_ty T.int (ad_nil (cd_isi ty (.ty _) h1 (kB ?_))))))))))
  have e : isI d = ((isI d || isB d) && !isB d) := by cases d <;> rfl
  rw [e] at q
  cases c : (isI d || isB d) with
  | false =>
    rw [c] at q
    exact q
  | true =>
    rw [c] at q
    show ED _ _ _ _ _
    exact ed_one (ed_not (ed_callB T.isi (ad_cons (nm 0 (ad_cons (ed_ty T.bool (ad_nil (cd_isi ty (.ty _) (h2 c) (kB q)))))))))

/-- is_count: an int from 0 on -/
def isC : D → Bool
  | .int i => decide (0 ≤ i)
  | _ => false
theorem sc_iscount : FnScope ["value"] ["value"] (defScope sIsCount) := ⟨rfl, rfl, rfl, by decide +kernel, rfl, by decide +kernel, by decide +kernel⟩
theorem ok_iscount {f : Addr} {fd : FuncData} (F : FunS K "is_count" "is_count" sIsCount f fd) (T : Txt K mg C) (G : Df P w K mg base "is_integer" 1 1 (spB C isI)) : GnOk P w K mg base 2 f fd ["value"] (lift K (spB C isC)) := by
  refine gn_dl F sc_iscount (fun as Q h => by obtain ⟨d, rfl, _⟩ := h; rfl) (fun cdv A outer s H hr hG W as Q h => ?_)
  obtain ⟨d, rfl, kn, q⟩ := h
  refine sds_cons (sd_ret (ed_and (ed_call G hr hG (ad_cons (nm 0 (ad_nil ⟨d, rfl, kn, kB ?_⟩))))))
  cases kn with
  | int i => exact ed_one (show ED _ _ _ _ _ from ed_cmp (nm 0 (ed_int (od_ge q))))
  | _ => exact q
abbrev spL : SpD := fun as Q => ∃ d l, as = [.val d] ∧ (d = .lst l ∨ d = .tup l) ∧ Q (.bl true)
theorem sc_islist : FnScope ["value"] ["value"] (defScope sIsList) := ⟨rfl, rfl, rfl, by decide +kernel, rfl, by decide +kernel, by decide +kernel⟩
theorem ok_islist {f : Addr} {fd : FuncData} (F : FunS K "is_list" "is_list" sIsList f fd) (T : Txt K mg C) : GnOk P w K mg base 1 f fd ["value"] (lift K spL) := by
  refine gn_dl F sc_islist (fun as Q h => by obtain ⟨d, l, rfl, _⟩ := h; rfl) (fun cdv A outer s H hr hG W as Q h => ?_)
  obtain ⟨d, l, rfl, hd, q⟩ := h
  refine sds_cons (sd_ret (ed_callB T.isi (ad_cons (nm 0 (ad_cons (ed_tup (ad_cons (ed_ty T.list (ad_cons (ed_ty T.tuple (ad_nil ⟨[.ty "list", .ty "tuple"], rfl, by decide, ad_nil ?_⟩)))))))))))
  rcases hd with rfl | rfl
  · exact cd_isi2 (.lst l) (.ty _) (.ty _) T.l1 q
  · exact cd_isi2 (.tup l) (.ty _) (.ty _) T.l2 q
def isN (d : D) : Bool := isI d || isO d
theorem sc_isnumber : FnScope ["value"] ["value"] (defScope sIsNumber) := ⟨rfl, rfl, rfl, by decide +kernel, rfl, by decide +kernel, by decide +kernel⟩
theorem ok_isnumber {f : Addr} {fd : FuncData} (F : FunS K "is_number" "is_number" sIsNumber f fd) (T : Txt K mg C) (G : Df P w K mg base "is_integer" 1 1 (spB C isI)) : GnOk P w K mg base 2 f fd ["value"] (lift K (spB C isN)) := by
  refine gn_dl F sc_isnumber (fun as Q h => by obtain ⟨d, rfl, _⟩ := h; rfl) (fun cdv A outer s H hr hG W as Q h => ?_)
  obtain ⟨d, rfl, kn, q⟩ := h
  obtain ⟨t, ty, _, _, h3⟩ := kn.ty T
  refine sds_cons (sd_ret (ed_or (ed_call G hr hG (ad_cons (nm 0 (ad_nil ⟨d, rfl, kn, kB ?_⟩))))))
  unfold isN at q
  cases c : isI d with
  | true =>
    simp only [c, Bool.true_or] at q
    exact q
  | false =>
    simp only [c, Bool.false_or] at q
    exact ed_one (show ED _ _ _ _ _ from ed_callB T.isi (ad_cons (nm 0 (ad_cons (ed_cls T.mC (ad_nil (cd_isi ty (.cls _) h3 q)))))))
/-! ### Ratio(top, bottom) -/
abbrev sInit : Stmt := rat 0
abbrev spInit : SpI := fun as Q => ∃ t b, as = [.val (.int t), .val (.int b)] ∧ b ≠ 0 ∧ t.natAbs < 2 ^ 8000 ∧ b.natAbs < 2 ^ 8000 ∧ Q (rf (low t b))
theorem sc_init : FnScope ["self", "top", "bottom", "value", "shared"] ["self", "top", "bottom"] (defScope sInit) := ⟨rfl, rfl, rfl, by decide +kernel, rfl, by decide +kernel, by decide +kernel⟩
theorem ok_init {f : Addr} {fd : FuncData} (F : FunS K "__init__" "Ratio.__init__" sInit f fd) (T : Txt K mg C) (G : Df P w K mg base "is_integer" 1 1 (spB C isI)) : GnOk P w K mg base 2 f fd ["self", "top", "bottom"] (liftI K C spInit) := by
  refine init_dl F sc_init (fun as Q h => by obtain ⟨t, b, rfl, _⟩ := h; rfl) (fun cdv A outer s H hr hG W B as Q p dx h => ?_)
  obtain ⟨t, b, rfl, hb, bt, bb, q⟩ := h
  have nd := sc_init.nd
  refine sds_cons (sd_forT (l := [.int t, .int b]) PassesOwn.never rfl (fun _ S' => ∃ v, notInst v = true ∧ S' = [some (.inst C p dx []), some (.val (.int t)), some (.val (.int b)), v, none]) (ed_tup (ad_cons (nm 1 (ad_cons (nm 2 (ad_nil ⟨[.int t, .int b], rfl, by simp, rfl, none, rfl, rfl⟩)))))) ?_ ?_)
  · rintro i d S' hi ⟨v, nv, rfl⟩
    refine gd_name 3 nd rfl ?_
    refine sds_cons (sd_if (td_not (td_val (ed_call G hr hG (ad_cons (nm 3 (ad_nil ⟨d, rfl, ?_, kB ?_⟩)))))))
    · rcases i with _ | _ | i
      · cases hi; exact .int _
      · cases hi; exact .int _
      · simp at hi
    · have e : isI d = true := by
        rcases i with _ | _ | i
        · cases hi; rfl
        · cases hi; rfl
        · simp at hi
      rw [e]
      exact sds_nil (sds_nil ⟨_, rfl, rfl⟩)
  · rintro S' ⟨v, nv, rfl⟩
    refine sds_cons (sd_if (td_cmp (nm 2 (ed_int (od_eqi (kB ?_))))))
    rw [decide_eq_false hb]
    refine sds_nil ?_
    refine sds_cons (sd_set 4 nd rfl (ed_callM T.gcd (ad_cons (nm 1 (ad_cons (nm 2 (ad_nil (cd_gcd ?_))))))))
    refine sds_cons (sd_post (fun S' => S' = [some (.inst C p dx []), some (.val (.int t)), some (.val (.int b)), v, some (.val (.int (gs t b)))]) (sd_if (td_cmp (nm 2 (ed_int (od_lt (kB ?_)))))) ?_)
    · by_cases c : b < 0
      · rw [decide_eq_true c]
        refine sds_cons (sd_set 4 nd rfl (ed_neg (nm 4 ⟨_, rfl, sds_nil ?_⟩)))
        have e : gs t b = -(Nat.gcd t.natAbs b.natAbs : Int) := by unfold gs; rw [if_neg (by omega)]
        rw [e]
        rfl
      · rw [decide_eq_false c]
        refine sds_nil ?_
        have e : gs t b = (Nat.gcd t.natAbs b.natAbs : Int) := by unfold gs; rw [if_pos (by omega)]
        rw [e]
        rfl
    · rintro S' rfl
      have gb := gs_bd (t := t) hb bb
      have g0 := gs_ne (t := t) hb
      refine sds_cons (sd_fld 0 [] T.nu.cl T.nT rfl rfl (by decide) (by simp [notInst]; exact nv) (ed_bin (nm 1 (nm 4 (od_fdiv (cdivg g0 gb (by decide)) ?_)))))
      refine sds_cons (sd_fld 0 _ T.nu.cl T.nB rfl rfl (by simp [putD]) (by simp [notInst]; exact nv) (ed_bin (nm 2 (nm 4 (od_fdiv (cdivg g0 gb (by decide)) ?_)))))
      refine sds_nil ⟨_, rfl, ?_⟩
      have e : putD "_bottom" (D.int (b.fdiv (gs t b))) (putD "_top" (D.int (t.fdiv (gs t b))) []) = rf (low t b) := by
        show (if ("_top" : Str) = "_bottom" then _ else (("_top" : Str), D.int _) :: [(("_bottom" : Str), D.int _)]) = _
        rw [if_neg (by decide +kernel)]
        rfl
      rw [e]
      exact q
end
end K21

set_option Elab.async false
set_option linter.all false
set_option maxRecDepth 100000
set_option maxHeartbeats 2000000
/-! k21: what a Ratio does -/
namespace K21
open PySem L2 DL
theorem lookT (p : Fr) : (rf p).lookup ("_top" : Str) = some (.int p.1) := rfl
theorem lookB (p : Fr) : (rf p).lookup ("_bottom" : Str) = some (.int p.2) := by
  unfold rf
  rw [List.lookup_cons, show (("_bottom" : Str) == ("_top" : Str)) = false by decide +kernel]
  rfl
/-- a Ratio or an int, and the fraction it is -/
inductive Nr (C : Addr) (n : Nat) : D → Fr → Prop
  | rat (p) (h : Bd n p) : Nr C n (Ra C p) p
  | int (i : Int) (h : i.natAbs < 2 ^ n) (h1 : 1 < 2 ^ n) : Nr C n (.int i) (i, 1)
theorem Nr.bd {C : Addr} {n : Nat} {x : D} {p : Fr} (h : Nr C n x p) : Bd n p := by
  cases h with
  | rat p h => exact h
  | int i h h1 => exact ⟨h, h1, Int.one_pos⟩
def addF (p q : Fr) : Fr := low (p.1 * q.2 + q.1 * p.2) (p.2 * q.2)
def subF (p q : Fr) : Fr := low (p.1 * q.2 - q.1 * p.2) (p.2 * q.2)
def mulF (p q : Fr) : Fr := low (p.1 * q.1) (p.2 * q.2)
def overF (p q : Fr) : Fr := low (p.1 * q.2) (p.2 * q.1)
def sgF (p : Fr) : Int := if p.1 > 0 then 1 else if p.1 < 0 then -1 else 0
abbrev sp1 (C : Addr) (f : Fr → D) : SpD := fun as Q => ∃ p, as = [.val (Ra C p)] ∧ Q (f p)
/-- .. of a fraction that is not great -/
abbrev sp1b (C : Addr) (n : Nat) (f : Fr → D) : SpD := fun as Q => ∃ p, as = [.val (Ra C p)] ∧ Bd n p ∧ Q (f p)
abbrev spRat (C : Addr) : SpD := fun as Q => ∃ x p, as = [.val x] ∧ Nr C 3000 x p ∧ Q (Ra C p)
abbrev spOp (C : Addr) (f : Fr → Fr → D) : SpD := fun as Q => ∃ p x q, as = [.val (Ra C p), .val x] ∧ Bd 3000 p ∧ Nr C 3000 x q ∧ Q (f p q)
/-- what a Ratio's method stands on -/
structure Rt (P : Program) (w : World) (K : PySem.W.Frag) (mg : Str → Option Value) (base : Heap) (C : Addr) : Prop where
  T : Txt K mg C
  mk2 : Kl P w K mg base "Ratio" C 2 [] spInit
  mk1 : Kl P w K mg base "Ratio" C 2 [.int 1] spInit
  top : Pr P w K mg base C "top" 1 (sp1 C fun p => .int p.1)
  bot : Pr P w K mg base C "bottom" 1 (sp1 C fun p => .int p.2)
section
variable {P : Program} {w : World} {K : PySem.W.Frag} {mg : Str → Option Value} {base : Heap} {C : Addr}
section
variable {X : Cx} {B : Hp} {S : En} {pos : Pos} {Q : D → Prop} {o : Expr}
/-- o._top, o._bottom -/
theorem fT {p : Fr} (T : Txt X.K X.mg C) (h : ED X B S o fun x => x = Ra C p ∧ Q (.int p.1)) (hb : attributeBase o "_top" X.env (eval o X.env) = eval o X.env := by rfl) : ED X B S (.Attribute o "_top" pos) Q :=
  ed_fld T.nu.cl T.nT (fun σ W H r R c => h σ W H r R fun d v W' H' s ok n ⟨e, q⟩ => c d v W' H' s ok n ⟨rf p, .int p.1, e, lookT p, q⟩) hb
theorem fB {p : Fr} (T : Txt X.K X.mg C) (h : ED X B S o fun x => x = Ra C p ∧ Q (.int p.2)) (hb : attributeBase o "_bottom" X.env (eval o X.env) = eval o X.env := by rfl) : ED X B S (.Attribute o "_bottom" pos) Q :=
  ed_fld T.nu.cl T.nB (fun σ W H r R c => h σ W H r R fun d v W' H' s ok n ⟨e, q⟩ => c d v W' H' s ok n ⟨rf p, .int p.2, e, lookB p, q⟩) hb
/-- o.top, o.bottom -/
theorem pT {p : Fr} (V : Rt X.prog X.w X.K X.mg X.base C) (hr : Room 2 X.A) (hG : X.A.guards = some (gOf X)) (h : ED X B S o fun x => x = Ra C p ∧ Q (.int p.1)) (hb : attributeBase o "top" X.env (eval o X.env) = eval o X.env := by rfl) : ED X B S (.Attribute o "top" pos) Q :=
  ed_prop V.T.nu.cl V.top hr hG (fun σ W H r R c => h σ W H r R fun d v W' H' s ok n ⟨e, q⟩ => c d v W' H' s ok n ⟨rf p, e, p, by rw [e], q⟩) hb
theorem pB {p : Fr} (V : Rt X.prog X.w X.K X.mg X.base C) (hr : Room 2 X.A) (hG : X.A.guards = some (gOf X)) (h : ED X B S o fun x => x = Ra C p ∧ Q (.int p.2)) (hb : attributeBase o "bottom" X.env (eval o X.env) = eval o X.env := by rfl) : ED X B S (.Attribute o "bottom" pos) Q :=
  ed_prop V.T.nu.cl V.bot hr hG (fun σ W H r R c => h σ W H r R fun d v W' H' s ok n ⟨e, q⟩ => c d v W' H' s ok n ⟨rf p, e, p, by rw [e], q⟩) hb
end
theorem sc_top : FnScope ["self"] ["self"] (defScope (rat 1)) := ⟨rfl, rfl, rfl, by decide +kernel, rfl, by decide +kernel, by decide +kernel⟩
theorem ok_top {f : Addr} {fd : FuncData} (F : FunS K "top" "Ratio.top" (rat 1) f fd) (T : Txt K mg C) : GnOk P w K mg base 1 f fd ["self"] (lift K (sp1 C fun p => .int p.1)) := by
  refine gn_dl F sc_top (fun as Q h => by obtain ⟨d, rfl, _⟩ := h; rfl) (fun cdv A outer s H hr hG W as Q h => ?_)
  obtain ⟨p, rfl, q⟩ := h
  exact sds_cons (sd_ret (fT T (nm 0 ⟨rfl, q⟩)))
theorem sc_bot : FnScope ["self"] ["self"] (defScope (rat 2)) := ⟨rfl, rfl, rfl, by decide +kernel, rfl, by decide +kernel, by decide +kernel⟩
theorem ok_bot {f : Addr} {fd : FuncData} (F : FunS K "bottom" "Ratio.bottom" (rat 2) f fd) (T : Txt K mg C) : GnOk P w K mg base 1 f fd ["self"] (lift K (sp1 C fun p => .int p.2)) := by
  refine gn_dl F sc_bot (fun as Q h => by obtain ⟨d, rfl, _⟩ := h; rfl) (fun cdv A outer s H hr hG W as Q h => ?_)
  obtain ⟨p, rfl, q⟩ := h
  exact sds_cons (sd_ret (fB T (nm 0 ⟨rfl, q⟩)))
theorem sc_sign : FnScope ["self"] ["self"] (defScope (rat 3)) := ⟨rfl, rfl, rfl, by decide +kernel, rfl, by decide +kernel, by decide +kernel⟩
theorem ok_sign {f : Addr} {fd : FuncData} (F : FunS K "sign" "Ratio.sign" (rat 3) f fd) (T : Txt K mg C) : GnOk P w K mg base 1 f fd ["self"] (lift K (sp1 C fun p => .int (sgF p))) := by
  refine gn_dl F sc_sign (fun as Q h => by obtain ⟨d, rfl, _⟩ := h; rfl) (fun cdv A outer s H hr hG W as Q h => ?_)
  obtain ⟨p, rfl, q⟩ := h
  refine sds_cons (sd_if (td_cmp (fT T (nm 0 ⟨rfl, ed_int (od_gt (kB ?_))⟩))))
  have q : Q (.int (sgF p)) := q
  unfold sgF at q
  by_cases c : p.1 > 0
  · rw [if_pos c] at q
    rw [decide_eq_true (show 0 < p.1 from c)]
    exact sds_cons (sd_ret (ed_int q))
  · rw [if_neg c] at q
    rw [decide_eq_false (show ¬ 0 < p.1 from c)]
    refine sds_nil (sds_cons (sd_ret (ed_ifx (td_cmp (fT T (nm 0 ⟨rfl, ed_int (od_lt (kB ?_))⟩))))))
    by_cases e : p.1 < 0
    · rw [if_pos e] at q
      rw [decide_eq_true e]
      exact ed_neg (ed_int ⟨_, rfl, q⟩)
    · rw [if_neg e] at q
      rw [decide_eq_false e]
      exact ed_int q
theorem sc_ratof : FnScope ["value"] ["value"] (defScope sRatioOf) := ⟨rfl, rfl, rfl, by decide +kernel, rfl, by decide +kernel, by decide +kernel⟩
theorem ok_ratof {f : Addr} {fd : FuncData} (F : FunS K "ratio_of" "ratio_of" sRatioOf f fd) (V : Rt P w K mg base C) : GnOk P w K mg base 4 f fd ["value"] (lift K (spRat C)) := by
  refine gn_dl F sc_ratof (fun as Q h => by obtain ⟨d, _, rfl, _⟩ := h; rfl) (fun cdv A outer s H hr hG W as Q h => ?_)
  obtain ⟨x, p, rfl, n, q⟩ := h
  have T := V.T
  cases n with
  | rat p h =>
    obtain ⟨t, ty, _, _, h3⟩ := (Kn.rat (C := C) p).ty T
    refine sds_cons (sd_ret (ed_ifx (td_val (ed_callB T.isi (ad_cons (nm 0 (ad_cons (ed_cls T.mC (ad_nil (cd_isi ty (.cls _) h3 (kB ?_)))))))))))
    exact nm 0 q
  | int i h h1 =>
    obtain ⟨t, ty, _, _, h3⟩ := (Kn.int (C := C) i).ty T
    refine sds_cons (sd_ret (ed_ifx (td_val (ed_callB T.isi (ad_cons (nm 0 (ad_cons (ed_cls T.mC (ad_nil (cd_isi ty (.cls _) h3 (kB ?_)))))))))))
    refine ed_make V.mk1 hr hG (ad_cons (nm 0 (ad_nil ⟨i, 1, rfl, by decide, bd_mono h (by decide), bd_mono (m := 1) (by decide) (by decide), ?_⟩)))
    rw [low_one]
    exact q
end
end K21

set_option Elab.async false
set_option linter.all false
set_option maxRecDepth 100000
set_option maxHeartbeats 2000000
/-! k21: the operators, the comparisons, the texts of a Ratio -/
namespace K21
open PySem L2 DL
section
variable {P : Program} {w : World} {K : PySem.W.Frag} {mg : Str → Option Value} {base : Heap} {C : Addr}
theorem mk_ok {n : Nat} {t b : Int} {Q : List (Str × D) → Prop} (hb : b ≠ 0) (h1 : t.natAbs < 2 ^ n) (h2 : b.natAbs < 2 ^ n) (hn : n ≤ 8000) (q : Q (rf (low t b))) : spInit [.val (.int t), .val (.int b)] Q :=
  ⟨t, b, rfl, hb, bd_mono h1 hn, bd_mono h2 hn, q⟩
theorem mul_ne {a b : Int} (h : a ≠ 0) (k : b ≠ 0) : a * b ≠ 0 := Int.mul_ne_zero h k
theorem Bd.ne {n : Nat} {p : Fr} (h : Bd n p) : p.2 ≠ 0 := by have := h.pos; omega
theorem cm {m n : Nat} {a b : Int} (h : a.natAbs < 2 ^ m) (k : b.natAbs < 2 ^ n) (hm : m ≤ 3000 := by decide) (hn : n ≤ 3000 := by decide) : CMulX a b := cmul h k (by omega) (by omega)
theorem sc_add : FnScope ["self", "other", "right", "top"] ["self", "other"] (defScope (rat 5)) := ⟨rfl, rfl, rfl, by decide +kernel, rfl, by decide +kernel, by decide +kernel⟩
theorem ok_add {f : Addr} {fd : FuncData} (F : FunS K "__add__" "Ratio.__add__" (rat 5) f fd) (V : Rt P w K mg base C) (G : Df P w K mg base "ratio_of" 4 1 (spRat C)) : GnOk P w K mg base 5 f fd ["self", "other"] (lift K (spOp C fun p q => Ra C (addF p q))) := by
  refine gn_dl F sc_add (fun as Q h => by obtain ⟨_, _, _, rfl, _⟩ := h; rfl) (fun cdv A outer s H hr hG W as Q h => ?_)
  obtain ⟨p, x, q, rfl, hp, hx, k⟩ := h
  have T := V.T
  have hq := hx.bd
  have r2 := hr.mono (j := 2) (by decide)
  have nd := sc_add.nd
  refine sds_cons (sd_set 2 nd rfl (ed_call G hr hG (ad_cons (nm 1 (ad_nil ⟨x, q, rfl, hx, ?_⟩)))))
  refine sds_cons (sd_set 3 nd rfl (ed_bin (ed_bin (fT T (nm 0 ⟨rfl, pB V r2 hG (nm 2 ⟨rfl, od_mul (cm hp.t hq.b) (ed_bin (pT V r2 hG (nm 2 ⟨rfl, fB T (nm 0 ⟨rfl, od_mul (cm hq.t hp.b) (od_add ?_)⟩)⟩)))⟩)⟩)))))
  refine sds_cons (sd_ret (ed_makeA V.mk2 (hr.mono (by decide)) hG (ad_cons (nm 3 (ad_cons (ed_bin (fB T (nm 0 ⟨rfl, pB V r2 hG (nm 2 ⟨rfl, od_mul (cm hp.b hq.b) (ad_nil (mk_ok (n := 6001) (mul_ne hp.ne hq.ne) (add_bd (mul_bd hp.t hq.b) (mul_bd hq.t hp.b)) (bd_mono (mul_bd hp.b hq.b) (by decide)) (by decide) ?_))⟩)⟩))))))))
  exact k
theorem sc_mul : FnScope ["self", "other", "right"] ["self", "other"] (defScope (rat 9)) := ⟨rfl, rfl, rfl, by decide +kernel, rfl, by decide +kernel, by decide +kernel⟩
theorem ok_mul {f : Addr} {fd : FuncData} (F : FunS K "__mul__" "Ratio.__mul__" (rat 9) f fd) (V : Rt P w K mg base C) (G : Df P w K mg base "ratio_of" 4 1 (spRat C)) : GnOk P w K mg base 5 f fd ["self", "other"] (lift K (spOp C fun p q => Ra C (mulF p q))) := by
  refine gn_dl F sc_mul (fun as Q h => by obtain ⟨_, _, _, rfl, _⟩ := h; rfl) (fun cdv A outer s H hr hG W as Q h => ?_)
  obtain ⟨p, x, q, rfl, hp, hx, k⟩ := h
  have T := V.T
  have hq := hx.bd
  have r2 := hr.mono (j := 2) (by decide)
  have nd := sc_mul.nd
  refine sds_cons (sd_set 2 nd rfl (ed_call G hr hG (ad_cons (nm 1 (ad_nil ⟨x, q, rfl, hx, ?_⟩)))))
  refine sds_cons (sd_ret (ed_makeA V.mk2 (hr.mono (by decide)) hG (ad_cons (ed_bin (fT T (nm 0 ⟨rfl, pT V r2 hG (nm 2 ⟨rfl, od_mul (cm hp.t hq.t) (ad_cons (ed_bin (fB T (nm 0 ⟨rfl, pB V r2 hG (nm 2 ⟨rfl, od_mul (cm hp.b hq.b) (ad_nil (mk_ok (n := 6000) (mul_ne hp.ne hq.ne) (mul_bd hp.t hq.t) (mul_bd hp.b hq.b) (by decide) ?_))⟩)⟩))))⟩)⟩))))))
  exact k
/-! an int on the left -/
abbrev spOver (C : Addr) : SpD := fun as Q => ∃ p x q, as = [.val (Ra C p), .val x] ∧ Bd 3000 p ∧ Nr C 3000 x q ∧ q.1 ≠ 0 ∧ Q (Ra C (overF p q))
theorem sc_radd : FnScope ["self", "other"] ["self", "other"] (defScope (rat 6)) := ⟨rfl, rfl, rfl, by decide +kernel, rfl, by decide +kernel, by decide +kernel⟩
theorem ok_radd {f : Addr} {fd : FuncData} (F : FunS K "__radd__" "Ratio.__radd__" (rat 6) f fd) (V : Rt P w K mg base C) (G : Df P w K mg base "ratio_of" 4 1 (spRat C)) (M : Sm P w K mg base C "__add__" 5 (spOp C fun p q => Ra C (addF p q))) : GnOk P w K mg base 6 f fd ["self", "other"] (lift K (spOp C fun p q => Ra C (addF q p))) := by
  refine gn_dl F sc_radd (fun as Q h => by obtain ⟨_, _, _, rfl, _⟩ := h; rfl) (fun cdv A outer s H hr hG W as Q h => ?_)
  obtain ⟨p, x, q, rfl, hp, hx, k⟩ := h
  exact sds_cons (sd_ret (ed_bin (ed_call G (hr.mono (by decide)) hG (ad_cons (nm 1 (ad_nil ⟨x, q, rfl, hx, nm 0 (od_oo V.T.nu M hr hG ⟨q, _, p, rfl, hx.bd, .rat p hp, k⟩)⟩))))))
theorem sc_rmul : FnScope ["self", "other"] ["self", "other"] (defScope (rat 10)) := ⟨rfl, rfl, rfl, by decide +kernel, rfl, by decide +kernel, by decide +kernel⟩
theorem ok_rmul {f : Addr} {fd : FuncData} (F : FunS K "__rmul__" "Ratio.__rmul__" (rat 10) f fd) (V : Rt P w K mg base C) (G : Df P w K mg base "ratio_of" 4 1 (spRat C)) (M : Sm P w K mg base C "__mul__" 5 (spOp C fun p q => Ra C (mulF p q))) : GnOk P w K mg base 6 f fd ["self", "other"] (lift K (spOp C fun p q => Ra C (mulF q p))) := by
  refine gn_dl F sc_rmul (fun as Q h => by obtain ⟨_, _, _, rfl, _⟩ := h; rfl) (fun cdv A outer s H hr hG W as Q h => ?_)
  obtain ⟨p, x, q, rfl, hp, hx, k⟩ := h
  exact sds_cons (sd_ret (ed_bin (ed_call G (hr.mono (by decide)) hG (ad_cons (nm 1 (ad_nil ⟨x, q, rfl, hx, nm 0 (od_oo V.T.nu M hr hG ⟨q, _, p, rfl, hx.bd, .rat p hp, k⟩)⟩))))))
/-! of one -/
end
end K21

set_option Elab.async false
set_option linter.all false
set_option maxRecDepth 100000
set_option maxHeartbeats 2000000
/-! k21: Ratio.total, ==, the texts, the shares -/
namespace K21
open PySem L2 DL
section
variable {P : Program} {w : World} {K : PySem.W.Frag} {mg : Str → Option Value} {base : Heap} {C : Addr}
/-! == -/
abbrev spEq (C : Addr) : SpD := fun as Q => ∃ p x, as = [.val (Ra C p), .val x] ∧ ((∃ q, x = Ra C q ∧ Q (.bl (decide (p.1 = q.1) && decide (p.2 = q.2)))) ∨ (∃ i, x = .int i ∧ Q (.bl false)))
theorem sc_eq : FnScope ["self", "other"] ["self", "other"] (defScope (rat 17)) := ⟨rfl, rfl, rfl, by decide +kernel, rfl, by decide +kernel, by decide +kernel⟩
theorem ok_eq {f : Addr} {fd : FuncData} (F : FunS K "__eq__" "Ratio.__eq__" (rat 17) f fd) (T : Txt K mg C) : GnOk P w K mg base 1 f fd ["self", "other"] (lift K (spEq C)) := by
  refine gn_dl F sc_eq (fun as Q h => by obtain ⟨_, _, rfl, _⟩ := h; rfl) (fun cdv A outer s H hr hG W as Q h => ?_)
  obtain ⟨p, x, rfl, h⟩ := h
  rcases h with ⟨q, rfl, k⟩ | ⟨i, rfl, k⟩
  · obtain ⟨t, ty, _, _, h3⟩ := (Kn.rat (C := C) q).ty T
    refine sds_cons (sd_ret (ed_and (ed_callB T.isi (ad_cons (nm 1 (ad_cons (ed_cls T.mC (ad_nil (cd_isi ty (.cls _) h3 (kB ?_))))))))))
    show ED _ _ _ _ _
    refine ed_and (ed_cmp (fT T (nm 0 ⟨rfl, fT T (nm 1 ⟨rfl, od_eqi (kB ?_)⟩)⟩)))
    by_cases c : p.1 = q.1
    · rw [decide_eq_true c] at k ⊢
      rw [Bool.true_and] at k
      show ED _ _ _ _ _
      exact ed_one (ed_cmp (fB T (nm 0 ⟨rfl, fB T (nm 1 ⟨rfl, od_eqi k⟩)⟩)))
    · rw [decide_eq_false c] at k ⊢
      exact k
  · obtain ⟨t, ty, _, _, h3⟩ := (Kn.int (C := C) i).ty T
    refine sds_cons (sd_ret (ed_and (ed_callB T.isi (ad_cons (nm 1 (ad_cons (ed_cls T.mC (ad_nil (cd_isi ty (.cls _) h3 (kB ?_))))))))))
    exact k
/-! texts -/
/-! shares -/
end
end K21

set_option Elab.async false
set_option linter.all false
set_option maxRecDepth 100000
set_option maxHeartbeats 4000000
/-! k21: fractions told by rational numbers -/
namespace K21
open PySem L2 DL
def fr (r : Rat) : Fr := (r.num, (r.den : Int))
theorem low_fr {t b : Int} (h : b ≠ 0) : low t b = fr (Rat.divInt t b) := by
  have dt := gs_dvd_t (t := t) (b := b)
  have db := gs_dvd_b (t := t) (b := b)
  have g0 := gs_ne (t := t) h
  obtain ⟨x, y, e⟩ : ∃ x y, low t b = (x, y) := ⟨_, _, rfl⟩
  have hp := low_pos (t := t) h
  have hg := low_gcd (t := t) h
  rw [e] at hp hg
  have ex : t.fdiv (gs t b) = x := congrArg Prod.fst e
  have ey : b.fdiv (gs t b) = y := congrArg Prod.snd e
  have tx : t = gs t b * x := by rw [← ex, Int.fdiv_eq_ediv_of_dvd dt, Int.mul_ediv_cancel' dt]
  have bx : b = gs t b * y := by rw [← ey, Int.fdiv_eq_ediv_of_dvd db, Int.mul_ediv_cancel' db]
  have hy : (y.natAbs : Int) = y := Int.natAbs_of_nonneg (Int.le_of_lt hp)
  have q : Rat.divInt t b = Rat.divInt x y := (Rat.divInt_eq_divInt_iff h (Int.ne_of_gt hp)).mpr (by
    generalize gs t b = k at tx bx
    rw [tx, bx, Int.mul_assoc, Int.mul_comm x (k * y), Int.mul_assoc, Int.mul_comm x y])
  have nz : y.natAbs ≠ 0 := by have : 0 < y := hp; omega
  have r := Rat.mk_eq_divInt (num := x) (den := y.natAbs) (nz := nz) (c := hg)
  rw [hy] at r
  rw [e, q, ← r]
  show (x, y) = (x, (y.natAbs : Int))
  rw [hy]
theorem fr_ne (r : Rat) : (fr r).2 ≠ 0 := by have := r.den_nz; show (r.den : Int) ≠ 0; omega
theorem fr_val (r : Rat) : Rat.divInt (fr r).1 (fr r).2 = r := Rat.num_divInt_den r
theorem addF_fr (r s : Rat) : addF (fr r) (fr s) = fr (r + s) := by
  unfold addF
  rw [low_fr (Int.mul_ne_zero (fr_ne r) (fr_ne s)), ← Rat.divInt_add_divInt _ _ (fr_ne r) (fr_ne s), fr_val, fr_val]
abbrev Bq (n : Nat) (r : Rat) : Prop := Bd n (fr r)
theorem Bq.le {m n : Nat} {r : Rat} (a : Bq m r) (k : m ≤ n) : Bq n r := Bd.mono a k
theorem Bq.int {n : Nat} {i : Int} (h : i.natAbs < 2 ^ n) (h1 : 1 ≤ n) : Bq n (i : Rat) := ⟨h, by show (1 : Int).natAbs < 2 ^ n; exact Nat.lt_of_lt_of_le (by decide : 1 < 2 ^ 1) (Nat.pow_le_pow_right (by decide) h1), by show (0 : Int) < 1; decide⟩
/-- a Ratio or an int that is this number -/
inductive Nq (C : Addr) (n : Nat) : D → Rat → Prop
  | rat (r : Rat) (h : Bq n r) : Nq C n (Ra C (fr r)) r
  | int (i : Int) (h : Bq n (i : Rat)) : Nq C n (.int i) (i : Rat)
section
variable {C : Addr} {n m : Nat} {d : D} {r : Rat}
theorem Nq.b (h : Nq C n d r) : Bq n r := by cases h <;> assumption
theorem Nq.nr (h : Nq C n d r) : Nr C n d (fr r) := by
  cases h with
  | rat r h => exact .rat _ h
  | int i h => exact .int i h.t h.b
theorem Nq.mono (h : Nq C n d r) (k : n ≤ m) : Nq C m d r := by
  cases h with
  | rat r h => exact .rat _ (h.le k)
  | int i h => exact .int i (h.le k)
theorem Nq.kn (h : Nq C n d r) : Kn C d := by
  cases h with
  | rat r h => exact .rat _
  | int i h => exact .int i
theorem Nq.num (h : Nq C n d r) : isN d = true := by cases h <;> rfl
end
/-- numbers, each its own -/
def Nqs (C : Addr) (n : Nat) (l : List D) (rs : List Rat) : Prop := Paired (Nq C n) l rs
end K21

set_option Elab.async false
set_option linter.all false
set_option maxRecDepth 100000
set_option maxHeartbeats 2000000
/-! slices of tuples and texts; methods of texts; x[i] += j; tuple(tuple) -/
namespace DL
open PySem L2 PyProof.Rows
section
variable {X : Cx} {B : Hp} {W0 : Wd} {S : En} {pos p2 px p1 p apos cpos tpos : Pos} {Q : D → Prop} {a b c e e2 o : Expr} {es : List Expr} {E : Ends'} {x : Str}
theorem ed_slTo (h : ED X B S e fun d => ED X B S b fun y => ∃ l, ∃ j : Nat, d = .tup l ∧ y = .int (j : Int) ∧ j ≤ l.length ∧ Q (.tup (l.take j))) : ED X B S (.Subscript e (.Slice none (some b) none p2) pos) Q := fun σ W H r R k => by
  refine PE.w (pe_slice L2.sl_tupA we_pe po_none (po_some we_pe)) ?_
  refine h σ W H r _ fun d v W1 H1 s1 ok1 n1 q1 => ?_
  show WE X b σ H1 _
  refine q1 σ W1 H1 (r.step s1 ok1) _ fun d2 u W2 H2 s2 ok2 n2 q2 => ?_
  obtain ⟨l, j, rfl, rfl, hj, q2⟩ := q2
  cases n2
  have k2 := (k.step s1 ok1).step s2 ok2
  cases n1.mono s2.I with
  | @tup _ a xs ha m =>
    refine ⟨_, rfl, a, xs, rfl, SqT.of (ok2.ex _ _ ha), fun hw => ?_, fun _ p hp => ?_⟩
    · rw [HT.sIx_nat] at hw
      have : l.take j = l := List.take_of_length_le (by have := m.length; have := hw.2; omega)
      rw [this] at q2
      exact k2.now ok2 (.tup ha m) q2
    · have e : cutV xs none (some (j : Int)) = xs.take j := by
        unfold cutV
        rw [HT.sIx_nat, HT.sIx_none, List.drop_zero, Nat.sub_zero, Nat.min_eq_left (by rw [← m.length]; exact hj)]
      rw [e]
      have st := Stp.new (o := .tup (xs.take j)) ok2 hp
      exact k2 (.tup (l.take j)) (.ref p) _ _ st (ok2.new hp) (.tup (show upd W2.I p _ p = _ from upd_same) ((dns_take j m).mono st.I)) q2
/-- s[i:] of a text -/
theorem ed_slS (h : ED X B S e fun d => ED X B S b fun y => ∃ z : List Nat, ∃ j : Nat, d = .str (SX.S z) ∧ y = .int (j : Int) ∧ z.length ≤ 50000 ∧ Q (.str (SX.S (z.drop j)))) : ED X B S (.Subscript e (.Slice (some b) none none p2) pos) Q := fun σ W H r R k => by
  refine PE.w (pe_slice C8.sl_txt we_pe (po_some we_pe) po_none) ?_
  refine h σ W H r _ fun d v W1 H1 s1 ok1 n1 q1 => ?_
  show WE X b σ H1 _
  refine q1 σ W1 H1 (r.step s1 ok1) _ fun d2 u W2 H2 s2 ok2 n2 q2 => ?_
  obtain ⟨z, j, rfl, rfl, hz, q2⟩ := q2
  cases n1
  cases n2
  refine ⟨_, rfl, SX.S z, rfl, Nat.le_trans (by rw [SX.S_len]; exact hz) (by decide), ?_⟩
  rw [SX.slice_from (by omega), Int.toNat_natCast]
  exact ((k.step s1 ok1).step s2 ok2).now ok2 (.str _) q2
/-! methods of texts -/
section
variable {k0 : Nat}
/-- "".join(a list of texts) -/
theorem ed_joinS {s : Str} (h : ED X B S o fun d => d = .str s ∧ ED X B S e fun y => ∃ ys : List Str, y = .lst (ys.map D.str) ∧ (ys.map (·.length)).sum + ys.length * s.length ≤ 16777216 ∧ Q (.str (Txt.join s ys)))
    (hps : PE X (.Call (.Attribute o "join" apos) [e] [] cpos) (tBM X.K "str" (fun x xs H Q => ∃ a p, ∃ ys : List Str, x = .str a ∧ xs = [.ref p] ∧ (SqL X.K H p (ys.map V.str) ∨ SqT X.K H p (ys.map V.str)) ∧
      (ys.map (·.length)).sum + ys.length * a.length ≤ 16777216 ∧ Q (.str (Txt.join a ys)) H) (WE X o) (tCons (WE X e) tNil)) := by
      exact pe_bm PySem.F.plainAttrs_str PySem.F.slot_str_join PySem.F.type_str_join mt_join DL.we_pe (pa_cons DL.we_pe pa_nil)) : ED X B S (.Call (.Attribute o "join" apos) [e] [] cpos) Q := fun σ W H r R k => by
  refine PE.w hps ?_
  refine h σ W H r _ fun d v W1 H1 s1 ok1 n1 q1 => ?_
  obtain ⟨rfl, q1⟩ := q1
  cases n1
  refine ⟨rfl, ?_⟩
  refine q1 σ W1 H1 (r.step s1 ok1) _ fun d2 u W2 H2 s2 ok2 n2 q2 => ?_
  obtain ⟨ys, rfl, hz, q2⟩ := q2
  cases n2 with
  | @lst _ a xs ha m =>
    have e : xs = ys.map V.str := by
      clear hps h q1 q2 hz ha
      induction ys generalizing xs with
      | nil => cases m; rfl
      | cons y ys ih =>
        cases m with
        | cons h1 h2 => cases h1; rw [List.map_cons, ih h2]
    subst e
    exact ⟨s, a, ys, rfl, rfl, .inl (SqL.of (ok2.ex _ _ ha)), hz, ((k.step s1 ok1).step s2 ok2).now ok2 (.str _) q2⟩
end
/-- tuple(a tuple) -/
theorem cd_tupleT {l : List D} (q : Q (.tup l)) : CD X (.type "tuple") [.val (.tup l)] Q := cd_of call_tupleT fun vs W H ok ha R c => by
  obtain ⟨v, rfl, h⟩ := one_arg ha
  cases h with
  | tup h m => exact ⟨_, _, rfl, SqT.of (ok.ex _ _ h), c.now ok (.tup h m) q⟩
/-! x[i] += j, x the owner of its list -/
def rGetL (K : PySem.W.Frag) : V → V → Hp → VK → Prop := fun x y H Q => ∃ p xs, ∃ j : Nat, ∃ v, x = .ref p ∧ y = .int (j : Int) ∧ H p = some (.lst xs) ∧ j < 100000 ∧ xs[j]? = some v ∧ Q v H
end
end DL

set_option Elab.async false
set_option linter.all false
set_option maxRecDepth 100000
set_option maxHeartbeats 2000000
/-! k21: entries: keys of counts, amounts; sorted by the keys -/
namespace K21
open PySem L2 DL
abbrev Ent := List Int × Rat
theorem code_inj {B : Int} : ∀ {a b : List Int}, a.length = b.length → TS.Bd B a → TS.Bd B b → TS.code B a = TS.code B b → a = b
  | [], [], _, _, _, _ => rfl
  | x :: a, y :: b, hl, ha, hb, e => by
    have hl' : a.length = b.length := Nat.succ.inj hl
    have xy : x = y := by
      rcases Int.lt_trichotomy x y with h | h | h
      · have := TS.code_lt hl' ha.tail hb.tail h; omega
      · exact h
      · have := TS.code_lt hl'.symm hb.tail ha.tail h; omega
    subst xy
    have e' : TS.code B a = TS.code B b := by
      have e2 : x * B ^ a.length + TS.code B a = x * B ^ b.length + TS.code B b := e
      rw [hl'] at e2
      omega
    rw [code_inj hl' ha.tail hb.tail e']
theorem le_sum : ∀ {l : List Int}, (∀ c ∈ l, 0 ≤ c) → 0 ≤ l.sum ∧ ∀ c ∈ l, c ≤ l.sum
  | [], _ => ⟨Int.le_refl _, fun c h => by cases h⟩
  | x :: l, h => by
    obtain ⟨h0, h1⟩ := le_sum (l := l) fun c hc => h c (List.mem_cons_of_mem _ hc)
    have hx := h x (List.mem_cons_self ..)
    rw [List.sum_cons]
    refine ⟨by omega, fun c hc => ?_⟩
    rcases List.mem_cons.mp hc with rfl | hc
    · omega
    · have := h1 c hc; omega
/-- keys of m counts that make n, amounts above nought -/
structure GE (m n b : Nat) (es : List Ent) : Prop where
  len : ∀ e ∈ es, e.1.length = m
  nn : ∀ e ∈ es, ∀ c ∈ e.1, 0 ≤ c
  sum : ∀ e ∈ es, e.1.sum = (n : Int)
  pos : ∀ e ∈ es, 0 < e.2
  bq : ∀ e ∈ es, Bq b e.2
  nd : (es.map (·.1)).Nodup
  ln : es.length ≤ 200
theorem GE.nil {m n b : Nat} : GE m n b [] := ⟨nofun, nofun, nofun, nofun, nofun, .nil, by simp⟩
theorem GE.perm {m n b : Nat} {es fs : List Ent} (h : GE m n b es) (p : fs.Perm es) : GE m n b fs :=
  ⟨fun e he => h.len e (p.mem_iff.mp he), fun e he => h.nn e (p.mem_iff.mp he), fun e he => h.sum e (p.mem_iff.mp he), fun e he => h.pos e (p.mem_iff.mp he), fun e he => h.bq e (p.mem_iff.mp he), (p.map _).nodup_iff.mpr h.nd, by rw [p.length_eq]; exact h.ln⟩
theorem GE.cnt {m n b : Nat} {es : List Ent} (h : GE m n b es) {e : Ent} (he : e ∈ es) {c : Int} (hc : c ∈ e.1) : 0 ≤ c ∧ c ≤ n := ⟨h.nn e he c hc, by rw [← h.sum e he]; exact (le_sum (h.nn e he)).2 c hc⟩
theorem GE.bd {m n b : Nat} {es : List Ent} (h : GE m n b es) (hn : n ≤ 8) {e : Ent} (he : e ∈ es) : TS.Bd 9 e.1 := fun c hc => by have := h.cnt he hc; omega
def leE (a b : Ent) : Bool := decide (TS.code 9 a.1 ≤ TS.code 9 b.1)
def srt (es : List Ent) : List Ent := es.mergeSort leE
theorem srt_perm (es : List Ent) : (srt es).Perm es := List.mergeSort_perm _ _
theorem srt_pair (es : List Ent) : (srt es).Pairwise fun a b => TS.code 9 a.1 ≤ TS.code 9 b.1 := by
  have := List.pairwise_mergeSort (le := leE) (fun a b c h1 h2 => by unfold leE at *; simp at *; omega) (fun a b => by unfold leE; simp; omega) es
  exact this.imp fun h => by simpa [leE] using h
theorem nd_inj {es : List Ent} (h : (es.map (·.1)).Nodup) {a b : Ent} (ha : a ∈ es) (hb : b ∈ es) (e : a.1 = b.1) : a = b := by
  induction es with
  | nil => cases ha
  | cons x es ih =>
    rw [List.map_cons, List.nodup_cons] at h
    rcases List.mem_cons.mp ha with ha1 | ha1 <;> rcases List.mem_cons.mp hb with hb1 | hb1
    · rw [ha1, hb1]
    · exact absurd (by rw [← ha1, e]; exact List.mem_map_of_mem hb1) h.1
    · exact absurd (by rw [← hb1, ← e]; exact List.mem_map_of_mem ha1) h.1
    · exact ih h.2 ha1 hb1
theorem uniq {m n b : Nat} {es fs : List Ent} (h : GE m n b es) (hn : n ≤ 8) (p : fs.Perm es) (h1 : fs.Pairwise fun a b => TS.code 9 a.1 ≤ TS.code 9 b.1) (h2 : es.Pairwise fun a b => TS.code 9 a.1 ≤ TS.code 9 b.1) : fs = es :=
  List.Perm.eq_of_pairwise (fun a b ha hb l1 l2 => by
    have ha' := p.mem_iff.mp ha
    exact nd_inj h.nd ha' hb (code_inj (by rw [h.len a ha', h.len b hb]) (h.bd hn ha') (h.bd hn hb) (by omega))) h1 h2 p
theorem srt_eq {m n b : Nat} {es fs : List Ent} (h : GE m n b es) (hn : n ≤ 8) (p : fs.Perm es) (h1 : fs.Pairwise fun a b => TS.code 9 a.1 ≤ TS.code 9 b.1) : fs = srt es :=
  uniq (h.perm (srt_perm es)) hn (p.trans (srt_perm es).symm) h1 (srt_pair es)
theorem srt_congr {m n b : Nat} {es fs : List Ent} (h : GE m n b es) (hn : n ≤ 8) (p : fs.Perm es) : srt fs = srt es := srt_eq h hn ((srt_perm fs).trans p) (srt_pair fs)
theorem srt_srt {m n b : Nat} {es : List Ent} (h : GE m n b es) (hn : n ≤ 8) : srt (srt es) = srt es := srt_congr h hn (srt_perm es)
theorem srt_ge {m n b : Nat} {es : List Ent} (h : GE m n b es) : GE m n b (srt es) := h.perm (srt_perm es)
theorem srt_nil : srt [] = [] := by simp [srt]
/-- the keys, sorted -/
theorem keys_srt {m n b : Nat} {es : List Ent} (h : GE m n b es) (hn : n ≤ 8) {ks : List (List Int)} (p : ks.Perm (es.map (·.1))) (h1 : ks.Pairwise fun a b => TS.code 9 a ≤ TS.code 9 b) : ks = (srt es).map (·.1) := by
  refine List.Perm.eq_of_pairwise (le := fun a b => TS.code 9 a ≤ TS.code 9 b) (fun a b ha hb l1 l2 => ?_) h1 (List.pairwise_map.mpr (srt_pair es)) (p.trans ((srt_perm es).map _).symm)
  obtain ⟨x, hx, rfl⟩ := List.mem_map.mp (p.mem_iff.mp ha)
  obtain ⟨y, hy, rfl⟩ := List.mem_map.mp hb
  have hy' := (srt_perm es).mem_iff.mp hy
  exact code_inj (by rw [h.len x hx, h.len y hy']) (h.bd hn hx) (h.bd hn hy') (by omega)
/-! as dicts, as lists -/
section
variable (C : Addr)
def kvD (es : List Ent) : List (List Key × D) := es.map fun e => (ik e.1, Ra C (fr e.2))
def enD (es : List Ent) : List D := es.map fun e => .tup [tI e.1, Ra C (fr e.2)]
end
section
variable {C : Addr}
theorem ik_inj {a b : List Int} (h : ik a = ik b) : a = b := by
  exact (List.map_inj_right (f := (Sum.inl : Int → Key)) fun x y e => by cases e; rfl).mp h
theorem kvD_keys {es : List Ent} : (kvD C es).map (·.1) = (es.map (·.1)).map ik := by unfold kvD; rw [List.map_map, List.map_map]; rfl
theorem kvD_len {es : List Ent} : (kvD C es).length = es.length := by unfold kvD; rw [List.length_map]
theorem look_kvD {es : List Ent} (h : (es.map (·.1)).Nodup) {e : Ent} (he : e ∈ es) : look (kvD C es) (ik e.1) = some (Ra C (fr e.2)) := by
  induction es with
  | nil => cases he
  | cons x es ih =>
    rw [List.map_cons, List.nodup_cons] at h
    show Option.map _ (List.find? _ ((ik x.1, Ra C (fr x.2)) :: kvD C es)) = _
    by_cases c : ik x.1 = ik e.1
    · rw [List.find?_cons_of_pos (by simpa using c)]
      have c' := ik_inj c
      rcases List.mem_cons.mp he with rfl | he'
      · rfl
      · exact absurd (by rw [c']; exact List.mem_map_of_mem he') h.1
    · rw [List.find?_cons_of_neg (by simpa using c)]
      rcases List.mem_cons.mp he with rfl | he'
      · exact absurd rfl c
      · exact ih h.2 he'
theorem look_no {es : List Ent} {k : List Int} (h : k ∉ es.map (·.1)) : look (kvD C es) (ik k) = none := by
  unfold look
  rw [List.find?_eq_none.mpr]
  · rfl
  · intro p hp
    unfold kvD at hp
    obtain ⟨e, he, rfl⟩ := List.mem_map.mp hp
    simp only [decide_eq_true_eq]
    exact fun z => h (by rw [← ik_inj z]; exact List.mem_map_of_mem he)
theorem put_kvD {es : List Ent} {k : List Int} {r : Rat} (h : k ∉ es.map (·.1)) : putE (kvD C es) (ik k) (Ra C (fr r)) = kvD C (es ++ [(k, r)]) := by
  rw [putE_new]
  · unfold kvD; rw [List.map_append]; rfl
  · rw [kvD_keys]
    intro z
    obtain ⟨x, hx, e⟩ := List.mem_map.mp z
    exact h (by rw [← ik_inj e]; exact hx)
end
/-! the weight of a key -/
def pK : List Int → Nat
  | [] => 1
  | c :: k => fac c.toNat * pK k
def divE (e : Ent) : Ent := (e.1, e.2 / (pK e.1 : Rat))
def mulE (e : Ent) : Ent := (e.1, e.2 * (pK e.1 : Rat))
end K21

set_option Elab.async false
set_option linter.all false
set_option maxRecDepth 100000
set_option maxHeartbeats 2000000
/-! for x, y in zip(a, b) -/
namespace DL
open PySem L2 PyProof.Rows
section
variable {X : Cx} {B : Hp} {W0 : Wd} {S : En} {pos p p1 : Pos} {e e2 : Expr} {E : Ends'}
theorem sd_forZ {elts : List Expr} {kk : Nat} {tpos : Pos} {body : List Stmt} {l l' : List D} (hp : PassesOwn (model X.prog X.w) X.A X.env X.xe) (hc : X.calm = true) (hm : X.mg "zip" = none) (hll : l.length = l'.length) (Inv : Nat → En → Prop)
    (h : AD X B S [e, e2] fun as => ∃ d d', as = [.val d, .val d'] ∧ SeqD d l ∧ SeqD d' l' ∧ Inv 0 S)
    (hs : ∀ (i : Nat) d d' S', l[i]? = some d → l'[i]? = some d' → Inv i S' → GD X B W0 S' (.Tuple elts kk tpos) (.tup [d, d']) fun S2 => SDs X B W0 S2 body { nx := Inv (i + 1), rt := E.rt, bk := E.nx, ct := Inv (i + 1) })
    (hd : ∀ S', Inv l.length S' → E.nx S') (hg : Gl X "zip" := by rfl) (hst : starEach [e, e2] X.env = (false, eval e X.env) :: starEach [e2] X.env := by rfl) (hpl : (backTo p1 (starEach [e2] X.env)).any (·.1) = false := by rfl)
    (hf : ∀ x, foldedSetIterable (.Call (.Name "zip" p) [e, e2] [] p1) X.env x = pure x := by intro _; rfl) :
    SD X B W0 S (.For (.Tuple elts kk tpos) (.Call (.Name "zip" p) [e, e2] [] p1) body [] pos) E := fun σ W H r z D' k => by
  refine PS.w (ps_for hp hc (pi_zm hg hm wa_pa hst hpl) wg_pg wss_pss hf) ?_
  refine h σ W H r _ fun as vs W1 H1 s1 ok1 n1 q1 => ?_
  obtain ⟨d, d', rfl, sd, sd', i0⟩ := q1
  obtain ⟨v, v', rfl, m, m'⟩ := two_args n1
  obtain ⟨t, a, xs, rfl, w, hx⟩ := sd.at m
  obtain ⟨u, b, ys, rfl, w', hy⟩ := sd'.at m'
  have lxy : xs.length = ys.length := by rw [← w.length, ← w'.length, hll]
  refine ⟨t, u, a, b, xs, ys, rfl, hx _ ok1.ex, hy _ ok1.ex, fun i n σ' H' => n = xs.length - i ∧ i ≤ xs.length ∧ ∃ S' W', Rep X.K (gOf X) B S' σ' W' H' ∧ Stp W0 B W' H' ∧ Ex W1.I W'.I ∧ Inv i S', ⟨_, rfl, Nat.zero_le _, S, W1, r.step s1 ok1, z.trans r.ok s1, Ex.refl _, i0⟩, ?_⟩
  rintro i n σ' H' ⟨rfl, lx, S', W', r', z', e', i'⟩
  have qx := hx H' fun c o y => r'.ok.ex _ _ (e' _ _ y)
  have qy := hy H' fun c o y => r'.ok.ex _ _ (e' _ _ y)
  by_cases c : i < xs.length
  · have ex : xs[i]? = some xs[i] := List.getElem?_eq_getElem c
    have ey : ys[i]? = some (ys[i]'(lxy ▸ c)) := List.getElem?_eq_getElem (lxy ▸ c)
    refine .inr ⟨⟨xs, ys, _, _, qx, qy, ex, ey⟩, fun σ2 H2 => ∃ S2 W2, Rep X.K (gOf X) B S2 σ2 W2 H2 ∧ Stp W0 B W2 H2 ∧ Ex W1.I W2.I ∧ Inv (i + 1) S2, fun σ2 H2 y => ⟨xs.length - (i + 1), by omega, rfl, c, y⟩, ?_⟩
    rintro x H2 ⟨T, x1, y1, rfl, hT, rfl, f1, f2⟩
    have e1 := f1 xs qx
    have e2 := f2 ys qy
    obtain ⟨d1, hd1, nd1⟩ := w.get e1
    obtain ⟨d2, hd2, nd2⟩ := w'.get e2
    have st := Stp.new (o := .tup [x1, y1]) r'.ok hT
    have ok2 := r'.ok.new (o := .tup [x1, y1]) hT
    refine hs i d1 d2 S' hd1 hd2 i' σ' _ _ _ (r'.step st ok2) (z'.trans r'.ok st) (.tup (show upd W'.I T _ T = _ from upd_same) (.cons ((nd1.mono e').mono st.I) (.cons ((nd2.mono e').mono st.I) .nil))) _ fun S3 σ3 W3 H3 r3 z3 e3 q3 => ?_
    have e4 := (e'.trans st.I).trans e3
    exact q3 σ3 W3 H3 r3 z3 _ ⟨fun S5 σ5 W5 H5 r5 z5 e5 q5 => ⟨S5, W5, r5, z5, e4.trans e5, q5⟩, fun d5 v5 W5 H5 r5 z5 e5 n5 q5 => k.rt d5 v5 W5 H5 r5 z5 ((s1.I.trans e4).trans e5) n5 q5,
      fun S5 σ5 W5 H5 r5 z5 e5 q5 => k.nx S5 σ5 W5 H5 r5 z5 ((s1.I.trans e4).trans e5) q5, fun S5 σ5 W5 H5 r5 z5 e5 q5 => ⟨S5, W5, r5, z5, e4.trans e5, q5⟩⟩
  · refine .inl ⟨⟨xs, ys, qx, qy, by omega⟩, ?_⟩
    have : i = l.length := by rw [w.length]; omega
    rw [this] at i'
    exact k.nx S' σ' W' H' r' z' (s1.I.trans e') (hd S' i')
end
end DL

set_option Elab.async false
set_option linter.all false
set_option maxRecDepth 100000
set_option maxHeartbeats 4000000
/-! k21: the checks -/
namespace K21
open PySem L2 DL
section
variable {P : Program} {w : World} {K : PySem.W.Frag} {mg : Str → Option Value} {base : Heap} {C : Addr}
theorem un1 {k : Nat} {A : Around} (r : Room k A) : A.units + 1 < cLine := by have := r.units; omega
theorem all_true (n : Nat) : (List.replicate n true).all id = true := by induction n with
  | zero => rfl
  | succ n ih => rw [List.replicate_succ, List.all_cons, ih]; rfl
theorem trues : ∀ {out : List D}, (∀ y ∈ out, y = .bl true) → out = (List.replicate out.length true).map D.bl
  | [], _ => rfl
  | y :: out, h => by
    rw [List.length_cons, List.replicate_succ, List.map_cons, ← trues fun y hy => h y (List.mem_cons_of_mem _ hy), h y (List.mem_cons_self ..)]
theorem cd_allT {X : Cx} {Q : D → Prop} {out : List D} (hc : X.calm = true) (h : ∀ y ∈ out, y = .bl true) (q : Q (.bl true)) : CD X (.builtin "all") [.val (.lst out)] Q := by
  rw [trues h]
  exact cd_all hc (by rw [all_true]; exact q)
theorem paired_true : ∀ {α : Type} {l : List α} {out : List D}, Paired (fun _ y => y = D.bl true) l out → ∀ y ∈ out, y = .bl true
  | _, _, _, .nil, y, h => by cases h
  | _, _, _, .cons a b, y, h => by
    rcases List.mem_cons.mp h with rfl | h
    · exact a
    · exact paired_true b y h
abbrev spCounts : SpD := fun as Q => ∃ d, ∃ k : List Int, ∃ m : Nat, as = [.val d, .val (.int (m : Int))] ∧ SeqD d (k.map D.int) ∧ k.length = m ∧ m ≤ 100 ∧ (∀ c ∈ k, (0 : Int) ≤ c) ∧ Q (.bl true)
theorem sc_counts : FnScope ["value", "many", "count"] ["value", "many"] (defScope (top 6)) := ⟨rfl, rfl, rfl, by decide +kernel, rfl, by decide +kernel, by decide +kernel⟩
theorem ok_counts {f : Addr} {fd : FuncData} (F : FunS K "is_counts" "is_counts" (top 6) f fd) (T : Txt K mg C) (L : Df P w K mg base "is_list" 1 1 spL) (G : Df P w K mg base "is_count" 2 1 (spB C isC)) : GnOk P w K mg base 3 f fd ["value", "many"] (lift K spCounts) := by
  refine gn_dl F sc_counts (fun as Q h => by obtain ⟨_, _, _, rfl, _⟩ := h; rfl) (fun cdv A outer s H hr hG W as Q h => ?_)
  obtain ⟨d, k, m, rfl, sd, hl, hm, nn, q⟩ := h
  have nd := sc_counts.nd
  refine sds_cons (sd_ret (ed_and (ed_call L (hr.mono (j := 1) (by decide)) hG (ad_cons (nm 0 (ad_nil ⟨d, _, rfl, sd, kB ?_⟩))))))
  show ED _ _ _ _ _
  refine ed_and (ed_cmp (ed_callB T.len (ad_cons (nm 0 (ad_nil (cd_len sd (nm 1 (od_eqi (kB ?_)))))))))
  rw [decide_eq_true (by rw [List.length_map, hl])]
  show ED _ _ _ _ _
  refine ed_one (ed_callB T.all (ad_cons (ed_fd (fd_relS (fun _ y => y = .bl true) 2 (own := [("count", 2)]) rfl nd (blkOk_by (by show blkC ["value", "many", "count"] (defScope (top 6)) _ _ = true; decide +kernel)) (fun _ _ _ _ _ => pg_name (i := 2) nd rfl (Or.inl rfl)) sd (by rw [List.length_map]; omega) (nm 0 rfl) (by simp) ?_ ?_))))
  · intro d hd s2 H0 C2 cl fp
    obtain ⟨c, hc, rfl⟩ := List.mem_map.mp hd
    exact ed_call G (hr.mono (j := 2) (by decide)) hG (ad_cons (nm 2 (ad_nil ⟨_, rfl, .int c, by show D.bl (decide (0 ≤ c)) = _; rw [decide_eq_true (nn c hc)]⟩)))
  · intro out ho
    exact ad_nil (cd_allT rfl (paired_true ho) q)
/-! a number above nought -/
theorem num_pos {r : Rat} (h : 0 < r) : 0 < (fr r).1 := by
  have h1 : 0 ≤ r.num := Rat.num_nonneg.mpr (Rat.le_of_lt h)
  have h2 : r.num ≠ 0 := fun z => by rw [Rat.num_eq_zero.mp z] at h; exact absurd h (by decide)
  show 0 < r.num
  omega
theorem sg_pos {r : Rat} (h : 0 < r) : sgF (fr r) = 1 := by unfold sgF; rw [if_pos (num_pos h)]
theorem pS {X : Cx} {B : Hp} {S : En} {pos : Pos} {Q : D → Prop} {o : Expr} {p : Fr} (T : Txt X.K X.mg C) (G : Pr X.prog X.w X.K X.mg X.base C "sign" 1 (sp1 C fun p => .int (sgF p))) (hr : Room 2 X.A) (hG : X.A.guards = some (gOf X)) (h : ED X B S o fun x => x = Ra C p ∧ Q (.int (sgF p))) (hb : attributeBase o "sign" X.env (eval o X.env) = eval o X.env := by rfl) : ED X B S (.Attribute o "sign" pos) Q :=
  ed_prop T.nu.cl G hr hG (fun σ W H r R c => h σ W H r R fun d v W' H' s ok n ⟨e, q⟩ => c d v W' H' s ok n ⟨rf p, e, p, by rw [e], q⟩) hb
abbrev spAbove (C : Addr) : SpD := fun as Q => ∃ d r, as = [.val d] ∧ Nq C 1000 d r ∧ 0 < r ∧ Q (.bl true)
theorem sc_above : FnScope ["value"] ["value"] (defScope (top 23)) := ⟨rfl, rfl, rfl, by decide +kernel, rfl, by decide +kernel, by decide +kernel⟩
theorem ok_above {f : Addr} {fd : FuncData} (F : FunS K "is_above" "is_above" (top 23) f fd) (T : Txt K mg C) (G : Df P w K mg base "is_number" 2 1 (spB C isN)) (R : Df P w K mg base "ratio_of" 4 1 (spRat C)) (SG : Pr P w K mg base C "sign" 1 (sp1 C fun p => .int (sgF p))) : GnOk P w K mg base 5 f fd ["value"] (lift K (spAbove C)) := by
  refine gn_dl F sc_above (fun as Q h => by obtain ⟨_, _, rfl, _⟩ := h; rfl) (fun cdv A outer s H hr hG W as Q h => ?_)
  obtain ⟨d, r, rfl, hd, h0, q⟩ := h
  refine sds_cons (sd_ret (ed_and (ed_call G (hr.mono (j := 2) (by decide)) hG (ad_cons (nm 0 (ad_nil ⟨d, rfl, hd.kn, kB ?_⟩))))))
  rw [hd.num]
  show ED _ _ _ _ _
  refine ed_one (ed_cmp (pS T SG (hr.mono (j := 2) (by decide)) hG (ed_call R (hr.mono (j := 4) (by decide)) hG (ad_cons (nm 0 (ad_nil ⟨d, _, rfl, (hd.mono (by decide)).nr, rfl, ed_int (od_gt ?_)⟩))))))
  rw [sg_pos h0]
  exact q
/-! letters -/
structure LetZ (z : List Nat) : Prop where
  l1 : 1 ≤ z.length
  l8 : z.length ≤ 8
  lo : ∀ c ∈ z, 97 ≤ c ∧ c ≤ 122
  up : z.Pairwise (· < ·)
theorem LetZ.asc {z : List Nat} (h : LetZ z) : (SX.S z).cps.all (· < 128) = true := by
  rw [Array.all_eq_true_iff_forall_mem]
  intro c hc
  have := h.lo c (by simpa using hc)
  simp only [decide_eq_true_eq]
  omega
theorem lt1 {c d : Nat} : ((SX.S [c]).cps.toList < (SX.S [d]).cps.toList) ↔ c < d := by
  show [c] < [d] ↔ _
  rw [List.cons_lt_cons_iff]
  constructor
  · rintro (h | ⟨_, h⟩)
    · exact h
    · exact absurd h (List.lt_irrefl _)
  · exact .inl
abbrev spSmall : SpD := fun as Q => ∃ c : Nat, as = [.val (.str (sg c))] ∧ 97 ≤ c ∧ c ≤ 122 ∧ Q (.bl true)
theorem sc_small : FnScope ["value"] ["value"] (defScope (top 7)) := ⟨rfl, rfl, rfl, by decide +kernel, rfl, by decide +kernel, by decide +kernel⟩
theorem ok_small {f : Addr} {fd : FuncData} (F : FunS K "is_small_letter" "is_small_letter" (top 7) f fd) (T : Txt K mg C) : GnOk P w K mg base 1 f fd ["value"] (lift K spSmall) := by
  refine gn_dl F sc_small (fun as Q h => by obtain ⟨_, rfl, _⟩ := h; rfl) (fun cdv A outer s H hr hG W as Q h => ?_)
  obtain ⟨c, rfl, h1, h2, q⟩ := h
  refine sds_cons (sd_ret (ed_and (ed_callB T.isi (ad_cons (nm 0 (ad_cons (ed_ty T.str (ad_nil (cd_isi (.str _) (.ty _) (same (by decide +kernel)) (kB ?_))))))))))
  show ED _ _ _ _ _
  refine ed_and (ed_cmp (ed_callB T.len (ad_cons (nm 0 (ad_nil (cd_lenS (z := sg c) (by show 1 ≤ 50000; decide) (ed_int (od_eqi (kB ?_)))))))))
  show ED _ _ _ _ _
  refine ed_one (ed_chain (ed_str (nm 0 (od_leS (kB ?_)))))
  rw [decide_eq_false (fun z => by have := (lt1 (c := c) (d := 97)).mp z; omega)]
  show ED _ _ _ _ _
  refine ed_str (od_leS ?_)
  rw [decide_eq_false (fun z => by have := (lt1 (c := 122) (d := c)).mp z; omega)]
  exact q
abbrev spRising : SpD := fun as Q => ∃ z : List Nat, as = [.val (.str (SX.S z))] ∧ LetZ z ∧ Q (.bl true)
theorem sc_rising : FnScope ["parts", "one", "two"] ["parts"] (defScope (top 8)) := ⟨rfl, rfl, rfl, by decide +kernel, rfl, by decide +kernel, by decide +kernel⟩
theorem ok_rising {f : Addr} {fd : FuncData} (F : FunS K "is_rising" "is_rising" (top 8) f fd) (T : Txt K mg C) : GnOk P w K mg base 1 f fd ["parts"] (lift K spRising) := by
  refine gn_dl F sc_rising (fun as Q h => by obtain ⟨_, rfl, _⟩ := h; rfl) (fun cdv A outer s H hr hG W as Q h => ?_)
  obtain ⟨z, rfl, hz, q⟩ := h
  have nd := sc_rising.nd
  have a2 : (SX.S (z.drop 1)).cps.all (· < 128) = true := by
    rw [Array.all_eq_true_iff_forall_mem]
    intro c hc
    have := hz.lo c (List.mem_of_mem_drop (i := 1) (by rw [List.mem_toArray] at hc; exact hc))
    simp only [decide_eq_true_eq]
    omega
  refine sds_cons (sd_ret (ed_callB T.all (ad_cons (ed_fd (fd_relCC (s := SX.S z) (t := SX.S (z.drop 1)) (fun _ _ y => y = .bl true) 1 2 (own := [("one", 1), ("two", 2)]) rfl nd T.zip (blkOk_by (by show blkC ["parts", "one", "two"] (defScope (top 8)) _ _ = true; decide +kernel)) (fun _ _ _ _ _ => pg_tup rfl (pgs_cons (pg_name (i := 1) nd rfl (Or.inl rfl)) (pgs_cons (pg_name (i := 2) nd rfl (Or.inl rfl)) pgs_nil rfl) rfl)) hz.asc a2 (by have := hz.l8; simp; omega) ?_ (by simp) (by simp) ?_ ?_)))))
  · exact ad_cons (nm 0 (ad_cons (ed_slS (nm 0 (ed_int ⟨z, 1, rfl, rfl, by have := hz.l8; omega, ad_nil rfl⟩)))))
  · intro n c d hc hd s2 H0 C2 cl fp
    have e1 : z[n]? = some c := by simpa using hc
    have e2 : z[n + 1]? = some d := by
      have : (z.drop 1)[n]? = some d := by simpa using hd
      rw [List.getElem?_drop, Nat.add_comm] at this
      exact this
    have lt : c < d := by
      obtain ⟨h1, rfl⟩ := List.getElem?_eq_some_iff.mp e1
      obtain ⟨h2, rfl⟩ := List.getElem?_eq_some_iff.mp e2
      exact List.pairwise_iff_getElem.mp hz.up n (n + 1) h1 h2 (by omega)
    refine ed_cmp (nm 1 (nm 2 (od_ltS ?_)))
    rw [decide_eq_true (lt1.mpr lt)]
  · intro out hl ho
    refine ad_nil (cd_allT rfl (fun y hy => ?_) q)
    obtain ⟨n, hn, rfl⟩ := List.getElem_of_mem hy
    have l1 : n < (SX.S z).cps.size := by omega
    have l2 : n < (SX.S (z.drop 1)).cps.size := by omega
    exact ho n _ _ _ (Array.getElem?_eq_getElem l1) (Array.getElem?_eq_getElem l2) (List.getElem?_eq_getElem hn)
abbrev spLet : SpD := fun as Q => ∃ z : List Nat, as = [.val (.str (SX.S z))] ∧ LetZ z ∧ Q (.bl true)
theorem sc_let : FnScope ["value", "letter"] ["value"] (defScope (top 30)) := ⟨rfl, rfl, rfl, by decide +kernel, rfl, by decide +kernel, by decide +kernel⟩
theorem ok_let {f : Addr} {fd : FuncData} (F : FunS K "is_letters" "is_letters" (top 30) f fd) (T : Txt K mg C) {tk : Tok} (ml : mg "MOST_LETTERS" = some (.int 8 tk)) (RI : Df P w K mg base "is_rising" 1 1 spRising) (SM : Df P w K mg base "is_small_letter" 1 1 spSmall) : GnOk P w K mg base 2 f fd ["value"] (lift K spLet) := by
  refine gn_dl F sc_let (fun as Q h => by obtain ⟨_, rfl, _⟩ := h; rfl) (fun cdv A outer s H hr hG W as Q h => ?_)
  obtain ⟨z, rfl, hz, q⟩ := h
  have nd := sc_let.nd
  have hl : ((SX.S z).length : Int) = (z.length : Int) := by rw [SX.S_len]
  refine sds_cons (sd_if (td_of (tw_or (td_not (td_val (ed_callB T.isi (ad_cons (nm 0 (ad_cons (ed_ty T.str (ad_nil (cd_isi (.str _) (.ty _) (same (by decide +kernel)) (kB ?_)))))))))))))
  show TW _ _ _ _ _
  refine tw_or1 (td_not (td_chain (ed_int (ed_callB T.len (ad_cons (nm 0 (ad_nil (cd_lenS (z := SX.S z) (by rw [SX.S_len]; have := hz.l8; omega) (od_le (kB ?_))))))))))
  rw [hl, decide_eq_true (by have := hz.l1; omega)]
  show ED _ _ _ _ _
  refine ed_gint ml (od_le (kB ?_))
  rw [decide_eq_true (by have := hz.l8; omega)]
  show SDs _ _ _ _ _ _
  refine sds_nil (sds_cons (sd_ret (ed_and (ed_call RI (hr.mono (j := 1) (by decide)) hG (ad_cons (nm 0 (ad_nil ⟨z, rfl, hz, kB ?_⟩)))))))
  show ED _ _ _ _ _
  refine ed_one (ed_callB T.all (ad_cons (ed_fd (fd_relC (s := SX.S z) (fun _ y => y = .bl true) 1 (own := [("letter", 1)]) rfl nd (blkOk_by (by show blkC ["value", "letter"] (defScope (top 30)) _ _ = true; decide +kernel)) (fun _ _ _ _ _ => pg_name (i := 1) nd rfl (Or.inl rfl)) (by have := hz.l8; simp; omega) (nm 0 rfl) (by simp) ?_ ?_))))
  · intro i c hc s2 H0 C2 cl fp
    have hc' : z[i]? = some c := by simpa using hc
    have := hz.lo c (List.mem_of_getElem? hc')
    exact ed_call SM (hr.mono (j := 1) (by decide)) hG (ad_cons (nm 1 (ad_nil ⟨c, rfl, this.1, this.2, rfl⟩)))
  · intro out ho
    exact ad_nil (cd_allT rfl (paired_true ho) q)
/-! one entry -/
abbrev spEntry (C : Addr) : SpD := fun as Q => ∃ kd, ∃ k : List Int, ∃ ad r, ∃ m : Nat, ∃ dg, as = [.val (.tup [kd, ad]), .val (.int (m : Int)), .val dg] ∧ SeqD kd (k.map D.int) ∧ k.length = m ∧ m ≤ 100 ∧ (∀ c ∈ k, (0 : Int) ≤ c) ∧ k.sum ≤ 8 ∧ Nq C 1000 ad r ∧ 0 < r ∧ (dg = .non ∨ dg = .int k.sum) ∧ Q (.bl true)
theorem cd_sumS {X : Cx} {Q : D → Prop} {d : D} {l : List Int} (hc : X.calm = true) (sd : SeqD d (l.map D.int)) (q : Q (.int l.sum)) : CD X (.builtin "sum") [.val d] Q := by
  rcases sd with rfl | rfl
  · exact cd_sumL hc q
  · exact cd_sumT hc q
theorem sc_entry : FnScope ["entry", "many", "degree", "counts", "amount"] ["entry", "many", "degree"] (defScope (top 32)) := ⟨rfl, rfl, rfl, by decide +kernel, rfl, by decide +kernel, by decide +kernel⟩
theorem ok_entry {f : Addr} {fd : FuncData} (F : FunS K "_is_entry" "_is_entry" (top 32) f fd) (T : Txt K mg C) (hsum : mg "sum" = none) {tk : Tok} (md : mg "MOST_DEGREE" = some (.int 8 tk)) (CO : Df P w K mg base "is_counts" 3 2 spCounts) (AB : Df P w K mg base "is_above" 5 1 (spAbove C)) : GnOk P w K mg base 6 f fd ["entry", "many", "degree"] (lift K (spEntry C)) := by
  refine gn_dl F sc_entry (fun as Q h => by obtain ⟨_, _, _, _, _, _, rfl, _⟩ := h; rfl) (fun cdv A outer s H hr hG W as Q h => ?_)
  obtain ⟨kd, k, ad, r, m, dg, rfl, sd, hl, hm, nn, h8, na, h0, hdg, q⟩ := h
  have nd := sc_entry.nd
  refine sds_cons (sd_if (td_of (tw_or (td_not (td_val (ed_callB T.isi (ad_cons (nm 0 (ad_cons (ed_ty T.tuple (ad_nil (cd_isi (.tup _) (.ty _) (same (by decide +kernel)) (kB ?_)))))))))))))
  show TW _ _ _ _ _
  refine tw_or1 (td_cmp (ed_callB T.len (ad_cons (nm 0 (ad_nil (cd_len (.inr rfl) (ed_int (od_nei (kB ?_)))))))))
  show SDs _ _ _ _ _ _
  refine sds_nil (sds_cons (sd_asg (nm 0 (gd_tup rfl (gds_cons (gd_name 3 nd rfl (gds_cons (gd_name 4 nd rfl (gds_nil ?_))))) rfl))))
  refine sds_cons (sd_if (td_of (tw_or (td_not (td_val (ed_call CO (hr.mono (j := 3) (by decide)) hG (ad_cons (nm 3 (ad_cons (nm 1 (ad_nil ⟨kd, k, m, rfl, sd, hl, hm, nn, kB ?_⟩)))))))))))
  show TW _ _ _ _ _
  refine tw_or1 (td_cmp (ed_callB hsum (ad_cons (nm 3 (ad_nil (cd_sumS rfl sd (ed_gint md (od_gt (kB ?_)))))))))
  rw [decide_eq_false (by omega)]
  show SDs _ _ _ _ _ _
  refine sds_nil (sds_cons (sd_ret (ed_and (ed_call AB (hr.mono (j := 5) (by decide)) hG (ad_cons (nm 4 (ad_nil ⟨ad, r, rfl, na, h0, kB ?_⟩)))))))
  show ED _ _ _ _ _
  refine ed_one (ed_or (ed_cmp (nm 2 (ed_non (od_isN (kB ?_))))))
  rcases hdg with rfl | rfl
  · exact q
  · show ED _ _ _ _ _
    refine ed_one (ed_cmp (ed_callB hsum (ad_cons (nm 3 (ad_nil (cd_sumS rfl sd (nm 2 (od_eqi ?_))))))))
    rw [decide_eq_true rfl]
    exact q
end
end K21

set_option Elab.async false
set_option linter.all false
set_option maxRecDepth 100000
set_option maxHeartbeats 4000000
/-! k21: what is reckoned with entries -/
namespace K21
open PySem L2 DL
section
variable {P : Program} {w : World} {K : PySem.W.Frag} {mg : Str → Option Value} {base : Heap} {C CB : Addr}
/-- what stands under the blends -/
structure Lv (P : Program) (w : World) (K : PySem.W.Frag) (mg : Str → Option Value) (base : Heap) (C : Addr) : Prop where
  V : Rt P w K mg base C
  ratof : Df P w K mg base "ratio_of" 4 1 (spRat C)
  mul : Sm P w K mg base C "__mul__" 5 (spOp C fun p q => Ra C (mulF p q))
  rmul : Sm P w K mg base C "__rmul__" 6 (spOp C fun p q => Ra C (mulF q p))
  eq : Sm P w K mg base C "__eq__" 1 (spEq C)
  add : Sm P w K mg base C "__add__" 5 (spOp C fun p q => Ra C (addF p q))
  radd : Sm P w K mg base C "__radd__" 6 (spOp C fun p q => Ra C (addF q p))
  sign : Pr P w K mg base C "sign" 1 (sp1 C fun p => .int (sgF p))
  lm : ∃ r, PySem.W.findIn K (.type "int") "__rmul__" = some r
  la : ∃ r, PySem.W.findIn K (.type "int") "__radd__" = some r
section
variable {X : Cx} {Q : D → Prop} {y : D} {r s : Rat}
theorem od_addQ (L : Lv X.prog X.w X.K X.mg X.base C) (hr : Room 6 X.A) (hG : X.A.guards = some (gOf X)) (hx : Bq 3000 r) (hy : Nq C 3000 y s) (k : Q (Ra C (fr (r + s)))) : OD X (binaryOp .Add) (Ra C (fr r)) y Q := by
  have r5 := hr.mono (j := 5) (by decide)
  rw [← addF_fr] at k
  cases hy with
  | rat s h => exact od_oo (op := .Add) L.V.T.nu L.add r5 hG ⟨_, _, _, rfl, hx, .rat _ h, k⟩
  | int i h => exact od_oi (op := .Add) L.V.T.nu L.add L.radd r5 hG ⟨_, _, _, rfl, hx, .int i h.t h.b, k⟩ PySem.F.fills_int_add L.la
/-- two fractions that are the same -/
theorem eqR_Ra (L : Lv X.prog X.w X.K X.mg X.base C) (r : Rat) : EqR X 1 (Ra C (fr r)) (Ra C (fr r)) :=
  (rcR_ins L.V.T.nu L.eq ⟨_, _, rfl, .inl ⟨_, rfl, by rw [decide_eq_true rfl, decide_eq_true rfl]; rfl⟩⟩).eq rfl rfl
end
structure Tb (K : PySem.W.Frag) (mg : Str → Option Value) (C CB : Addr) : Prop where
  T : Txt K mg C
  nu : Num K CB
  is : Isi K CB
  nL : NoAttr K CB "_letters"
  nD : NoAttr K CB "_degree"
  nA : NoAttr K CB "_amounts"
  ne : PySem.W.findIn K (.ref CB) "__ne__" = some (some (.builtin "object.__ne__"))
  mB : mg "Blend" = some (.ref CB)
  enum : mg "enumerate" = none
  sorted : mg "sorted" = none
  sum : mg "sum" = none
  min : mg "min" = none
  dict : mg "dict" = none
  ml : ∃ tk, mg "MOST_LETTERS" = some (.int 8 tk)
  md : ∃ tk, mg "MOST_DEGREE" = some (.int 8 tk)
  me : ∃ tk, mg "MOST_ENTRIES" = some (.int 300 tk)
/-! gathered -/
abbrev spGath (C : Addr) : SpD := fun as Q => ∃ es : List Ent, as = [Sl.val (.lst (enD C es))] ∧ (es.map (·.1)).Nodup ∧ es.length ≤ 40000 ∧ Q (.lst (enD C es))
theorem enD_len {es : List Ent} : (enD C es).length = es.length := by unfold enD; rw [List.length_map]
theorem enD_app {a b : List Ent} : enD C (a ++ b) = enD C a ++ enD C b := by unfold enD; rw [List.map_append]
theorem enD_get {es : List Ent} {i : Nat} {d : D} (h : (enD C es)[i]? = some d) : ∃ e, es[i]? = some e ∧ d = .tup [tI e.1, Ra C (fr e.2)] := by
  unfold enD at h
  rw [List.getElem?_map] at h
  cases e : es[i]? with
  | none => rw [e] at h; cases h
  | some x => rw [e] at h; cases h; exact ⟨x, rfl, rfl⟩
theorem enD_snoc {es : List Ent} {i : Nat} {e : Ent} (h : es[i]? = some e) : enD C (es.take (i + 1)) = enD C (es.take i) ++ [.tup [tI e.1, Ra C (fr e.2)]] := by
  rw [List.take_add_one, h]
  unfold enD
  rw [List.map_append]
  rfl
theorem fresh {es : List Ent} {i : Nat} {e : Ent} (nd : (es.map (·.1)).Nodup) (h : es[i]? = some e) : e.1 ∉ (es.take i).map (·.1) := by
  intro z
  have s : es.take (i + 1) = es.take i ++ [e] := by rw [List.take_add_one, h]; rfl
  have n2 : ((es.take (i + 1)).map (·.1)).Nodup := nd.sublist ((List.take_sublist _ _).map _)
  rw [s, List.map_append, List.nodup_append] at n2
  exact n2.2.2 _ z _ (by simp) rfl
theorem sc_gath : FnScope ["pairs", "amounts", "counts", "amount"] ["pairs"] (defScope (top 31)) := ⟨rfl, rfl, rfl, by decide +kernel, rfl, by decide +kernel, by decide +kernel⟩
/-! all products -/
def plus (a b : List Int) : List Int := List.zipWith (· + ·) a b
def prods (es fs : List Ent) : List Ent := es.flatMap fun e => fs.map fun f => (plus e.1 f.1, e.2 * f.2)
abbrev spProds (C : Addr) : SpD := fun as Q => ∃ es fs : List Ent, ∃ m : Nat, as = [.val (.lst (enD C es)), .val (.lst (enD C fs))] ∧ (∀ e ∈ es, e.1.length = m) ∧ (∀ e ∈ fs, e.1.length = m) ∧ m ≤ 100 ∧ (∀ e ∈ es, Bq 1000 e.2) ∧ (∀ e ∈ fs, Bq 1000 e.2) ∧ es.length ≤ 60 ∧ fs.length ≤ 60 ∧ Q (.lst (enD C (prods es fs)))
abbrev NPr : List Str := ["entries", "others", "pairs", "counts", "amount", "more", "factor", "both", "one", "two"]
end
end K21

set_option Elab.async false
set_option linter.all false
set_option maxRecDepth 100000
set_option maxHeartbeats 2000000
/-! the empty tuple that a def has as a default: known by its address -/
namespace DL
open PySem L2 PyProof.Rows
def EmpT (K : PySem.W.Frag) (a : Addr) : Prop := ∃ (o : Obj) (n : Nat), K.lookup a = some o ∧ o.cls = .type "tuple" ∧ o.data = .seq #[] n
theorem EmpT.sq {K : PySem.W.Frag} {a : Addr} (h : EmpT K a) (H : Hp) : SqT K H a [] := by
  obtain ⟨o, n, e, c, d⟩ := h
  exact .inr ⟨o, #[], n, e, c, d, by decide, .nil⟩
section
variable {X : Cx} {B : Hp} {W0 : Wd} {S : En} {pos p p1 : Pos} {Q : D → Prop} {e : Expr} {E : Ends'}
theorem cd_isiK {a : Addr} {c c' : D} {u u' : Value} {k : Bool} (em : EmpT X.K a) (hc : ClD c u) (hc' : ClD c' u') (hk : PySem.W.kitAny X.K (.type "tuple") [u, u'] = some k) (q : Q (.bl k)) : CD X (.builtin "isinstance") [.val (.cls a), .val (.tup [c, c'])] Q := cd_of call_isiT fun vs W H ok ha R cc => by
  obtain ⟨v, w, rfl, h, h'⟩ := two_args ha
  obtain ⟨o, n, e, ec, ed⟩ := em
  cases h
  cases h' with
  | tup hp m =>
    cases m with
    | cons h1 m => cases m with
      | cons h2 m =>
        cases m
        exact ⟨_, _, _, .type "tuple", [u, u'], k, rfl, ok.ex _ _ hp, .cons (hc.v h1) (.cons (hc'.v h2) .nil), .kTuple e ec, hk, cc.now ok (.bl k) q⟩
theorem sd_forEnK {a : Addr} {elts : List Expr} {kk : Nat} {tpos : Pos} {body : List Stmt} (em : EmpT X.K a) (hp : PassesOwn (model X.prog X.w) X.A X.env X.xe) (hc : X.calm = true) (hm : X.mg "enumerate" = none) (h : AD X B S [e] fun as => as = [.val (.cls a)] ∧ E.nx S) (hg : Gl X "enumerate" := by rfl) (hs : starEach [e] X.env = [(false, eval e X.env)] := by rfl)
    (hf : ∀ x, foldedSetIterable (.Call (.Name "enumerate" p) [e] [] p1) X.env x = pure x := by intro _; rfl) : SD X B W0 S (.For (.Tuple elts kk tpos) (.Call (.Name "enumerate" p) [e] [] p1) body [] pos) E := fun σ W H r z D' k => by
  refine PS.w (ps_for hp hc (pi_en hg hm wa_pa hs) wg_pg wss_pss hf) ?_
  refine h σ W H r _ fun as vs W1 H1 s1 ok1 n1 q1 => ?_
  obtain ⟨rfl, q⟩ := q1
  obtain ⟨v, rfl, m⟩ := one_arg n1
  cases m
  refine ⟨a, rfl, em.sq H1, fun i m σ' H' => i = 0 ∧ σ' = σ ∧ H' = H1, ⟨0, rfl, rfl, rfl⟩, ?_⟩
  rintro i m σ' H' ⟨rfl, rfl, rfl⟩
  exact .inl ⟨⟨rfl, em.sq H'⟩, k.nx S σ' W1 H' (r.step s1 ok1) (z.trans r.ok s1) s1.I q⟩
end
end DL

set_option Elab.async false
set_option linter.all false
set_option maxRecDepth 100000
set_option maxHeartbeats 2000000
/-! name = [elt for x in a text]; texts that are the same -/
namespace DL
open PySem L2 PyProof.Rows
section
variable {X : Cx} {B : Hp} {S : En} {elt iter : Expr}
end
end DL

set_option Elab.async false
set_option linter.all false
set_option maxRecDepth 100000
set_option maxHeartbeats 2000000
/-! [..] * n of one's own; a loop over a range that is not empty -/
namespace DL
open PySem L2 PyProof.Rows
section
variable {X : Cx} {B : Hp} {W0 : Wd} {S : En} {pos : Pos} {a b : Expr}
end
section
variable {X : Cx} {B : Hp} {W0 : Wd} {S : En} {pos : Pos}
end
end DL

set_option Elab.async false
set_option linter.all false
set_option maxRecDepth 100000
set_option maxHeartbeats 2000000
/-! d.get(k, x) of a dict that is data -/
namespace DL
open PySem L2 PyProof.Rows
section
variable {X : Cx} {B : Hp} {S : En} {Q : D → Prop} {o e f : Expr} {apos cpos : Pos}
theorem ed_get2 (hu : X.A.units + 1 < cLine) (h : ED X B S o fun d => ∃ kvs, d = .dcT kvs ∧ ED X B S e fun y => ED X B S f fun z => ∃ k, y = tD k ∧ Q ((look kvs k).getD z)) (m : M2 X o "get" apos e f cpos := by exact ⟨rfl, rfl, rfl, rfl⟩) : ED X B S (.Call (.Attribute o "get" apos) [e, f] [] cpos) Q := fun σ W H r R k0 => by
  refine PE.w (pe_dget2 hu we_pe we_pe we_pe m) ?_
  refine h σ W H r _ fun d v W1 H1 s1 ok1 n1 q1 => ?_
  obtain ⟨kvs, rfl, q1⟩ := q1
  cases id n1 with
  | @dcT _ a o ws hp mm =>
    refine ⟨a, rfl, .inr ⟨ws, .inr ⟨o, ok1.ex _ _ hp⟩⟩, ?_⟩
    refine q1 σ W1 H1 (r.step s1 ok1) _ fun y u W2 H2 s2 ok2 n2 q2 => ?_
    refine q2 σ W2 H2 ((r.step s1 ok1).step s2 ok2) _ fun z x W3 H3 s3 ok3 n3 q3 => ?_
    obtain ⟨k, rfl, q3⟩ := q3
    obtain ⟨q, rfl, hb⟩ := dn_tupkey ok3 (n2.mono s3.I)
    have m3 := (mm.mono s2.I).mono s3.I
    have e3 : Rd H3 a (.dT ws) := .inr ⟨o, ok3.ex _ _ (s3.I _ _ (s2.I _ _ hp))⟩
    refine ⟨_, dget_of e3 hb, ?_⟩
    have k3 := ((k0.step s1 ok1).step s2 ok2).step s3 ok3
    obtain ⟨l1, l2⟩ := dnt_look (k := k) m3
    cases hl : look kvs k with
    | none =>
      rw [l2 hl]
      rw [hl] at q3
      exact k3.now ok3 n3 q3
    | some d =>
      obtain ⟨v, ev, nv⟩ := l1 d hl
      rw [ev]
      rw [hl] at q3
      exact k3.now ok3 nv q3
end
end DL

set_option Elab.async false
set_option linter.all false
set_option maxRecDepth 100000
set_option maxHeartbeats 2000000
/-! sorted of a list or a tuple of data, by itself -/
namespace SRT
open PySem PySem.W PySem.Calls PyProof.Rows
section
variable {prog : Program} {w : World} {A : Around} {E : Value → Shared → Prop} {s : Shared}
theorem sorted_of {it : Addr} {T : String} {o : Obj} {n : Nat} {vs : List Value} {kw : List (Str × Value)} {Q : Value → Shared → Prop} (hT : T = "list" ∨ T = "tuple") (ho : s.heap.get? it = some o) (hc : o.cls = .type T) (hd : o.data = .seq vs.toArray n) (hL : vs.length ≤ sizeLine) (ha1 : argsOk "sorted" ⟨[.ref it], kw⟩) (ha2 : ∀ x, argsOk "list.sort" ⟨[.ref x], kw⟩)
    (body : ∀ h1 : Heap, (∀ b o', s.heap.get? b = some o' → h1.get? b = some o') → ∀ E' : Value → Shared → Prop, wpAny (model prog w) A.in1.in1 (Builtin.«list.sort» ⟨[.ref h1.objs.size], kw⟩) (fun f s' => f = .done (.ret .none) ∧ Q (.ref h1.objs.size) s') E' { s with heap := h1.push (seqObj "list" vs.toArray 0) }) :
    wpAny (model prog w) A (call (.builtin "sorted") [.ref it] kw) Q E s := by
  refine call_function_entry_kw kind_sorted plain_sorted entry_sorted ha1 ?_
  unfold Builtin.«sorted»
  refine wpAny_bind (m := checkCount "sorted" 1 1 _) (wpAny_pure ?_)
  refine wpAny_bind (PySem.wpAny_collect_seq it hT ho hc hd (fun h1 keep => ?_) (by simpa using hL))
  rw [List.toList_toArray]
  refine wpAny_bind (wpAny_newList ?_ hL)
  refine wpAny_bind (wpAny_holding (wpAny_call_entry_kw slot_list_sort ⟨_, Heap.get?_push_size _ rfl, rfl⟩ entry_list_sort ?body (ha2 _)))
  case body =>
    show wpAny (model prog w) A.in1.in1 (Builtin.«list.sort» ⟨[.ref h1.objs.size], kw⟩) _ _ _
    refine wpAny_mono (body h1 keep _) (fun f s' hf => ?_) fun _ _ e => e
    obtain ⟨rfl, hq⟩ := hf
    exact ⟨_, rfl, wpAny_pure ⟨_, rfl, hq⟩⟩
theorem sorted_dat {β : Type} {R : Value → β → Prop} {enc : β → PyData} {vs : List Value} {bs : List β} {it : Addr} {T : String} {o : Obj} {n : Nat} {Q : Value → Shared → Prop} (hT : T = "list" ∨ T = "tuple") (ho : s.heap.get? it = some o) (hc : o.cls = .type T) (hd : o.data = .seq vs.toArray n)
    (e : EachIs R vs bs) (er : EachIs (fun v b => ∃ as, Reads s.heap v (enc b) as) vs bs) (hal : AllAlike (bs.map enc)) (hk : Sortable (bs.map enc)) (hL : bs.length ≤ sizeLine) (hu : ∀ b, b ∈ bs → A.units + 2 + (enc b).depth < cLine)
    (h : ∀ out (h1 h' : Heap) p c, (∀ b o, s.heap.get? b = some o → h1.get? b = some o) → (∀ b o, h1.get? b = some o → h'.get? b = some o) → h1.objs.size ≤ p → h'.get? p = some (seqObj "list" (List.toArray out) c) → EachIs R out (bs.mergeSort (dataLe false enc)) → Q (.ref p) { s with heap := h' }) :
    wpAny (model prog w) A (call (.builtin "sorted") [.ref it]) Q E s := by
  refine sorted_of hT ho hc hd (by rw [e.length]; exact hL) (args_sorted1 _) (fun _ => args_list_sort _) fun h1 keep E' => ?_
  have keep2 : ∀ b o, s.heap.get? b = some o → b ≠ h1.objs.size ∧ (h1.push (seqObj "list" vs.toArray 0)).get? b = some o := fun b o q => ⟨Nat.ne_of_lt (Heap.lt_size (keep b o q)), Heap.get?_push_of_some _ (keep b o q)⟩
  have er' : EachIs (fun v b => ∃ as, Reads (sortingHeap (h1.push (seqObj "list" vs.toArray 0)) h1.objs.size vs) v (enc b) as) vs bs := er.mono fun _ _ ⟨as, r⟩ => ⟨as, PyProof.Rows.Reads.keeps (fun b o q => sortingHeap_old (keep2 b o q).1 (keep2 b o q).2) r⟩
  refine list_sort_vals (κ := dataKind (sortingHeap (h1.push (seqObj "list" vs.toArray 0)) h1.objs.size vs) (bs.map enc)) (s := { s with heap := h1.push (seqObj "list" vs.toArray 0) }) (Heap.get?_push_size _ rfl)
    (SortsAt.data (s := { s with heap := sortingHeap (h1.push (seqObj "list" vs.toArray 0)) h1.objs.size vs }) (each_map (R := fun v d => ∃ as, Reads (sortingHeap (h1.push (seqObj "list" vs.toArray 0)) h1.objs.size vs) v d as) enc er') hal hk (bound_map (A := A.in1.in1) hu)) (by rw [e.length]; exact hL) ⟨rfl, ?_⟩
  obtain ⟨c, hcc⟩ := sortedHeap_at (h := h1.push (seqObj "list" vs.toArray 0)) (a := h1.objs.size) (vs := vs) (n := 0) (out := (sortVals (dataKind (sortingHeap (h1.push (seqObj "list" vs.toArray 0)) h1.objs.size vs) (bs.map enc)) false vs vs).toArray) (Heap.get?_push_size _ rfl)
  refine h _ h1 _ _ c keep (fun b o q => ?_) (Nat.le_refl _) hcc (sortVals_data (h' := sortingHeap (h1.push (seqObj "list" vs.toArray 0)) h1.objs.size vs) false e er' hal)
  rw [sortedHeap_old (Nat.ne_of_lt (Heap.lt_size q)) (Heap.lt_size (Heap.get?_push_of_some _ q))]
  exact Heap.get?_push_of_some _ q
end
end SRT
namespace DL
open PySem PySem.Spec PySem.W PyProof.Rows L2
theorem each_of {K : PySem.W.Frag} {I : Hp} {α : Type} {f : α → D} : ∀ {bs : List α} {xs : List V} {its : List Value}, Dns K I (bs.map f) xs → Vals xs its → EachIs (fun v b => ∃ x, RelV x v ∧ Dn K I (f b) x) its bs
  | [], _, _, .nil, .nil => .nil
  | b :: bs, _, _, .cons d r, .cons v z => .cons ⟨_, v, d⟩ (each_of r z)
theorem of_each {K : PySem.W.Frag} {I : Hp} {α : Type} {f : α → D} : ∀ {bs : List α} {its : List Value}, EachIs (fun v b => ∃ x, RelV x v ∧ Dn K I (f b) x) its bs → ∃ ys, Vals ys its ∧ Dns K I (bs.map f) ys
  | _, _, .nil => ⟨[], .nil, .nil⟩
  | _, _, .cons h r => by
    obtain ⟨x, rv, d⟩ := h
    obtain ⟨ys, a, b⟩ := of_each r
    exact ⟨x :: ys, .cons rv a, .cons d b⟩
section
variable {X : Cx} {α : Type} {f : α → D} {enc : α → PyData} {bs : List α} {Q : D → Prop}
/-- sorted(a list or a tuple of data) -/
theorem cd_sortD {d : D} (hu : X.A.units + 100 < cLine) (sd : SeqD d (bs.map f)) (hp : ∀ b ∈ bs, PyD (f b) (enc b)) (hal : AllAlike (bs.map enc)) (hk : Sortable (bs.map enc)) (hdp : ∀ b ∈ bs, (enc b).depth ≤ 4) (hl : bs.length ≤ 50000) (q : Q (.lst ((bs.mergeSort (dataLe false enc)).map f))) : CD X (.builtin "sorted") [.val d] Q := fun vs W H ok ha R c pins s σ us I rv => by
  obtain ⟨v, rfl, m⟩ := one_arg ha
  have key : ∀ (a : Addr) (xs : List V) (its : List Value) (T : String) (o : Obj) (n : Nat), T = "list" ∨ T = "tuple" → s.heap.get? a = some o → o.cls = .type T → o.data = .seq its.toArray n → Vals xs its → Dns X.K W.I (bs.map f) xs → v = .ref a →
      wpAny (model X.prog X.w) X.A (call (.builtin "sorted") us) (EP X pins σ R) X.xe s := by
    intro a xs its T o n hT ho hc hd rvs dn e
    subst e
    obtain rfl := Vals.ref1 rv
    have e := each_of (f := f) dn rvs
    refine SRT.sorted_dat (enc := enc) hT ho hc hd e ((each_mem e).mono fun v b ⟨⟨x, r, d⟩, hb⟩ => Dp.reads I (enc b) x v ((hp b hb).dp ok d) r) hal hk (Nat.le_trans hl (by decide)) (fun b hb => by have := hdp b hb; omega) fun out h1 h' p cc keep0 keep hp hat eo => ?_
    obtain ⟨ys, y1, y2⟩ := of_each (f := f) eo
    have I1 : Inv X pins σ H { s with heap := h1, toks := s.toks } := I.kept keep0
    have hfr : H p = none := I1.hok.fresh hp
    have st := Stp.new (o := .lst ys) ok hfr
    have hlen : ys.length ≤ sizeLine := by
      have := y2.length
      rw [List.length_map, List.length_mergeSort] at this
      rw [← this]
      exact Nat.le_trans hl (by decide)
    exact ⟨.ref p, upd H p (.lst ys), I1.laid (t' := s.toks) keep hp ⟨hlen, out, cc, y1, hat⟩, rfl, c _ _ _ _ st (ok.new hfr) (.lst (show upd W.I p _ p = _ from upd_same) (y2.mono st.I)) q⟩
  rcases sd with rfl | rfl
  · cases m with
    | @lst _ a xs hp' dn =>
      obtain ⟨its, r1, ⟨o, n, g1, g2, _, g3⟩, _⟩ := I.list (SqL.of (ok.ex _ _ hp'))
      exact key a xs its "list" o n (.inl rfl) g1 g2 g3 r1 dn rfl
  · cases m with
    | @tup _ a xs hp' dn =>
      obtain ⟨its, r1, ⟨o, g1, g2, n, g3⟩, _⟩ := I.tuple (SqT.of (ok.ex _ _ hp'))
      exact key a xs its "tuple" o n (.inr rfl) g1 g2 g3 r1 dn rfl
end
end DL

set_option Elab.async false
set_option linter.all false
set_option maxRecDepth 100000
set_option maxHeartbeats 2000000
/-! sorted(.., key=f), f a def of the text -/
namespace SRT
open PySem PySem.W PySem.Calls PyProof.Rows
section
variable {prog : Program} {w : World} {A : Around} {E : Value → Shared → Prop} {s : Shared} {a kS : Addr} {vs : List Value} {keys : Array Value} {e e1 : Nat} {P : PySem.Fin → Shared → Prop}
/-- the heap behind the sort: the keys' list emptied, the items put back -/
def endHeap (h : Heap) (kS a : Addr) (out : List Value) : Heap := (h.update kS (Obj.mapSeq fun _ => (#[] : Array Value))).update a (Obj.mapSeq fun _ => out.toArray)
end
end SRT
namespace DL
open PySem PySem.Spec PySem.W PyProof.Rows L2
section
variable {X : Cx} {α : Type} {f kD : α → D} {enc : α → PyData} {bs : List α} {Q : D → Prop} {B : Hp} {S : En}
theorem ed_imp {Q Q' : D → Prop} {e : Expr} (h : ED X B S e Q) (k : ∀ d, Q d → Q' d) : ED X B S e Q' := fun σ W H r R c => h σ W H r R fun d v W' H' st ok n q => c d v W' H' st ok n (k d q)
end
end DL

set_option Elab.async false
set_option linter.all false
set_option maxRecDepth 100000
set_option maxHeartbeats 2000000
/-! tuples and lists of ints: added, cut, looked into; comprehensions with a test, of two fors; enumerate of a tuple -/
namespace DL
open PySem PySem.Spec PyProof.Rows L2
section
variable {X : Cx} {B : Hp} {W0 : Wd} {S : En} {pos px p1 p p2 : Pos} {Q : D → Prop} {a b c e : Expr} {E : Ends'} {x : Str}
/-! ### + of tuples -/
theorem od_catT {l m : List D} (hl : l.length + m.length ≤ 100000) (q : Q (.tup (l ++ m))) : OD X (binaryOp .Add) (.tup l) (.tup m) Q := by
  refine od_of op_catA fun v u W H ok h1 h2 R c => ?_
  cases h1 with
  | @tup _ a1 xs e1 d1 => cases h2 with
    | @tup _ a2 ys e2 d2 =>
      refine ⟨_, _, _, _, rfl, rfl, SqT.of (ok.ex _ _ e1), SqT.of (ok.ex _ _ e2), Nat.le_trans (by rw [← d1.length, ← d2.length]; exact hl) (by decide), fun z => ?_, fun _ z => ?_, fun _ _ p hp => ?_⟩
      · subst z
        cases d1
        exact c.now ok (.tup e2 d2) q
      · subst z
        cases d2
        rw [List.append_nil] at q
        exact c.now ok (.tup e1 d1) q
      · have st := Stp.new (o := .tup (xs ++ ys)) ok hp
        exact c (.tup (l ++ m)) (.ref p) _ _ st (ok.new hp) (.tup (show upd W.I p _ p = _ from upd_same) ((d1.append d2).mono st.I)) q
/-- a tuple's items from j on, j whatever it is -/
theorem ed_slFrA (h : ED X B S e fun d => ED X B S b fun y => ∃ l, ∃ j : Nat, d = .tup l ∧ y = .int (j : Int) ∧ Q (.tup (l.drop j))) : ED X B S (.Subscript e (.Slice (some b) none none p2) pos) Q := fun σ W H r R k => by
  refine PE.w (pe_slice L2.sl_tupA we_pe (po_some we_pe) po_none) ?_
  refine h σ W H r _ fun d v W1 H1 s1 ok1 n1 q1 => ?_
  show WE X b σ H1 _
  refine q1 σ W1 H1 (r.step s1 ok1) _ fun d2 u W2 H2 s2 ok2 n2 q2 => ?_
  obtain ⟨l, j, rfl, rfl, q2⟩ := q2
  cases n2
  have k2 := (k.step s1 ok1).step s2 ok2
  cases n1.mono s2.I with
  | @tup _ a xs ha m =>
    have lm := m.length
    refine ⟨_, rfl, a, xs, rfl, SqT.of (ok2.ex _ _ ha), fun hw => ?_, fun _ p hp => ?_⟩
    · rw [HT.sIx_nat, HT.sIx_none] at hw
      rcases Nat.eq_zero_or_pos j with z | z
      · subst z
        rw [List.drop_zero] at q2
        exact k2.now ok2 (.tup ha m) q2
      · have lz : l = [] := List.eq_nil_of_length_eq_zero (by have := hw.1; omega)
        subst lz
        rw [List.drop_nil] at q2
        exact k2.now ok2 (.tup ha m) q2
    · have e : cutV xs (some (j : Int)) none = xs.drop j := by
        unfold cutV
        rw [HT.sIx_nat, HT.sIx_none]
        rcases Nat.le_total j xs.length with z | z
        · rw [Nat.min_eq_left z]
          exact List.take_of_length_le (by rw [List.length_drop]; omega)
        · rw [Nat.min_eq_right z, List.drop_eq_nil_of_le (Nat.le_refl _), List.drop_eq_nil_of_le z, List.take_nil]
      rw [e]
      have st := Stp.new (o := .tup (xs.drop j)) ok2 hp
      exact k2 (.tup (l.drop j)) (.ref p) _ _ st (ok2.new hp) (.tup (show upd W2.I p _ p = _ from upd_same) ((dns_drop j m).mono st.I)) q2
/-! ### slices of lists -/
theorem ed_slLF (h : ED X B S e fun d => ED X B S b fun y => ∃ l, ∃ j : Nat, d = .lst l ∧ y = .int (j : Int) ∧ l.length ≤ 100000 ∧ Q (.lst (l.drop j))) : ED X B S (.Subscript e (.Slice (some b) none none p2) pos) Q := fun σ W H r R k => by
  refine PE.w (pe_slice L2.sl_list we_pe (po_some we_pe) po_none) ?_
  refine h σ W H r _ fun d v W1 H1 s1 ok1 n1 q1 => ?_
  show WE X b σ H1 _
  refine q1 σ W1 H1 (r.step s1 ok1) _ fun d2 u W2 H2 s2 ok2 n2 q2 => ?_
  obtain ⟨l, j, rfl, rfl, hj, q2⟩ := q2
  cases n2
  have k2 := (k.step s1 ok1).step s2 ok2
  cases n1.mono s2.I with
  | @lst _ a xs ha m =>
    refine ⟨_, rfl, a, xs, rfl, SqL.of (ok2.ex _ _ ha), fun p hp => ?_⟩
    have e : cutV xs (some (j : Int)) none = xs.drop j := by
      unfold cutV
      rw [HT.sIx_nat, HT.sIx_none]
      rcases Nat.le_total j xs.length with z | z
      · rw [Nat.min_eq_left z]
        exact List.take_of_length_le (by rw [List.length_drop]; omega)
      · rw [Nat.min_eq_right z, List.drop_eq_nil_of_le (Nat.le_refl _), List.drop_eq_nil_of_le z, List.take_nil]
    rw [e]
    have st := Stp.new (o := .lst (xs.drop j)) ok2 hp
    exact k2 (.lst (l.drop j)) (.ref p) _ _ st (ok2.new hp) (.lst (show upd W2.I p _ p = _ from upd_same) ((dns_drop j m).mono st.I)) q2
theorem ed_slLT (h : ED X B S e fun d => ED X B S b fun y => ∃ l, ∃ j : Int, d = .lst l ∧ y = .int j ∧ ((∃ k : Nat, j = (k : Int) ∧ Q (.lst (l.take k))) ∨ (j = -1 ∧ Q (.lst l.dropLast)))) : ED X B S (.Subscript e (.Slice none (some b) none p2) pos) Q := fun σ W H r R k => by
  refine PE.w (pe_slice L2.sl_list we_pe po_none (po_some we_pe)) ?_
  refine h σ W H r _ fun d v W1 H1 s1 ok1 n1 q1 => ?_
  show WE X b σ H1 _
  refine q1 σ W1 H1 (r.step s1 ok1) _ fun d2 u W2 H2 s2 ok2 n2 q2 => ?_
  obtain ⟨l, j, rfl, rfl, q2⟩ := q2
  cases n2
  have k2 := (k.step s1 ok1).step s2 ok2
  cases n1.mono s2.I with
  | @lst _ a xs ha m =>
    refine ⟨_, rfl, a, xs, rfl, SqL.of (ok2.ex _ _ ha), fun p hp => ?_⟩
    rcases q2 with ⟨i, rfl, q2⟩ | ⟨rfl, q2⟩
    · have e : cutV xs none (some (i : Int)) = xs.take i := by
        unfold cutV
        rw [HT.sIx_nat, HT.sIx_none, List.drop_zero, Nat.sub_zero]
        rcases Nat.le_total i xs.length with z | z
        · rw [Nat.min_eq_left z]
        · rw [Nat.min_eq_right z, List.take_of_length_le (Nat.le_refl _), List.take_of_length_le z]
      rw [e]
      have st := Stp.new (o := .lst (xs.take i)) ok2 hp
      exact k2 (.lst (l.take i)) (.ref p) _ _ st (ok2.new hp) (.lst (show upd W2.I p _ p = _ from upd_same) ((dns_take i m).mono st.I)) q2
    · have e : cutV xs none (some (-1)) = xs.take (xs.length - 1) := by
        unfold cutV
        rw [HT.sIx_none, List.drop_zero, Nat.sub_zero]
        have : HT.sIx xs.length xs.length (some (-1)) = xs.length - 1 := by
          show (if (-1 : Int) < 0 then ((-1 : Int) + (xs.length : Int)).toNat else min (-1 : Int).toNat xs.length) = _
          rw [if_pos (by decide)]
          omega
        rw [this]
      rw [e]
      have st := Stp.new (o := .lst (xs.take (xs.length - 1))) ok2 hp
      have ml : l.dropLast = l.take (xs.length - 1) := by rw [List.dropLast_eq_take, m.length]
      rw [ml] at q2
      exact k2 (.lst (l.take (xs.length - 1))) (.ref p) _ _ st (ok2.new hp) (.lst (show upd W2.I p _ p = _ from upd_same) ((dns_take (xs.length - 1) m).mono st.I)) q2
/-! ### in -/
theorem inV_ints {i : Int} : ∀ l : List Int, inV (.int i) (l.map V.int) = decide (i ∈ l)
  | [] => by simp [inV]
  | j :: l => by
    have := inV_ints (i := i) l
    unfold inV at this ⊢
    rw [List.map_cons, List.any_cons, this]
    by_cases h : j = i
    · subst h; simp [eqV]
    · have h' : ¬ i = j := fun z => h z.symm
      simp [eqV, h, h']
theorem od_inI {i : Int} {l : List Int} {d : D} (sd : SeqD d (l.map D.int)) (q : Q (.bl (decide (i ∈ l)))) : OD X (compareOp .In) (.int i) d Q := od_of op_in_seq fun v u W H ok h1 h2 R c => by
  cases h1
  have hf : (l.map V.int).all flatV = true := by rw [List.all_map, List.all_eq_true]; intros; rfl
  rcases sd with rfl | rfl
  · cases h2 with
    | lst h m =>
      rw [m.ints] at h
      exact ⟨_, _, rfl, .inl (SqL.of (ok.ex _ _ h)), rfl, hf, by rw [inV_ints]; exact c.now ok (.bl _) q⟩
  · cases h2 with
    | tup h m =>
      rw [m.ints] at h
      exact ⟨_, _, rfl, .inr (SqT.of (ok.ex _ _ h)), rfl, hf, by rw [inV_ints]; exact c.now ok (.bl _) q⟩
abbrev pI (l : List Int) : PyData := .tuple (l.map .int)
theorem pyd_ints : ∀ l : List Int, PyDs (l.map D.int) (l.map .int)
  | [] => .nil
  | i :: l => .cons (.int i) (pyd_ints l)
theorem pyd_tI (l : List Int) : PyD (tI l) (pI l) := .tup (pyd_ints l)
theorem pyd_tIs : ∀ ls : List (List Int), PyDs (ls.map tI) (ls.map pI)
  | [] => .nil
  | l :: ls => .cons (pyd_tI l) (pyd_tIs ls)
theorem eqvA_ints : ∀ a b : List Int, PyData.eqvAll (a.map .int) (b.map .int) = decide (a = b)
  | [], [] => by simp [PyData.eqvAll]
  | [], _ :: _ => by simp [PyData.eqvAll]
  | _ :: _, [] => by simp [PyData.eqvAll]
  | x :: a, y :: b => by
    have := eqvA_ints a b
    simp only [List.map_cons, PyData.eqvAll, PyData.eqv, this]
    by_cases h : x = y <;> simp [h]
theorem eqv_pI (a b : List Int) : PyData.eqv (pI a) (pI b) = decide (a = b) := by
  show PyData.eqvAll _ _ = _
  exact eqvA_ints a b
theorem any_pI (l : List Int) : ∀ ls : List (List Int), ((ls.map pI).any fun z => PyData.eqv z (pI l)) = decide (l ∈ ls)
  | [] => by simp
  | m :: ls => by
    rw [List.map_cons, List.any_cons, any_pI l ls, eqv_pI]
    by_cases h : m = l
    · subst h; simp
    · have h' : ¬ l = m := fun z => h z.symm
      simp [h, h']
theorem can_ints : ∀ l : List Int, PyData.canLayAll0 (l.map .int) = true
  | [] => rfl
  | i :: l => by
    rw [List.map_cons, PyData.canLayAll0, can_ints l]
    rfl
theorem can_pIs : ∀ ls : List (List Int), PyData.canLayAll0 (ls.map pI) = true
  | [] => rfl
  | l :: ls => by
    rw [List.map_cons, PyData.canLayAll0, can_pIs ls, Bool.and_true]
    exact can_ints l
theorem dep_pIs : ∀ ls : List (List Int), PyData.depthAll (ls.map pI) ≤ 1
  | [] => Nat.zero_le _
  | l :: ls => by
    rw [List.map_cons, PyData.depthAll]
    have := dep_pIs ls
    have h : (pI l).depth = 1 := by
      show PyData.depthAll _ + 1 = 1
      rw [PySem.W.depth_ints]
    omega
theorem shaped_pI (l : List Int) : SeqAt.shaped (pI l) = true := by
  unfold SeqAt.shaped
  rw [Bool.and_eq_true, decide_eq_true_eq]
  refine ⟨can_ints l, ?_⟩
  show PyData.depthAll _ + 1 ≤ 64
  rw [PySem.W.depth_ints]
  decide
theorem shaped_pIs (ls : List (List Int)) : SeqAt.shaped (.list (ls.map pI)) = true := by
  unfold SeqAt.shaped
  rw [Bool.and_eq_true, decide_eq_true_eq]
  refine ⟨can_pIs ls, ?_⟩
  show PyData.depthAll _ + 1 ≤ 64
  have := dep_pIs ls
  omega
theorem od_ninT {l : List Int} {ls : List (List Int)} (hu : X.A.units + 65 < cLine) (q : Q (.bl (!decide (l ∈ ls)))) : OD X (compareOp .NotIn) (tI l) (.lst (ls.map tI)) Q := od_of (op_notInD hu) fun v u W H ok h1 h2 R c =>
  ⟨pI l, ls.map pI, (pyd_tI l).dp ok h1, (PyD.lst (pyd_tIs ls)).dp ok h2, shaped_pI l, shaped_pIs ls, by rw [any_pI]; exact c.now ok (.bl _) q⟩
end
end DL

set_option Elab.async false
set_option linter.all false
set_option maxRecDepth 100000
set_option maxHeartbeats 2000000
/-! a new dict that a name owns -/
namespace DL
open PySem PySem.Spec PyProof.Rows L2
section
variable {X : Cx} {B : Hp} {W0 : Wd} {S : En} {pos px : Pos} {e : Expr} {E : Ends'} {x : Str}
end
end DL

set_option Elab.async false
set_option linter.all false
set_option maxRecDepth 100000
set_option maxHeartbeats 2000000
/-! dicts of unlike lengths; {} as data -/
namespace DL
open PySem PySem.Spec PyProof.Rows L2 PySem.W
section
variable {X : Cx} {B : Hp} {S : En} {Q : D → Prop} {kvs kvs' : List (List Key × D)}
end
end DL

set_option Elab.async false
set_option linter.all false
set_option maxRecDepth 100000
set_option maxHeartbeats 2000000
/-! a dict != {} -/
namespace DL
open PySem PySem.Spec PyProof.Rows L2 PySem.W
section
variable {X : Cx} {Q : D → Prop} {kvs kvs' : List (List Key × D)}
end
end DL

set_option Elab.async false
set_option linter.all false
set_option maxRecDepth 100000
set_option maxHeartbeats 4000000
/-! dicts that a def hands back new; a dict of one entry; what a name owns, compared, asked, sorted; x, y = e, {} -/
namespace DL
open PySem PySem.Spec PyProof.Rows L2 PySem.W
/-- {k: v}, k a tuple -/
def tOneT (trs : List (TE × TE)) : TE := fun σ H Q => ∀ p, H p = none → tPairs trs σ (upd H p (.dT [])) fun ps H2 => H2 p = some (.dT []) ∧ ∃ ks b y, ps = [(.ref b, y)] ∧ H2 b = some (.tup (ks.map kV)) ∧ Q (.ref p) (upd H2 p (.dT [(ks, y)]))
/-! a new dict handed back -/
abbrev SpT := List Sl → (List (List Key × D) → Prop) → Prop
def liftT (K : PySem.W.Frag) (sp : SpT) : SpG := fun g vs H R => ∃ as W Q, Ok g W H ∧ Args K W as vs ∧ sp as Q ∧ ContT K g W H Q R
structure NfT (P : Program) (w : World) (K : PySem.W.Frag) (mg : Str → Option Value) (base : Heap) (x : Str) (k : Nat) (sp : SpT) : Prop where
  ex : ∃ f fd ps, GnOk P w K mg base k f fd ps (liftT K sp) ∧ mg x = some (.ref f) ∧ PySem.W.keepIn K (.ref f) = true ∧ Binds K fd ps []
section
variable {X : Cx} {B : Hp} {W0 : Wd} {S : En} {pos p apos : Pos} {e o : Expr} {es : List Expr} {x : Str} {k : Nat}
end
/-- a block that ends by handing a new dict back -/
def ST (X : Cx) (B : Hp) (W0 : Wd) (S : En) (sts : List Stmt) (Q : List (List Key × D) → Prop) : Prop := ∀ σ W H, Rep X.K (gOf X) B S σ W H → Stp W0 B W H → ∀ R, ContT X.K (gOf X) W0 B Q R → WSs X sts { nx := fun _ H' => R .non H', rt := R } σ H
section
variable {X : Cx} {B : Hp} {W0 : Wd} {S : En} {pos px : Pos} {x : Str} {st : Stmt} {sts : List Stmt} {Q : List (List Key × D) → Prop}
end
section
variable {P : Program} {w : World} {K : PySem.W.Frag} {mg : Str → Option Value} {base : Heap}
end
section
variable {X : Cx} {B : Hp} {W0 : Wd} {S : En} {pos px py p p1 : Pos} {Q : D → Prop} {QB : Bool → Prop} {a b e f key value : Expr} {x y : Str} {E : Ends'}
abbrev RSortK (X : Cx) (dd : Nat) (Bb : Int) : List V → Hp → VK → Prop := fun xs H Q => ∃ d kvs, xs = [V.ref d] ∧ Rd H d (.dT kvs) ∧ kvs.length < 64 ∧ (∀ p ∈ kvs, ∃ l : List Int, p.1 = ik l ∧ l.length = dd ∧ TS.Bd Bb l) ∧
    ∀ bs ys p, IsKeys H kvs bs → ys.Perm (bs.map V.ref) → ys.Pairwise (fun x y => ∀ n m, TupI X.K H x n → TupI X.K H y m → TS.code Bb n ≤ TS.code Bb m) → H p = none → Q (.ref p) (upd H p (.lst ys))
end
end DL

set_option Elab.async false
set_option linter.all false
set_option maxRecDepth 100000
set_option maxHeartbeats 4000000
/-! sorted(d), keys tuples of ints, of any number -/
namespace TSB
open PySem PySem.W PySem.Calls PyProof.Rows DL
theorem lex_lt : ∀ {B : Int} {a b : List Int}, a.length = b.length → TS.Bd B a → TS.Bd B b → TS.code B a < TS.code B b → a < b
  | _, [], [], _, _, _, h => absurd h (Int.lt_irrefl _)
  | B, x :: a, y :: b, hl, ha, hb, h => by
    have hl' := Nat.succ.inj hl
    rw [List.cons_lt_cons_iff]
    rcases Int.lt_trichotomy x y with c | c | c
    · exact .inl c
    · subst c
      exact .inr ⟨rfl, lex_lt hl' ha.tail hb.tail ((TS.code_same hl').mp h)⟩
    · have := TS.code_lt hl'.symm hb.tail ha.tail c
      omega
theorem le_code {B : Int} {a b : List Int} (hl : a.length = b.length) (ha : TS.Bd B a) (hb : TS.Bd B b) (h : dataLe false pI a b = true) : TS.code B a ≤ TS.code B b := by
  by_cases c : TS.code B a ≤ TS.code B b
  · exact c
  · have lt := lex_lt hl.symm hb ha (by omega)
    have e : dataLe false pI a b = !decide (b < a) := by
      show (!PySem.W.dataLt (pI b) (pI a)) = _
      congr 1
      exact PySem.W.dataLt_ints b a
    rw [e, decide_eq_true lt] at h
    cases h
theorem reads_ints {h : Heap} : ∀ {vs : List Value} {ns : List Int}, IntsAre vs ns → ReadsAll h vs (ns.map .int) []
  | _, _, .nil => .nil
  | _, _, .cons n t r => .cons (.int n t) (reads_ints r)
theorem reads_tup {h : Heap} {v : Value} {ns : List Int} (x : TS.TupInts h v ns) : ∃ as, Reads h v (pI ns) as := by
  obtain ⟨a, xs, rfl, ⟨o, ho, hc, n, hd⟩, hi⟩ := x
  exact ⟨_, reads_tuple_at ho hc hd (reads_ints hi)⟩
theorem dl (a b : List Int) : dataLe false pI a b = !decide (b < a) := by
  show (!PySem.W.dataLt (pI b) (pI a)) = _
  congr 1
  exact PySem.W.dataLt_ints b a
theorem le_tr (a b c : List Int) (h1 : dataLe false pI a b = true) (h2 : dataLe false pI b c = true) : dataLe false pI a c = true := by
  rw [dl] at *
  simp only [Bool.not_eq_true', decide_eq_false_iff_not] at *
  exact List.le_trans (l₁ := a) (l₂ := b) (l₃ := c) h1 h2
theorem le_tot (a b : List Int) : (dataLe false pI a b || dataLe false pI b a) = true := by
  rw [dl, dl]
  rcases List.le_total a b with h | h
  · have : ¬ b < a := h
    rw [decide_eq_false this]
    rfl
  · have : ¬ a < b := h
    rw [decide_eq_false this, Bool.not_false, Bool.or_true]
section
variable {prog : Program} {w : World} {A : Around} {E : Value → Shared → Prop} {s : Shared}
theorem each_self {h : Heap} : ∀ {vs : List Value} {P : Value → Prop}, (∀ v ∈ vs, P v) → EachIs (fun v b => b = TS.intsOf h v ∧ P v) vs (vs.map (TS.intsOf h))
  | [], _, _ => .nil
  | v :: vs, P, x => .cons ⟨rfl, x v (List.mem_cons_self ..)⟩ (each_self fun u hu => x u (List.mem_cons_of_mem _ hu))
theorem of_self {h : Heap} {P : Value → Prop} : ∀ {out : List Value} {bs : List (List Int)}, EachIs (fun v b => b = TS.intsOf h v ∧ P v) out bs → bs = out.map (TS.intsOf h) ∧ ∀ v ∈ out, P v
  | _, _, .nil => ⟨rfl, nofun⟩
  | _, _, .cons ⟨e, p⟩ r => by
    obtain ⟨e2, p2⟩ := of_self r
    refine ⟨by rw [e, e2]; rfl, fun v hv => ?_⟩
    rcases List.mem_cons.mp hv with rfl | hv
    · exact p
    · exact p2 v hv
/-- xs.sort() -/
theorem call_sort_big {a : Addr} {vs : List Value} {n d : Nat} {B : Int} {Q : Value → Shared → Prop} (ho : s.heap.get? a = some (seqObj "list" vs.toArray n)) (hL : vs.length ≤ sizeLine) (hu : A.in1.units + 1 < cLine) (hd0 : 1 ≤ d) (x : TS.TupsOk s.heap d B vs)
    (h : ∀ out : Array Value, out.toList.Perm vs → out.toList.Pairwise (fun u v => TS.code B (TS.intsOf s.heap u) ≤ TS.code B (TS.intsOf s.heap v)) → Q .none { s with heap := sortedHeap s.heap a vs out }) :
    wpAny (model prog w) A (call (.builtin "list.sort") [.ref a]) Q E s := by
  have keep : ∀ b o, s.heap.get? b = some o → o.cls = .type "tuple" → (sortingHeap s.heap a vs).get? b = some o := fun b o e hc => by
    refine sortingHeap_old ?_ e
    rintro rfl
    rw [ho] at e
    have e' : seqObj "list" vs.toArray n = o := Option.some.inj e
    rw [← e'] at hc
    have c' : Value.type "list" = Value.type "tuple" := hc
    injection c' with c''
    exact absurd c'' (by decide)
  have es : EachIs (fun v b => b = TS.intsOf s.heap v ∧ v ∈ vs) vs (vs.map (TS.intsOf s.heap)) := each_self fun v hv => hv
  have er : EachIs (fun v b => ∃ as, Reads (sortingHeap s.heap a vs) v (pI b) as) vs (vs.map (TS.intsOf s.heap)) := es.mono fun v b ⟨e, hv⟩ => by
    obtain ⟨ns, t, _⟩ := x v hv
    rw [e, t.ints]
    exact reads_tup (t.keeps keep)
  have hal : AllAlike ((vs.map (TS.intsOf s.heap)).map pI) := AllAlike.of fun b b' => by simp [PySem.W.alike, PySem.W.alike_ints]
  have hk : Sortable ((vs.map (TS.intsOf s.heap)).map pI) := .inl fun q hq => by
    obtain ⟨l, hl, rfl⟩ := List.mem_map.mp hq
    obtain ⟨v, hv, rfl⟩ := List.mem_map.mp hl
    obtain ⟨ns, t, l1, _⟩ := x v hv
    rw [t.ints]
    cases ns with
    | nil => rw [List.length_nil] at l1; omega
    | cons y ys => exact ⟨_, _, rfl⟩
  refine wpAny_call_entry slot_list_sort ⟨_, ho, rfl⟩ entry_list_sort ?_ (args_list_sort _)
  refine list_sort_vals (κ := dataKind (sortingHeap s.heap a vs) ((vs.map (TS.intsOf s.heap)).map pI)) ho (SortsAt.data (s := { s with heap := sortingHeap s.heap a vs }) (each_map (R := fun v d => ∃ as, Reads (sortingHeap s.heap a vs) v d as) pI er) hal hk fun d hd => ?_) hL ⟨_, rfl, h _ ?_ ?_⟩
  · obtain ⟨l, _, rfl⟩ := List.mem_map.mp hd
    show A.in1.units + (PyData.depthAll _ + 1) < cLine
    rw [PySem.W.depth_ints]
    exact hu
  · show (((vs.zip vs).mergeSort _).map Prod.snd).Perm vs
    have z := (List.mergeSort_perm (vs.zip vs) (sortLe (dataKind (sortingHeap s.heap a vs) ((vs.map (TS.intsOf s.heap)).map pI)).toKeyOrd false fun p : Keyed => keyD (dataKind (sortingHeap s.heap a vs) ((vs.map (TS.intsOf s.heap)).map pI)) p.1)).map Prod.snd
    rw [List.map_snd_zip (Nat.le_refl _)] at z
    exact z
  · have eo := sortVals_data (R := fun v b => b = TS.intsOf s.heap v ∧ v ∈ vs) (enc := pI) (h' := sortingHeap s.heap a vs) false es er hal
    obtain ⟨e1, e2⟩ := of_self eo
    have pw := List.pairwise_mergeSort (le := dataLe false pI) le_tr le_tot (vs.map (TS.intsOf s.heap))
    rw [e1, List.pairwise_map] at pw
    refine pw.imp_of_mem fun {u v} hu hv le => ?_
    obtain ⟨ns, t, l1, b1⟩ := x u (e2 u hu)
    obtain ⟨ms, t', l2, b2⟩ := x v (e2 v hv)
    rw [t.ints, t'.ints] at le ⊢
    exact le_code (by rw [l1, l2]) b1 b2 le
end
end TSB
namespace DL
open PySem PySem.Spec PyProof.Rows L2
theorem cr_sortKb {X : Cx} {dd : Nat} {B : Int} (hc : X.calm = true) (hd : 1 ≤ dd) (hu : X.A.units + 100 < cLine) : CallR X (.builtin "sorted") (fun xs H Q => ∃ d kvs, xs = [V.ref d] ∧ Rd H d (.dT kvs) ∧ kvs.length ≤ 50000 ∧ (∀ p ∈ kvs, ∃ l : List Int, p.1 = ik l ∧ l.length = dd ∧ TS.Bd B l) ∧
    ∀ bs ys p, IsKeys H kvs bs → ys.Perm (bs.map V.ref) → ys.Pairwise (fun x y => ∀ n m, TupI X.K H x n → TupI X.K H y m → TS.code B n ≤ TS.code B m) → H p = none → Q (.ref p) (upd H p (.lst ys))) := by
  intro pins t τ H xs us Q J r q
  obtain ⟨d, kvs, rfl, rd, few, hx, q⟩ := q
  rw [Vals.ref1 r]
  obtain ⟨z, ns, ks, pr, o, es, ep, ho, hex, hdt, he, nd⟩ := (show ObjOk X.prog X.w H t.heap d (.dT kvs) from rd.ok J.hok)
  have l1 : es.size = ks.length := size_of_entries he
  have l2 : kvs.length = ks.length := Paired.length pr
  have small : ks.length ≤ sizeLine := l2 ▸ z
  have isk := keyPairs J.hok pr
  refine Calls.call_function_entry kind_sorted plain_sorted entry_sorted (args_sorted1 _) ?_
  unfold Builtin.«sorted»
  refine wpAny_bind (m := checkCount "sorted" 1 1 _) (wpAny_pure ?_)
  refine wpAny_bind (PySem.W.kdu_collect (A := X.A.in1) (kdl_raw ns hex hdt) (J.ok.hd hc) ho (by omega) fun h' tk acc keep it => ?_)
  have ea := accKeys (acc := acc.toList) he (by rw [Array.length_toList, it.1]; exact l1) fun j v e => it.2 j v (by rw [← Array.getElem?_toList]; exact e)
  have J1 : Inv X pins τ H { t with heap := h', toks := tk } := J.kept keep
  generalize eb : (ks.map fun x => x.2.1) = bs at isk ea
  have lb : bs.length = ks.length := by rw [← eb, List.length_map]
  rw [ea]
  refine wpAny_bind (wpAny_newList ?_ (by rw [List.length_map, lb]; exact small))
  have at_ : (h'.push (seqObj "list" (bs.map Value.ref).toArray 0)).get? h'.objs.size = some (seqObj "list" (bs.map Value.ref).toArray 0) := Heap.get?_push_size _ rfl
  have raw : ∀ b ∈ bs, ∃ l, SqT X.K H b (l.map V.int) ∧ l.length = dd ∧ TS.Bd B l := fun b hb => by
    obtain ⟨j, hj, e⟩ := List.getElem_of_mem hb
    have hjk : j < kvs.length := by omega
    obtain ⟨b', hb', hH⟩ := Itemz isk j hjk
    rw [List.getElem?_eq_getElem hj, e] at hb'
    cases hb'
    obtain ⟨l, e1, e2, e3⟩ := hx _ (List.getElem_mem hjk)
    rw [e1] at hH
    refine ⟨l, SqT.of ?_, e2, e3⟩
    have : (ik l).map kV = l.map V.int := by simp [ik, kV, Function.comp_def]
    rw [← this]
    exact hH
  have up : ∀ b u, t.heap.get? b = some u → (h'.push (seqObj "list" (bs.map Value.ref).toArray 0)).get? b = some u := fun b u e => Heap.get?_push_of_some _ (keep b u e)
  have tups : TS.TupsOk (h'.push (seqObj "list" (bs.map Value.ref).toArray 0)) dd B (bs.map Value.ref) := fun v hv => by
    obtain ⟨b, hb, rfl⟩ := List.mem_map.mp hv
    obtain ⟨l, h1, h2, h3⟩ := raw b hb
    exact ⟨l, (tupI_raw J h1).keeps fun c u e _ => up c u e, h2, h3⟩
  show wpAny _ _ _ _ _ { t with heap := h'.push (seqObj "list" (bs.map Value.ref).toArray 0), toks := tk }
  refine wpAny_bind (wpAny_holding (TSB.call_sort_big (s := { t with heap := h'.push (seqObj "list" (bs.map Value.ref).toArray 0), toks := tk }) at_ (by rw [List.length_map, lb]; exact small) (show X.A.units + 1 + 1 + 1 < cLine by omega) hd tups fun out p1 p2 => ?_))
  have refs : ∀ u ∈ out.toList, ∃ a, u = Value.ref a := fun u hu => by
    obtain ⟨b, _, e⟩ := List.mem_map.mp (p1.mem_iff.mp hu)
    exact ⟨b, e.symm⟩
  have perm : (out.toList.map bkV).Perm (bs.map V.ref) := by
    have := p1.map bkV
    rwa [List.map_map] at this
  obtain ⟨e', at2⟩ := sortedHeap_at (vs := bs.map Value.ref) (out := out) at_
  have fit : (out.toList.map bkV).length ≤ sizeLine := by rw [perm.length_eq, List.length_map, lb]; exact small
  refine wpAny_pure ⟨_, rfl, .ref h'.objs.size, upd H h'.objs.size (.lst (out.toList.map bkV)), J1.laid (t' := tk) (fun b u e => ?_) (Nat.le_refl _) ⟨fit, out.toList, e', bkV_vals refs, at2⟩, rfl, q bs _ _ isk perm ?_ (J1.hok.fresh (Nat.le_refl _))⟩
  · have lt : b < h'.objs.size := Heap.lt_size e
    rw [sortedHeap_old (Nat.ne_of_lt lt) (by rw [size_push']; exact Nat.lt_succ_of_lt lt)]
    exact Heap.get?_push_of_some _ e
  · rw [List.pairwise_map]
    refine List.Pairwise.imp (fun {u v} le n m hn hm => ?_) p2
    obtain ⟨a1, f1, g1⟩ := hn
    obtain ⟨a2, f2, g2⟩ := hm
    have i1 := ((tupI_raw J g1).keeps (h' := h'.push (seqObj "list" (bs.map Value.ref).toArray 0)) fun c u e _ => up c u e).ints
    have i2 := ((tupI_raw J g2).keeps (h' := h'.push (seqObj "list" (bs.map Value.ref).toArray 0)) fun c u e _ => up c u e).ints
    rw [bkV_ref f1, bkV_ref f2] at le
    have le' : TS.code B (TS.intsOf (h'.push (seqObj "list" (bs.map Value.ref).toArray 0)) (.ref a1)) ≤ TS.code B (TS.intsOf (h'.push (seqObj "list" (bs.map Value.ref).toArray 0)) (.ref a2)) := le
    rw [i1, i2] at le'
    exact le'
/-- sorted(d), keys of ints, of any number -/
theorem cd_sortKb {X : Cx} {Q : D → Prop} {dd : Nat} {B : Int} {kvs : List (List Key × D)} {ls : List (List Int)} (hc : X.calm = true) (hu : X.A.units + 100 < cLine) (hd : 1 ≤ dd) (hk : kvs.map (·.1) = ls.map ik) (hl : ls.length ≤ 50000) (hx : ∀ l ∈ ls, l.length = dd ∧ TS.Bd B l)
    (q : ∀ ls' : List (List Int), ls'.Perm ls → ls'.Pairwise (fun a b => TS.code B a ≤ TS.code B b) → Q (.lst (ls'.map tI))) : CD X (.builtin "sorted") [.val (.dcT kvs)] Q := cd_of (cr_sortKb (dd := dd) (B := B) hc hd hu) fun vs W H ok ha R c => by
  obtain ⟨v, rfl, m⟩ := one_arg ha
  cases m with
  | @dcT _ a o ws hp m =>
    have hl2 : kvs.length = ls.length := by have := congrArg List.length hk; simpa using this
    refine ⟨a, ws, rfl, .inr ⟨o, ok.ex _ _ hp⟩, by rw [← m.length, hl2]; exact hl, fun p hm => ?_, fun bs ys p isk perm pw hn => ?_⟩
    · have : p.1 ∈ ls.map ik := by
        rw [← hk, m.keys]
        exact List.mem_map_of_mem hm
      obtain ⟨l, hl, e⟩ := List.mem_map.mp this
      exact ⟨l, e.symm, hx l hl⟩
    · obtain ⟨W2, s2, ok2, e2⟩ := extN isk ok
      have dk := dns_keysOf (m.mono s2.I) e2
      rw [keysD_ik hk] at dk
      obtain ⟨ls', p1, n1⟩ := dns_perm perm dk
      have st := Stp.new (o := .lst ys) ok2 hn
      exact c _ _ _ _ (s2.trans ok2 st) (ok2.new hn) (.lst (show upd W2.I p _ p = _ from upd_same) (n1.mono st.I)) (q ls' p1 (dns_pair ok2 n1 pw))
end DL
namespace DL
open PySem L2 PyProof.Rows
theorem un100 {k : Nat} {A : Around} (r : Room k A) : A.units + 100 < cLine := by have := r.un; omega
end DL

set_option Elab.async false
set_option linter.all false
set_option maxRecDepth 100000
set_option maxHeartbeats 2000000
/-! comprehensions told by functions: what each item becomes, which are kept -/
namespace DL
open PySem PySem.Spec PyProof.Rows L2
theorem take1 {α β : Type} (u : α → β) {l : List α} {i : Nat} {a : α} (h : l[i]? = some a) : (l.take (i + 1)).map u = (l.take i).map u ++ [u a] := by
  rw [List.take_add_one, h]
  simp
theorem take1f {α β : Type} (t : α → Bool) (u : α → β) {l : List α} {i : Nat} {a : α} (h : l[i]? = some a) : ((l.take (i + 1)).filter t).map u = ((l.take i).filter t).map u ++ if t a = true then [u a] else [] := by
  rw [List.take_add_one, h]
  cases c : t a with
  | true => simp [List.filter_append, c]
  | false => simp [List.filter_append, c]
section
variable {X : Cx} {B : Hp} {W0 : Wd} {S : En} {pos : Pos} {e elt iter c : Expr} {x : Str} {px : Pos} {scope : Scope} {own : List (Str × Nat)} {d0 : D} {Q : List D → Prop} {E : Ends'} {α : Type} {f u : α → D} {t : α → Bool} {l : List α}
/-- [elt for x in a list or a tuple] -/
theorem fd_mp (j : Nat) (hc : X.calm = true) (hN : X.N.Nodup) (ok : BlkOk X.N X.env.scope scope own) (hg : AllBlk X scope fun Y => PG Y (.Name x px) (gName j)) (hj : j ∈ own.map (·.2)) (hl : l.length ≤ 50000) (sd : SeqD d0 (l.map f)) (hit : ED X B S iter fun d => d = d0)
    (he : ∀ a ∈ l, AllBlk X scope fun Y => ED Y B (itE S own j (f a)) elt fun y => y = u a) (q : Q (l.map u)) (hs : ∀ x, foldedSetIterable iter X.env x = pure x := by intro _; rfl) : FD X B S (.ListComp elt [⟨.Name x px, iter, [], 0⟩] scope pos) Q := by
  have step : ∀ (i : Nat) d acc, (l.map f)[i]? = some d → acc.length = i → acc = (l.take i).map u → AllBlk X scope fun Y => ED Y B (itE S own j d) elt fun y => acc ++ [y] = (l.take (i + 1)).map u := by
    intro i d acc hi _ ha s H0 C cl fp
    rw [List.getElem?_map] at hi
    obtain ⟨a, h1, rfl⟩ := Option.map_eq_some_iff.mp hi
    refine ed_imp (he a (List.mem_of_getElem? h1) s H0 C cl fp) fun y ey => ?_
    rw [take1 u h1, ha, ey]
  have fin : ∀ acc : List D, acc.length = (l.map f).length → acc = (l.take (l.map f).length).map u → Q acc := by
    intro acc _ e
    rw [List.length_map, List.take_length] at e
    rw [e]
    exact q
  have hl' : (l.map f).length ≤ 50000 := by rw [List.length_map]; exact hl
  rcases sd with rfl | rfl
  · exact fd_lcL (fun i acc => acc = (l.take i).map u) (fun d => itE S own j d) hc hN ok hg (ed_imp hit fun d e => ⟨e, hl', rfl⟩) (fun d _ => pat_name j hj) step fin hs
  · exact fd_lcT (fun i acc => acc = (l.take i).map u) (fun d => itE S own j d) hc hN ok hg (ed_imp hit fun d e => ⟨e, hl', rfl⟩) (fun d _ => pat_name j hj) step fin hs
/-- [elt for x in a list or a tuple if c] -/
theorem fd_ft (j : Nat) (hc : X.calm = true) (hN : X.N.Nodup) (ok : BlkOk X.N X.env.scope scope own) (hg : AllBlk X scope fun Y => PG Y (.Name x px) (gName j)) (hj : j ∈ own.map (·.2)) (hl : l.length ≤ 50000) (sd : SeqD d0 (l.map f)) (hit : ED X B S iter fun d => d = d0)
    (ht : ∀ a ∈ l, AllBlk X scope fun Y => TD Y B (itE S own j (f a)) c fun b => b = t a) (he : ∀ a ∈ l, t a = true → AllBlk X scope fun Y => ED Y B (itE S own j (f a)) elt fun y => y = u a) (q : Q ((l.filter t).map u)) (hs : ∀ x, foldedSetIterable iter X.env x = pure x := by intro _; rfl) : FD X B S (.ListComp elt [⟨.Name x px, iter, [c], 0⟩] scope pos) Q := by
  have step : ∀ (i : Nat) d acc, (l.map f)[i]? = some d → acc.length ≤ i → acc = ((l.take i).filter t).map u → AllBlk X scope fun Y => TD Y B (itE S own j d) c fun b => if b = true then AllBlk X scope fun Y => ED Y B (itE S own j d) elt fun y => acc ++ [y] = ((l.take (i + 1)).filter t).map u else acc = ((l.take (i + 1)).filter t).map u := by
    intro i d acc hi _ ha s H0 C cl fp σ W H r R k
    rw [List.getElem?_map] at hi
    obtain ⟨a, h1, rfl⟩ := Option.map_eq_some_iff.mp hi
    have am := List.mem_of_getElem? h1
    refine ht a am s H0 C cl fp σ W H r R fun b W' H' st ok' eb => k b W' H' st ok' ?_
    subst eb
    rw [take1f t u h1]
    cases ta : t a with
    | true =>
      refine iteT ?_
      intro s H0 C cl fp
      refine ed_imp (he a am ta s H0 C cl fp) fun y ey => ?_
      rw [ha, ey, if_pos rfl]
    | false =>
      refine iteF ?_
      rw [ha, if_neg (by decide), List.append_nil]
  have fin : ∀ acc : List D, acc.length ≤ (l.map f).length → acc = ((l.take (l.map f).length).filter t).map u → Q acc := by
    intro acc _ e
    rw [List.length_map, List.take_length] at e
    rw [e]
    exact q
  have hl' : (l.map f).length ≤ 50000 := by rw [List.length_map]; exact hl
  rcases sd with rfl | rfl
  · exact fd_lcLI (fun i acc => acc = ((l.take i).filter t).map u) (fun d => itE S own j d) hc hN ok hg (ed_imp hit fun d e => ⟨e, hl', rfl⟩) (fun d _ => pat_name j hj) step fin hs
  · exact fd_lcTI (fun i acc => acc = ((l.take i).filter t).map u) (fun d => itE S own j d) hc hN ok hg (ed_imp hit fun d e => ⟨e, hl', rfl⟩) (fun d _ => pat_name j hj) step fin hs
end
end DL

set_option Elab.async false
set_option linter.all false
set_option maxRecDepth 100000
set_option maxHeartbeats 4000000
/-! enumerate of a tuple; dict comprehensions told by functions; list(range(n)) -/
namespace DL
open PySem PySem.Spec PyProof.Rows L2
def Ite2 (K : PySem.W.Frag) (a : Addr) : It :=
  ⟨fun i H => ∃ (xs : List V) (x : V), SqT K H a xs ∧ xs[i]? = some x, fun i H v H' => ∃ T x, v = .ref T ∧ H T = none ∧ H' = upd H T (.tup [.int (i : Nat), x]) ∧ ∀ xs, SqT K H a xs → xs[i]? = some x, fun i H => ∃ xs : List V, SqT K H a xs ∧ xs.length ≤ i⟩
theorem enum_endT {prog : Program} {w : World} {A : Around} {E : Value → Shared → Prop} {s : Shared} {e it l : Addr} {i : Nat} {items : Array Value} {old : Value} {Q : Option Value → Shared → Prop} (hh : A.handled = none) (he : IsEnum s.heap e it i old) (hit : s.heap.IsTupleIter it l i) (hl : s.heap.IsTuple l items) (hx : items[i]? = none)
    (hQ : ∀ h', Heap.ExtBut it s.heap h' → Q none { s with heap := h' }) : wpAny (model prog w) A (pyNext (.ref e)) Q E s := by
  have hT : s.TypeIs (.ref e) "enumerate" := ⟨_, he, rfl⟩
  unfold pyNext
  refine wpAny_bind (wpAny_attempt (wpAny_callSpecial?_slot (name := Str.ofString "__next__") hT F.slot_enumerate_next
    (wpAny_call_entry F.slot_enumerate_next hT F.entry_enumerate_next ?_ (F.args_enumerate_next_1 _))))
  show wpAny _ _ (field (.ref e) 2 >>= _) _ _ _
  refine wpAny_bind (wpAny_field he rfl (x := .ref it) rfl ?_)
  refine wpAny_bind (RZ.nextOf_tuple_end (A := A.in1) hh hit hl hx fun h' x he' hx' => ?_)
  obtain ⟨o, ho, hc⟩ := hx'
  refine wpAny_bind (wpAny_isInstance (T := "StopIteration") (b := true) ⟨o, ho, hc⟩ isSubtype_stop ?_)
  exact wpAny_pure (hQ _ he')
theorem turn_enumT {P : Program} {w : World} {K : PySem.W.Frag} {elts : List Expr} {kk : Nat} {tpos : Pos} (a e it : Addr) :
    Turn P w K (.Tuple elts kk tpos) (Ite2 K a) [e, it] e (fun i h => (∃ old, IsEnum h e it ((i : Nat) : Int) old) ∧ h.IsTupleIter it a i ∧ e ≠ it ∧ a ≠ it ∧ a ≠ e) where
  mem := by simp
  obj := fun i h st b hb => by
    obtain ⟨⟨old, he⟩, ⟨o, ho, hc, hd⟩, _⟩ := st
    have e' : b = e ∨ b = it := by simpa using hb
    rcases e' with z | z
    · rw [z]; exact ⟨_, he, fun v q => nomatch q⟩
    · rw [z]; exact ⟨o, ho, fun v q => by rw [hd] at q; cases q⟩
  keep := fun i h h' st k => let ⟨⟨old, he⟩, hi, hne⟩ := st; ⟨⟨old, k e (by simp) _ he⟩, hi.at fun o q => k it (by simp) o q, hne⟩
  item := by
    intro X hP hw hK hc i pins s σ H E I hf st hg
    subst hP hw hK
    obtain ⟨⟨old, he⟩, hit, hne, nai, nae⟩ := st
    obtain ⟨xs, x, hq, hx⟩ := hg
    obtain ⟨its, rv, tp, hz⟩ := I.tuple hq
    obtain ⟨u, hu, ru⟩ := rv.get hx
    have hel : e < s.heap.objs.size := Heap.lt_size he
    have hil : it < s.heap.objs.size := by obtain ⟨_, q, _⟩ := hit; exact Heap.lt_size q
    have lt : i < its.toArray.size := by
      rw [List.size_toArray]
      exact (List.getElem?_eq_some_iff.mp hu).1
    refine wpAny_pyNext_enum_itemD (Draws.tuple (A := X.A.in1) (I.ok.hd hc) it a nai its.toArray) he ⟨hit, tp⟩ lt hne (by simp [hne, Ne.symm nae]) fun x' h' tk hP ho hit' hT hsz hk => ?_
    have ex : x' = u := by
      have : its.toArray[i]? = some u := by simpa using hu
      rw [this] at hP
      exact (Option.some.inj hP).symm
    subst ex
    refine ⟨_, rfl, wpAny_letOwnedTupleGo_enum (s := { s with heap := h', toks := tk + 1 }) ho fun h'' he' sb => ?_⟩
    have hT2 : h''.get? s.heap.objs.size = some { cls := .type "tuple", data := .seq #[.int i tk, x'] } := (sb.2 _ (Nat.ne_of_gt hel)).trans hT
    have new : ObjOk X.prog X.w (upd H s.heap.objs.size (.tup [.int (i : Nat), x])) h'' s.heap.objs.size (.tup [.int (i : Nat), x]) :=
      ⟨by show 2 ≤ sizeLine; decide, [.int i tk, x'], .cons ⟨_, rfl⟩ (.cons ru .nil), ⟨_, hT2, rfl, _, rfl⟩⟩
    have I1 : Inv X pins σ (upd H s.heap.objs.size (.tup [.int (i : Nat), x])) { s with heap := h'', toks := tk + 1 } :=
      I.turnedNew (ch := [e, it]) (fun b ob hb q => (sb.2 b (fun z => hb (by simp [z]))).trans (hk b ob (fun z => hb (by simp [z])) (fun z => hb (by simp [z])) q)) hf (Nat.le_refl _) new
    refine ⟨.ref s.heap.objs.size, _, I1, rfl, ⟨_, x, rfl, I.hok.fresh (Nat.le_refl _), rfl, fun ys hy => by rw [I.tuple_inj hy hq]; exact hx⟩, ⟨⟨x', ?_⟩, hit'.1.at fun o q => (sb.2 it (Ne.symm hne)).trans q, hne, nai, nae⟩, fun b hb => ?_⟩
    · have e1 : ((i + 1 : Nat) : Int) = (i : Int) + 1 := by omega
      rw [e1]; exact he'
    · have hb' : b < s.heap.objs.size := by
        have e' : b = e ∨ b = it := by simpa using hb
        rcases e' with z | z
        · rw [z]; exact hel
        · rw [z]; exact hil
      rw [upd_ne (Nat.ne_of_lt hb')]
      exact (hf b hb).1
  done := by
    intro X hP hw hK hc i pins s σ H E I hf st hg
    subst hP hw hK
    obtain ⟨⟨old, he⟩, hit, hne, nai, nae⟩ := st
    obtain ⟨xs, hq, hx⟩ := hg
    obtain ⟨its, rv, tp, hz⟩ := I.tuple hq
    obtain ⟨f0, f1, f2, f3, f4, f5⟩ := hf it (by simp)
    have hl := rv.length
    exact enum_endT (I.ok.hd hc) he hit tp (by simp; omega) fun h' eb => ⟨rfl, I.turned (t' := s.toks) (fun b o hb q => eb b o hb q) f0 f1 f3 f4 f5⟩
  self := fun A i s Q E st h => let ⟨⟨_, he⟩, _⟩ := st; wpAny_pyIter_enum he h
def iEnumT (K : PySem.W.Frag) (ta : TA) : TI := fun σ H R => ta σ H fun vs H1 => ∃ a xs, vs = [.ref a] ∧ SqT K H1 a xs ∧ R (Ite2 K a) H1
theorem pi_enumT {X : Cx} {e : Expr} {ta : TA} {p pos tpos : Pos} {elts : List Expr} {kk : Nat} (hg : Gl X "enumerate") (hm : X.mg "enumerate" = none) (ha : PA X [e] ta) (hs : starEach [e] X.env = [(false, eval e X.env)] := by rfl) :
    PI X (.Tuple elts kk tpos) (.Call (.Name "enumerate" p) [e] [] pos) (iEnumT X.K ta) := by
  refine ⟨fun pins s σ H R J h => Call_ (ld_blt J hg hm boot_enumerate (PyProof.Rows.callWith_type1 (thn (ha.run pos pins s σ H _ J h) fun us s1 ⟨vs, H1, J1, r1, q1⟩ => ?_) hs rfl))⟩
  obtain ⟨a, xs, rfl, sq, q⟩ := q1
  cases r1 with
  | cons r rr =>
    cases rr
    cases r
    obtain ⟨its, rv, tp, _⟩ := J1.tuple sq
    refine EZ.call_enum tp fun h' h1 h2 keep => wpAny_pyIter_enum h1 ?_
    have J2 : Inv X pins σ H1 { s1 with heap := h' } := J1.kept (t' := s1.toks) keep
    have lt : a < s1.heap.objs.size := by obtain ⟨_, g, _⟩ := tp; exact Heap.lt_size g
    refine ⟨s1.heap.objs.size + 1, [s1.heap.objs.size + 1, s1.heap.objs.size], _, _, H1, rfl, J2, turn_enumT a _ _, ⟨⟨_, h1⟩, h2, Nat.succ_ne_self _, Nat.ne_of_lt lt, Nat.ne_of_lt (Nat.lt_succ_of_lt lt)⟩, fun b hb => ?_, q⟩
    have le : s1.heap.objs.size ≤ b := by
      have z : b = s1.heap.objs.size + 1 ∨ b = s1.heap.objs.size := by simpa using hb
      rcases z with z | z <;> rw [z]
      · exact Nat.le_add_right _ _
      · exact Nat.le_refl _
    exact J1.fpOk le (J1.hok.fresh le)
theorem walk_enumT {K : PySem.W.Frag} {a : Addr} {xs : List V} : Walk (Ite2 K a) xs.length (fun H => SqT K H a xs) (YPair (fun i => some (.int (i : Nat))) (fun i => xs[i]?)) := by
  refine ⟨fun i _ hi q => ⟨xs, xs[i], q, by simp [hi]⟩, fun _ q => ⟨xs, q, Nat.le_refl _⟩, fun i H v H' _ q y => ?_⟩
  obtain ⟨T, x, h1, h2, h3, h4⟩ := y
  exact ⟨T, .int (i : Nat), x, h1, h2, h3, rfl, h4 xs q⟩
section
variable {X : Cx} {B : Hp} {W0 : Wd} {S : En} {pos px p1 p apos cpos : Pos} {Q : D → Prop} {a b c e e2 o elt iter value : Expr} {es : List Expr} {E : Ends'} {x : Str}
/-- for i, x in enumerate(a tuple) -/
theorem sd_forET {elts : List Expr} {kk : Nat} {tpos : Pos} {body : List Stmt} {l : List D} (hp : PassesOwn (model X.prog X.w) X.A X.env X.xe) (hc : X.calm = true) (hm : X.mg "enumerate" = none) (Inv : Nat → En → Prop) (h : AD X B S [e] fun as => as = [.val (.tup l)] ∧ Inv 0 S)
    (hs : ∀ (i : Nat) d S', l[i]? = some d → Inv i S' → GD X B W0 S' (.Tuple elts kk tpos) (.tup [.int (i : Int), d]) fun S2 => SDs X B W0 S2 body { nx := Inv (i + 1), rt := E.rt, bk := E.nx, ct := Inv (i + 1) })
    (hd : ∀ S', Inv l.length S' → E.nx S') (hg : Gl X "enumerate" := by rfl) (hst : starEach [e] X.env = [(false, eval e X.env)] := by rfl) (hf : ∀ x, foldedSetIterable (.Call (.Name "enumerate" p) [e] [] p1) X.env x = pure x := by intro _; rfl) :
    SD X B W0 S (.For (.Tuple elts kk tpos) (.Call (.Name "enumerate" p) [e] [] p1) body [] pos) E := fun σ W H r z D' k => by
  refine PS.w (ps_for hp hc (pi_enumT hg hm wa_pa hst) wg_pg wss_pss hf) ?_
  refine h σ W H r _ fun as vs W1 H1 s1 ok1 n1 q1 => ?_
  obtain ⟨rfl, i0⟩ := q1
  obtain ⟨v, rfl, m⟩ := one_arg n1
  cases m with
  | @tup _ a xs ha m =>
    refine ⟨a, xs, rfl, SqT.of (ok1.ex _ _ ha), for_it walk_enumT (fun i σ' H' => ∃ S' W', Rep X.K (gOf X) B S' σ' W' H' ∧ Stp W0 B W' H' ∧ Ex W1.I W'.I ∧ Inv i S') ⟨S, W1, r.step s1 ok1, z.trans r.ok s1, Ex.refl _, i0⟩
      (fun i σ' H' _ ⟨S', W', r', _, e', _⟩ => SqT.of (r'.ok.ex _ _ (e' _ _ ha))) ?_ ?_⟩
    · rintro i y σ' H' H2 hi ⟨S', W', r', z', e', i'⟩ ⟨T, x1, x2, rfl, hT, rfl, ex1, ex2⟩
      obtain ⟨d, hd', nd⟩ := m.get ex2
      cases ex1
      have st := Stp.new (o := .tup [.int (i : Nat), x2]) r'.ok hT
      have ok2 := r'.ok.new (o := .tup [.int (i : Nat), x2]) hT
      refine hs i d S' hd' i' σ' _ _ _ (r'.step st ok2) (z'.trans r'.ok st) (.tup (show upd W'.I T _ T = _ from upd_same) (.cons (.int _) (.cons ((nd.mono e').mono st.I) .nil))) _ fun S3 σ3 W3 H3 r3 z3 e3 q3 => ?_
      have e4 := (e'.trans st.I).trans e3
      exact q3 σ3 W3 H3 r3 z3 _ ⟨fun S5 σ5 W5 H5 r5 z5 e5 q5 => ⟨S5, W5, r5, z5, e4.trans e5, q5⟩, fun d5 v5 W5 H5 r5 z5 e5 n5 q5 => k.rt d5 v5 W5 H5 r5 z5 ((s1.I.trans e4).trans e5) n5 q5,
        fun S5 σ5 W5 H5 r5 z5 e5 q5 => k.nx S5 σ5 W5 H5 r5 z5 ((s1.I.trans e4).trans e5) q5, fun S5 σ5 W5 H5 r5 z5 e5 q5 => ⟨S5, W5, r5, z5, e4.trans e5, q5⟩⟩
    · rintro σ' H' ⟨S', W', r', z', e', i'⟩
      rw [← m.length] at i'
      exact k.nx S' σ' W' H' r' z' (s1.I.trans e') (hd S' i')
/-- for i, x in enumerate(a list or a tuple) -/
theorem sd_forES {elts : List Expr} {kk : Nat} {tpos : Pos} {body : List Stmt} {l : List D} {d0 : D} (sd : SeqD d0 l) (hp : PassesOwn (model X.prog X.w) X.A X.env X.xe) (hc : X.calm = true) (hm : X.mg "enumerate" = none) (Inv : Nat → En → Prop) (h : AD X B S [e] fun as => as = [.val d0] ∧ Inv 0 S)
    (hs : ∀ (i : Nat) d S', l[i]? = some d → Inv i S' → GD X B W0 S' (.Tuple elts kk tpos) (.tup [.int (i : Int), d]) fun S2 => SDs X B W0 S2 body { nx := Inv (i + 1), rt := E.rt, bk := E.nx, ct := Inv (i + 1) })
    (hd : ∀ S', Inv l.length S' → E.nx S') (hg : Gl X "enumerate" := by rfl) (hst : starEach [e] X.env = [(false, eval e X.env)] := by rfl) (hf : ∀ x, foldedSetIterable (.Call (.Name "enumerate" p) [e] [] p1) X.env x = pure x := by intro _; rfl) :
    SD X B W0 S (.For (.Tuple elts kk tpos) (.Call (.Name "enumerate" p) [e] [] p1) body [] pos) E := by
  rcases sd with rfl | rfl
  · exact sd_forE hp hc hm Inv h hs hd hg hst hf
  · exact sd_forET hp hc hm Inv h hs hd hg hst hf
end
end DL

set_option Elab.async false
set_option linter.all false
set_option maxRecDepth 100000
set_option maxHeartbeats 4000000
/-! k21: Blend -/
namespace K21
open PySem L2 DL
def dgD (n : Nat) (es : List Ent) : D := if es.isEmpty = true then .non else .int (n : Int)
def bf (C : Addr) (z : List Nat) (n : Nat) (es : List Ent) : List (Str × D) := [("_letters", .str (SX.S z)), ("_degree", dgD n es), ("_amounts", .dcT (kvD C es))]
abbrev Bo (C CB : Addr) (z : List Nat) (n : Nat) (es : List Ent) : D := .obj CB (bf C z n es)
section
variable {C : Addr} {z : List Nat} {n : Nat} {es : List Ent}
theorem lkL : (bf C z n es).lookup ("_letters" : Str) = some (.str (SX.S z)) := rfl
theorem lkD : (bf C z n es).lookup ("_degree" : Str) = some (dgD n es) := by
  unfold bf
  rw [List.lookup_cons, show (("_degree" : Str) == ("_letters" : Str)) = false by decide +kernel]
  rfl
theorem lkA : (bf C z n es).lookup ("_amounts" : Str) = some (.dcT (kvD C es)) := by
  unfold bf
  rw [List.lookup_cons, show (("_amounts" : Str) == ("_letters" : Str)) = false by decide +kernel]
  show List.lookup _ (_ :: _) = _
  rw [List.lookup_cons, show (("_amounts" : Str) == ("_degree" : Str)) = false by decide +kernel]
  rfl
theorem lkN {m : Str} (h1 : (m == ("_letters" : Str)) = false) (h2 : (m == ("_degree" : Str)) = false) (h3 : (m == ("_amounts" : Str)) = false) : (bf C z n es).lookup m = none := by
  unfold bf
  rw [List.lookup_cons, h1, List.lookup_cons, h2, List.lookup_cons, h3]
  rfl
theorem dgD_ne (h : es ≠ []) : dgD n es = .int (n : Int) := by
  unfold dgD
  rw [if_neg (by cases es with
    | nil => exact absurd rfl h
    | cons _ _ => simp)]
end
section
variable {P : Program} {w : World} {K : PySem.W.Frag} {mg : Str → Option Value} {base : Heap} {C CB : Addr}
section
variable {X : Cx} {B : Hp} {S : En} {pos : Pos} {Q : D → Prop} {o : Expr} {z : List Nat} {n : Nat} {es : List Ent}
theorem fL (T : Tb X.K X.mg C CB) (h : ED X B S o fun x => x = Bo C CB z n es ∧ Q (.str (SX.S z))) (hb : attributeBase o "_letters" X.env (eval o X.env) = eval o X.env := by rfl) : ED X B S (.Attribute o "_letters" pos) Q :=
  ed_fld T.nu.cl T.nL (fun σ W H r R c => h σ W H r R fun d v W' H' s ok n' ⟨e, q⟩ => c d v W' H' s ok n' ⟨bf C z n es, _, e, lkL, q⟩) hb
theorem fD (T : Tb X.K X.mg C CB) (h : ED X B S o fun x => x = Bo C CB z n es ∧ Q (dgD n es)) (hb : attributeBase o "_degree" X.env (eval o X.env) = eval o X.env := by rfl) : ED X B S (.Attribute o "_degree" pos) Q :=
  ed_fld T.nu.cl T.nD (fun σ W H r R c => h σ W H r R fun d v W' H' s ok n' ⟨e, q⟩ => c d v W' H' s ok n' ⟨bf C z n es, _, e, lkD, q⟩) hb
theorem fA (T : Tb X.K X.mg C CB) (h : ED X B S o fun x => x = Bo C CB z n es ∧ Q (.dcT (kvD C es))) (hb : attributeBase o "_amounts" X.env (eval o X.env) = eval o X.env := by rfl) : ED X B S (.Attribute o "_amounts" pos) Q :=
  ed_fld T.nu.cl T.nA (fun σ W H r R c => h σ W H r R fun d v W' H' s ok n' ⟨e, q⟩ => c d v W' H' s ok n' ⟨bf C z n es, _, e, lkA, q⟩) hb
end
abbrev spB1 (C CB : Addr) (f : List Nat → Nat → List Ent → D) : SpD := fun as Q => ∃ z n es, as = [.val (Bo C CB z n es)] ∧ Q (f z n es)
theorem sc_letters : FnScope ["self"] ["self"] (defScope (ble 1)) := ⟨rfl, rfl, rfl, by decide +kernel, rfl, by decide +kernel, by decide +kernel⟩
theorem ok_letters {f : Addr} {fd : FuncData} (F : FunS K "letters" "Blend.letters" (ble 1) f fd) (T : Tb K mg C CB) : GnOk P w K mg base 1 f fd ["self"] (lift K (spB1 C CB fun z _ _ => .str (SX.S z))) := by
  refine gn_dl F sc_letters (fun as Q h => by obtain ⟨_, _, _, rfl, _⟩ := h; rfl) (fun cdv A outer s H hr hG W as Q h => ?_)
  obtain ⟨z, n, es, rfl, q⟩ := h
  exact sds_cons (sd_ret (fL T (nm 0 ⟨rfl, q⟩)))
theorem sc_degree : FnScope ["self"] ["self"] (defScope (ble 2)) := ⟨rfl, rfl, rfl, by decide +kernel, rfl, by decide +kernel, by decide +kernel⟩
theorem ok_degree {f : Addr} {fd : FuncData} (F : FunS K "degree" "Blend.degree" (ble 2) f fd) (T : Tb K mg C CB) : GnOk P w K mg base 1 f fd ["self"] (lift K (spB1 C CB fun _ n es => dgD n es)) := by
  refine gn_dl F sc_degree (fun as Q h => by obtain ⟨_, _, _, rfl, _⟩ := h; rfl) (fun cdv A outer s H hr hG W as Q h => ?_)
  obtain ⟨z, n, es, rfl, q⟩ := h
  exact sds_cons (sd_ret (fD T (nm 0 ⟨rfl, q⟩)))
theorem sc_nought : FnScope ["self"] ["self"] (defScope (ble 3)) := ⟨rfl, rfl, rfl, by decide +kernel, rfl, by decide +kernel, by decide +kernel⟩
theorem ok_nought {f : Addr} {fd : FuncData} (F : FunS K "is_nought" "Blend.is_nought" (ble 3) f fd) (T : Tb K mg C CB) : GnOk P w K mg base 1 f fd ["self"] (lift K (spB1 C CB fun _ _ es => .bl es.isEmpty)) := by
  refine gn_dl F sc_nought (fun as Q h => by obtain ⟨_, _, _, rfl, _⟩ := h; rfl) (fun cdv A outer s H hr hG W as Q h => ?_)
  obtain ⟨z, n, es, rfl, q⟩ := h
  refine sds_cons (sd_ret (ed_cmp (fD T (nm 0 ⟨rfl, ed_non (od_isN ?_)⟩))))
  cases es with
  | nil => exact q
  | cons _ _ => exact q
/-! entries -/
abbrev spEnts (C CB : Addr) : SpD := fun as Q => ∃ z n es, as = [.val (Bo C CB z n es)] ∧ (es.map (·.1)).Nodup ∧ es.length ≤ 200 ∧ Q (.lst (enD C es))
theorem sc_entries : FnScope ["self", "counts"] ["self"] (defScope (ble 5)) := ⟨rfl, rfl, rfl, by decide +kernel, rfl, by decide +kernel, by decide +kernel⟩
theorem ok_entries {f : Addr} {fd : FuncData} (F : FunS K "entries" "Blend.entries" (ble 5) f fd) (T : Tb K mg C CB) : GnOk P w K mg base 1 f fd ["self"] (lift K (spEnts C CB)) := by
  refine gn_dl F sc_entries (fun as Q h => by obtain ⟨_, _, _, rfl, _⟩ := h; rfl) (fun cdv A outer s H hr hG W as Q h => ?_)
  obtain ⟨z, n, es, rfl, nde, hl, q⟩ := h
  have nd := sc_entries.nd
  refine sds_cons (sd_ret (ed_fd (fd_lcK (kvs := kvD C es) (fun i acc => acc = enD C (es.take i)) (fun d => itE [some (.val (Bo C CB z n es)), none] [("counts", 1)] 1 d) rfl nd (blkOk_by (by show blkC ["self", "counts"] (defScope (ble 5)) _ _ = true; decide +kernel)) (fun _ _ _ _ _ => pg_name (i := 1) nd rfl (Or.inl rfl)) (fA T (nm 0 ⟨rfl, rfl, by rw [kvD_len]; omega, rfl⟩)) (fun d => pat_name 1 (by simp)) ?_ ?_)))
  · rintro i k d acc hi hacc rfl s2 H0 C2 cl fp
    have hi' : (es.map fun e => (ik e.1, Ra C (fr e.2)))[i]? = some (k, d) := hi
    rw [List.getElem?_map] at hi'
    cases e : es[i]? with
    | none => rw [e] at hi'; cases hi'
    | some x =>
      rw [e] at hi'
      cases hi'
      rw [tD_ik]
      refine ed_tup (ad_cons (nm 1 (ad_cons (ed_dget (un1 hr) (fA T (nm 0 ⟨rfl, nm 1 ⟨_, ik x.1, _, rfl, (tD_ik _).symm, look_kvD nde (List.mem_of_getElem? e), ad_nil ⟨[tI x.1, Ra C (fr x.2)], rfl, by simp, ?_⟩⟩⟩))))))
      rw [enD_snoc e]
  · rintro acc hacc rfl
    rw [kvD_len, List.take_length]
    exact q
/-! == -/
section
variable {X : Cx} {z : List Nat} {n : Nat} {es : List Ent}
theorem rcR_kv (L : Lv X.prog X.w X.K X.mg X.base C) (nde : (es.map (·.1)).Nodup) : RcR X 2 (.dcT (kvD C es)) (.dcT (kvD C es)) := rcR_dct rfl fun k d h => by
  unfold kvD at h
  obtain ⟨e, he, q⟩ := List.mem_map.mp h
  cases q
  exact ⟨_, look_kvD nde he, eqR_Ra L e.2⟩
end
abbrev spBEq (C CB : Addr) : SpD := fun as Q => ∃ z n es, as = [.val (Bo C CB z n es), .val (Bo C CB z n es)] ∧ (es.map (·.1)).Nodup ∧ Q (.bl true)
theorem sc_beq : FnScope ["self", "other"] ["self", "other"] (defScope (ble 10)) := ⟨rfl, rfl, rfl, by decide +kernel, rfl, by decide +kernel, by decide +kernel⟩
theorem ok_beq {f : Addr} {fd : FuncData} (F : FunS K "__eq__" "Blend.__eq__" (ble 10) f fd) (T : Tb K mg C CB) (L : Lv P w K mg base C) : GnOk P w K mg base 4 f fd ["self", "other"] (lift K (spBEq C CB)) := by
  refine gn_dl F sc_beq (fun as Q h => by obtain ⟨_, _, _, rfl, _⟩ := h; rfl) (fun cdv A outer s H hr hG W as Q h => ?_)
  obtain ⟨z, n, es, rfl, nde, q⟩ := h
  refine sds_cons (sd_ret (ed_and (ed_callB T.T.isi (ad_cons (nm 1 (ad_cons (ed_cls T.mB (ad_nil (cd_isi (.obj _ T.is) (.cls _) (same (beq_self_eq_true _)) (kB ?_))))))))))
  show ED _ _ _ _ _
  refine ed_and (ed_cmp (fL T (nm 0 ⟨rfl, fL T (nm 1 ⟨rfl, od_eqs (kB ?_)⟩)⟩)))
  rw [decide_eq_true rfl]
  show ED _ _ _ _ _
  exact ed_one (ed_cmp (fA T (nm 0 ⟨rfl, fA T (nm 1 ⟨rfl, od_eqR (rcR_kv L nde) (hr.mono (j := 2) (by decide)) hG q⟩)⟩)))
/-! check_blend -/
abbrev spCk (C CB : Addr) : SpD := fun as Q => ∃ z n es, as = [.val (Bo C CB z n es)] ∧ Q .non
theorem sc_ck : FnScope ["blend"] ["blend"] (defScope (top 35)) := ⟨rfl, rfl, rfl, by decide +kernel, rfl, by decide +kernel, by decide +kernel⟩
theorem ok_ck {f : Addr} {fd : FuncData} (F : FunS K "check_blend" "check_blend" (top 35) f fd) (T : Tb K mg C CB) : GnOk P w K mg base 1 f fd ["blend"] (lift K (spCk C CB)) := by
  refine gn_dl F sc_ck (fun as Q h => by obtain ⟨_, _, _, rfl, _⟩ := h; rfl) (fun cdv A outer s H hr hG W as Q h => ?_)
  obtain ⟨z, n, es, rfl, q⟩ := h
  refine sds_cons (sd_if (td_not (td_val (ed_callB T.T.isi (ad_cons (nm 0 (ad_cons (ed_cls T.mB (ad_nil (cd_isi (.obj _ T.is) (.cls _) (same (beq_self_eq_true _)) (kB ?_)))))))))))
  exact sds_nil (sds_nil q)
/-! is_list, also of the empty default -/
abbrev spLK (K : PySem.W.Frag) : SpD := fun as Q => ∃ d, as = [.val d] ∧ ((∃ l, d = .lst l ∨ d = .tup l) ∨ ∃ a, d = .cls a ∧ EmpT K a) ∧ Q (.bl true)
theorem ok_islistK {f : Addr} {fd : FuncData} (F : FunS K "is_list" "is_list" sIsList f fd) (T : Txt K mg C) : GnOk P w K mg base 1 f fd ["value"] (lift K (spLK K)) := by
  refine gn_dl F sc_islist (fun as Q h => by obtain ⟨_, rfl, _⟩ := h; rfl) (fun cdv A outer s H hr hG W as Q h => ?_)
  obtain ⟨d, rfl, hd, q⟩ := h
  refine sds_cons (sd_ret (ed_callB T.isi (ad_cons (nm 0 (ad_cons (ed_tup (ad_cons (ed_ty T.list (ad_cons (ed_ty T.tuple (ad_nil ⟨[.ty "list", .ty "tuple"], rfl, by decide, ad_nil ?_⟩)))))))))))
  rcases hd with ⟨l, rfl | rfl⟩ | ⟨a, rfl, em⟩
  · exact cd_isi2 (.lst l) (.ty _) (.ty _) T.l1 q
  · exact cd_isi2 (.tup l) (.ty _) (.ty _) T.l2 q
  · exact cd_isiK em (.ty _) (.ty _) T.l2 q
/-! Blend(letters, entries) -/
def EntD (C : Addr) (b : Nat) (x : D) (e : Ent) : Prop := ∃ kd ad, x = .tup [kd, ad] ∧ SeqD kd (e.1.map D.int) ∧ Nq C b ad e.2
theorem paired_get {α β : Type} {R : α → β → Prop} : ∀ {l : List α} {m : List β} {i : Nat} {x : α}, Paired R l m → l[i]? = some x → ∃ y, m[i]? = some y ∧ R x y
  | _, _, _, _, .nil, e => by simp at e
  | _, _, 0, _, .cons h _, e => by cases e; exact ⟨_, rfl, h⟩
  | _, _, i + 1, _, .cons _ t, e => paired_get (i := i) t e
abbrev spBl (K : PySem.W.Frag) (C : Addr) : SpI := fun as Q => (∃ z, ∃ m n b : Nat, ∃ es xs d0, as = [.val (.str (SX.S z)), .val d0] ∧ SeqD d0 xs ∧ LetZ z ∧ z.length = m ∧ n ≤ 8 ∧ b ≤ 1000 ∧ GE m n b es ∧ Paired (EntD C b) xs es ∧ Q (bf C z n (srt es))) ∨
  (∃ z a, as = [.val (.str (SX.S z)), .val (.cls a)] ∧ LetZ z ∧ EmpT K a ∧ ∀ n, Q (bf C z n []))
theorem cd_tupleS {X : Cx} {Q : D → Prop} {d : D} {l : List D} (sd : SeqD d l) (q : Q (.tup l)) : CD X (.type "tuple") [.val d] Q := by
  rcases sd with rfl | rfl
  · exact cd_tuple q
  · exact cd_tupleT q
abbrev NB : List Str := ["self", "letters", "entries", "amounts", "degree", "position", "entry", "counts"]
theorem sc_binit : FnScope NB ["self", "letters", "entries"] (defScope (ble 0)) := ⟨rfl, rfl, rfl, by decide +kernel, rfl, by decide +kernel, by decide +kernel⟩
theorem dg_take {n : Nat} {es : List Ent} {i : Nat} {e : Ent} (h : es[i]? = some e) : dgD n (es.take (i + 1)) = .int (n : Int) := dgD_ne fun z => by
  rw [List.take_add_one, h] at z
  simp at z
/-- what stands behind the loop -/
theorem binit_end {f : Addr} {cdv : Value} {A : Around} {outer : List Env} {s : Shared} {H B : Hp} {W : Wd} {Q : List (Str × D) → Prop} {p dx : Addr} {z : List Nat} {m n b : Nat} {es : List Ent} {d2 : D} {o5 o6 : Option Sl} (T : Tb K mg C CB)
    (hr : Room 6 (A.deeper (PyProof.Rows.envOfC "Blend.__init__" (defScope (ble 0)) s.heap.objs.size f cdv))) (hz : LetZ z) (hm : z.length = m) (hn : n ≤ 8) (ge : GE m n b es) (n5 : notInst o5 = true) (n6 : notInst o6 = true) (q : Q (bf C z n (srt es))) :
    SDs (Bx P w K mg base NB "Blend.__init__" (ble 0) f cdv A outer s H) B W [some (.inst CB p dx []), some (.val (.str (SX.S z))), some (.val d2), some (.ownT (kvD C es)), some (.val (dgD n es)), o5, o6, none] ((defBody (ble 0)).drop 5) { nx := fun S' => ∃ fs, S'[0]? = some (some (.inst CB p dx fs)) ∧ Q fs, rt := fun _ => False } := by
  have nd := sc_binit.nd
  obtain ⟨tk, me⟩ := T.me
  refine sds_frzT 3 _ rfl ?_
  refine sds_cons (sd_if (td_cmp (ed_callB T.T.len (ad_cons (nm 3 (ad_nil (cd_lenT (ed_gint me (od_gt (kB ?_))))))))))
  rw [decide_eq_false (by rw [kvD_len]; have := ge.ln; omega)]
  refine sds_nil ?_
  refine sds_cons (sd_fld 0 [] T.nu.cl T.nL rfl rfl (by decide) (by simp [notInst, List.all_cons]; exact ⟨n5, n6⟩) (nm 1 ?_))
  refine sds_cons (sd_fld 0 _ T.nu.cl T.nD rfl rfl (by simp [putD]) (by simp [notInst, List.all_cons]; exact ⟨n5, n6⟩) (nm 4 ?_))
  have ed : dgD n es = dgD n (srt es) := by
    unfold dgD
    have : es.isEmpty = (srt es).isEmpty := by
      rw [Bool.eq_iff_iff, List.isEmpty_iff_length_eq_zero, List.isEmpty_iff_length_eq_zero, (srt_perm es).length_eq]
    rw [this]
  have m1 : 1 ≤ m := by rw [← hm]; exact hz.l1
  refine sds_cons (sd_fld 0 _ T.nu.cl T.nA rfl rfl (by simp [putD]; split <;> simp) (by simp [notInst, List.all_cons]; exact ⟨n5, n6⟩) (ed_ft (ft_dcL (l := ((srt es).map (·.1)).map tI) (fun i acc => acc = kvD C ((srt es).take i)) (fun d => itE _ [("counts", 7)] 7 d) rfl (un1 hr) nd (blkOk_by (by show blkC NB (defScope (ble 0)) _ _ = true; decide +kernel)) (fun _ _ _ _ _ => pg_name (i := 7) nd rfl (Or.inl rfl)) (ed_callB T.sorted (ad_cons (nm 3 (ad_nil (cd_sortKb rfl (un100 hr) (dd := m) (B := 9) (ls := es.map (·.1)) m1 kvD_keys (by rw [List.length_map]; have := ge.ln; omega) ?_ ?_))))) (fun d _ => pat_name 7 (by simp)) ?_ ?_)))
  · intro l hl
    obtain ⟨e, he, rfl⟩ := List.mem_map.mp hl
    exact ⟨ge.len e he, ge.bd hn he⟩
  · intro ls' pm pw
    refine ⟨by rw [keys_srt ge hn pm pw], by rw [List.length_map, List.length_map, (srt_perm es).length_eq]; have := ge.ln; omega, rfl⟩
  · rintro i d acc hi rfl s2 H0 C2 cl fp
    rw [List.getElem?_map, List.getElem?_map] at hi
    cases e : (srt es)[i]? with
    | none => rw [e] at hi; cases hi
    | some x =>
      rw [e] at hi
      cases hi
      have mx := (srt_perm es).mem_iff.mp (List.mem_of_getElem? e)
      refine nm 7 ⟨ik x.1, (tD_ik _).symm, fun s3 H3 C3 cl3 fp3 => ed_dget (un1 hr) (nm 3 (nm 7 ⟨_, ik x.1, _, rfl, (tD_ik _).symm, look_kvD ge.nd mx, ?_⟩))⟩
      have fs := fresh (srt_ge ge).nd e
      rw [put_kvD fs, List.take_add_one, e]
      rfl
  · rintro acc rfl
    refine sds_nil ⟨_, rfl, ?_⟩
    rw [List.length_map, List.length_map, List.take_length, ed]
    have e1 : putD "_amounts" (D.dcT (kvD C (srt es))) (putD "_degree" (dgD n (srt es)) (putD "_letters" (D.str (SX.S z)) [])) = bf C z n (srt es) := by
      show putD _ _ (if ("_letters" : Str) = "_degree" then _ else (("_letters" : Str), D.str _) :: [(("_degree" : Str), dgD n (srt es))]) = _
      rw [if_neg (by decide +kernel)]
      show (if ("_letters" : Str) = "_amounts" then _ else (("_letters" : Str), D.str _) :: (if ("_degree" : Str) = "_amounts" then _ else (("_degree" : Str), dgD n (srt es)) :: [(("_amounts" : Str), D.dcT (kvD C (srt es)))])) = _
      rw [if_neg (by decide +kernel), if_neg (by decide +kernel)]
      rfl
    rw [e1]
    exact q
end
end K21

set_option Elab.async false
set_option linter.all false
set_option maxRecDepth 100000
set_option maxHeartbeats 4000000
/-! k21: a Blend made; normal, abnormal -/
namespace K21
open PySem L2 DL
section
variable {P : Program} {w : World} {K : PySem.W.Frag} {mg : Str → Option Value} {base : Heap} {C CB : Addr}
theorem dg_or (n : Nat) (es : List Ent) : dgD n es = .non ∨ dgD n es = .int (n : Int) := by
  unfold dgD
  split
  · exact .inl rfl
  · exact .inr rfl
theorem ok_binit {f : Addr} {fd : FuncData} (F : FunS K "__init__" "Blend.__init__" (ble 0) f fd) (T : Tb K mg C CB) (R : Df P w K mg base "ratio_of" 4 1 (spRat C)) (LE : Df P w K mg base "is_letters" 2 1 spLet) (IL : Df P w K mg base "is_list" 1 1 (spLK K)) (EN : Df P w K mg base "_is_entry" 6 3 (spEntry C)) : GnOk P w K mg base 7 f fd ["self", "letters", "entries"] (liftI K CB (spBl K C)) := by
  refine init_dl F sc_binit (fun as Q h => by rcases h with ⟨_, _, _, _, _, _, _, rfl, _⟩ | ⟨_, _, rfl, _⟩ <;> rfl) (fun cdv A outer s H hr hG W B as Q p dx h => ?_)
  have nd := sc_binit.nd
  rcases h with ⟨z, m, n, b, es, xs, d0, rfl, sd0, hz, hm, hn, hb, ge, pe, q⟩ | ⟨z, a, rfl, hz, em, q⟩
  · refine sds_cons (sd_if (td_not (td_val (ed_call LE (hr.mono (j := 2) (by decide)) hG (ad_cons (nm 1 (ad_nil ⟨z, rfl, hz, kB ?_⟩)))))))
    refine sds_nil (sds_cons (sd_if (td_not (td_val (ed_call IL (hr.mono (j := 1) (by decide)) hG (ad_cons (nm 2 (ad_nil ⟨_, rfl, .inl ⟨xs, sd0⟩, kB ?_⟩))))))))
    refine sds_nil (sds_cons (sd_newT 3 nd rfl (sds_cons (sd_set 4 nd rfl (ed_non ?_)))))
    have lx : xs.length = es.length := Paired.length pe
    have hl : ((SX.S z).length : Int) = (m : Int) := by rw [SX.S_len, hm]
    refine sds_cons (sd_forES (l := xs) sd0 PassesOwn.never rfl T.enum (fun i S' => ∃ o5 o6, notInst o5 = true ∧ notInst o6 = true ∧ S' = [some (.inst CB p dx []), some (.val (.str (SX.S z))), some (.val d0), some (.ownT (kvD C (es.take i))), some (.val (dgD n (es.take i))), o5, o6, none]) (ad_cons (nm 2 (ad_nil ⟨rfl, none, none, rfl, rfl, rfl⟩))) ?_ ?_)
    · rintro i d S' hi ⟨o5, o6, n5, n6, rfl⟩
      obtain ⟨e, he, kd, ad, rfl, sd, na⟩ := paired_get pe hi
      have me := List.mem_of_getElem? he
      have li : i < es.length := (List.getElem?_eq_some_iff.mp he).1
      have fs := fresh ge.nd he
      have ln := ge.ln
      refine gd_tup rfl (gds_cons (gd_name 5 nd rfl (gds_cons (gd_name 6 nd rfl (gds_nil ?_))))) rfl
      refine sds_cons (sd_if (td_of (tw_or (td_not (td_val (ed_call EN (hr.mono (j := 6) (by decide)) hG (ad_cons (nm 6 (ad_cons (ed_callB T.T.len (ad_cons (nm 1 (ad_nil (cd_lenS (z := SX.S z) (by rw [SX.S_len]; have := hz.l8; omega) (ad_cons (nm 4 (ad_nil ⟨kd, e.1, ad, e.2, m, dgD n (es.take i), by rw [hl], sd, ge.len e me, by have := hz.l8; omega, ge.nn e me, by rw [ge.sum e me]; omega, na.mono hb, ge.pos e me, by rw [ge.sum e me]; exact dg_or n (es.take i), kB ?_⟩)))))))))))))))))
      show TW _ _ _ _ _
      refine tw_or1 (td_inT 3 (kvD C (es.take i)) (un1 hr) rfl rfl (ed_callTy T.T.tuple (ad_cons (ed_ix (nm 6 (ed_int ⟨_, 0, kd, .inr rfl, rfl, rfl, ad_nil (cd_tupleS sd ⟨ik e.1, (tD_ik _).symm, ?_⟩)⟩))))))
      rw [look_no fs]
      show SDs _ _ _ _ _ _
      refine sds_nil (sds_cons (sd_putT 3 (kvD C (es.take i)) (un1 hr) rfl rfl (by rw [kvD_len, List.length_take]; omega) (ed_call R (hr.mono (j := 4) (by decide)) hG (ad_cons (ed_ix (nm 6 (ed_int ⟨_, 1, ad, .inr rfl, rfl, rfl, ad_nil ⟨ad, _, rfl, (na.mono (by omega)).nr, ed_callTy T.T.tuple (ad_cons (ed_ix (nm 6 (ed_int ⟨_, 0, kd, .inr rfl, rfl, rfl, ad_nil (cd_tupleS sd ⟨ik e.1, (tD_ik _).symm, ?_⟩)⟩))))⟩⟩)))))))
      refine sds_cons (sd_set 4 nd rfl (ed_callB T.sum (ad_cons (ed_ix (nm 6 (ed_int ⟨_, 0, kd, .inr rfl, rfl, rfl, ad_nil (cd_sumS rfl sd ?_)⟩))))))
      refine sds_nil ⟨some (.val (.int (i : Int))), some (.val (.tup [kd, ad])), rfl, rfl, ?_⟩
      rw [put_kvD fs, dg_take he, ge.sum e me, List.take_add_one, he]
      rfl
    · rintro S' ⟨o5, o6, n5, n6, rfl⟩
      rw [lx, List.take_length]
      exact binit_end T hr hz hm hn ge n5 n6 q
  · refine sds_cons (sd_if (td_not (td_val (ed_call LE (hr.mono (j := 2) (by decide)) hG (ad_cons (nm 1 (ad_nil ⟨z, rfl, hz, kB ?_⟩)))))))
    refine sds_nil (sds_cons (sd_if (td_not (td_val (ed_call IL (hr.mono (j := 1) (by decide)) hG (ad_cons (nm 2 (ad_nil ⟨_, rfl, .inr ⟨a, rfl, em⟩, kB ?_⟩))))))))
    refine sds_nil (sds_cons (sd_newT 3 nd rfl (sds_cons (sd_set 4 nd rfl (ed_non ?_)))))
    refine sds_cons (sd_forEnK em PassesOwn.never rfl T.enum (ad_cons (nm 2 (ad_nil ⟨rfl, ?_⟩))))
    exact binit_end (es := []) (n := 0) (b := 0) T hr hz rfl (by decide) GE.nil rfl rfl (by rw [srt_nil]; exact q 0)
structure Bt (P : Program) (w : World) (K : PySem.W.Frag) (mg : Str → Option Value) (base : Heap) (C CB : Addr) : Prop where
  T : Tb K mg C CB
  L : Lv P w K mg base C
  mkA : Kl P w K mg base "Blend" CB 7 [] (spBl K C)
  mk0 : ∃ a, EmpT K a ∧ Kl P w K mg base "Blend" CB 7 [.cls a] (spBl K C)
  letters : Pr P w K mg base CB "letters" 1 (spB1 C CB fun z _ _ => .str (SX.S z))
  degree : Pr P w K mg base CB "degree" 1 (spB1 C CB fun _ n es => dgD n es)
  nought : Pr P w K mg base CB "is_nought" 1 (spB1 C CB fun _ _ es => .bl es.isEmpty)
  entries : Mt P w K mg base CB "entries" 1 (spEnts C CB)
  beq : Sm P w K mg base CB "__eq__" 4 (spBEq C CB)
  ck : Df P w K mg base "check_blend" 1 1 (spCk C CB)
section
variable {X : Cx} {B : Hp} {S : En} {pos apos : Pos} {Q : D → Prop} {o : Expr} {z : List Nat} {n m b : Nat} {es : List Ent}
theorem pL (V : Bt X.prog X.w X.K X.mg X.base C CB) (hr : Room 2 X.A) (hG : X.A.guards = some (gOf X)) (h : ED X B S o fun x => x = Bo C CB z n es ∧ Q (.str (SX.S z))) (hb : attributeBase o "letters" X.env (eval o X.env) = eval o X.env := by rfl) : ED X B S (.Attribute o "letters" pos) Q :=
  ed_prop V.T.nu.cl V.letters hr hG (fun σ W H r R c => h σ W H r R fun d v W' H' s ok n' ⟨e, q⟩ => c d v W' H' s ok n' ⟨bf C z n es, e, z, n, es, by rw [e], q⟩) hb
theorem pD (V : Bt X.prog X.w X.K X.mg X.base C CB) (hr : Room 2 X.A) (hG : X.A.guards = some (gOf X)) (h : ED X B S o fun x => x = Bo C CB z n es ∧ Q (dgD n es)) (hb : attributeBase o "degree" X.env (eval o X.env) = eval o X.env := by rfl) : ED X B S (.Attribute o "degree" pos) Q :=
  ed_prop V.T.nu.cl V.degree hr hG (fun σ W H r R c => h σ W H r R fun d v W' H' s ok n' ⟨e, q⟩ => c d v W' H' s ok n' ⟨bf C z n es, e, z, n, es, by rw [e], q⟩) hb
theorem pN (V : Bt X.prog X.w X.K X.mg X.base C CB) (hr : Room 2 X.A) (hG : X.A.guards = some (gOf X)) (h : ED X B S o fun x => x = Bo C CB z n es ∧ Q (.bl es.isEmpty)) (hb : attributeBase o "is_nought" X.env (eval o X.env) = eval o X.env := by rfl) : ED X B S (.Attribute o "is_nought" pos) Q :=
  ed_prop V.T.nu.cl V.nought hr hG (fun σ W H r R c => h σ W H r R fun d v W' H' s ok n' ⟨e, q⟩ => c d v W' H' s ok n' ⟨bf C z n es, e, z, n, es, by rw [e], q⟩) hb
theorem mE {pl : Sem Bool} (V : Bt X.prog X.w X.K X.mg X.base C CB) (ge : GE m n b es) (hr : Room 1 X.A) (hG : X.A.guards = some (gOf X)) (h : ED X B S o fun x => x = Bo C CB z n es ∧ Q (.lst (enD C es)))
    (ht : eval (.Call (.Attribute o "entries" apos) [] [] pos) X.env = (do
      let ov ← eval o X.env
      standAt apos.atName
      let (f, first) ← holding [ov] (getMethod ov "entries" pl)
      callWith pos f first (backTo pos (starEach [] X.env)) (backToKw pos (keywordEach [] X.env))) := by rfl) : ED X B S (.Call (.Attribute o "entries" apos) [] [] pos) Q :=
  ed_meth0 V.T.nu.cl V.entries hr hG (fun σ W H r R c => h σ W H r R fun d v W' H' s ok n' ⟨e, q⟩ => c d v W' H' s ok n' ⟨bf C z n es, e, lkN (by decide +kernel) (by decide +kernel) (by decide +kernel), z, n, es, by rw [e], ge.nd, ge.ln, q⟩) ht
/-- blends that are the same -/
theorem od_eqB (V : Bt X.prog X.w X.K X.mg X.base C CB) (nde : (es.map (·.1)).Nodup) (hr : Room 4 X.A) (hG : X.A.guards = some (gOf X)) (q : Q (.bl true)) : OD X (compareOp .Eq) (Bo C CB z n es) (Bo C CB z n es) Q :=
  od_eqO V.T.nu V.beq hr hG ⟨z, n, es, rfl, nde, q⟩
end
theorem pe_en {b : Nat} : ∀ {es : List Ent}, (∀ e ∈ es, Bq b e.2) → Paired (EntD C b) (enD C es) es
  | [], _ => .nil
  | e :: es, h => .cons ⟨tI e.1, Ra C (fr e.2), rfl, .inr rfl, .rat _ (h e (List.mem_cons_self ..))⟩ (pe_en fun e he => h e (List.mem_cons_of_mem _ he))
structure Okb (z : List Nat) (m n b : Nat) (es : List Ent) : Prop where
  hz : LetZ z
  hm : z.length = m
  hn : n ≤ 8
  hb : b ≤ 800
  ge : GE m n b es
  so : srt es = es
abbrev spNorm (C CB : Addr) (g : Ent → Ent) : SpD := fun as Q => ∃ z, ∃ m n b : Nat, ∃ es, as = [.val (Bo C CB z n es)] ∧ Okb z m n b es ∧ Q (Bo C CB z n (es.map g))
end
end K21

set_option Elab.async false
set_option linter.all false
set_option maxRecDepth 100000
set_option maxHeartbeats 4000000
/-! k21: amount, +, scaled -/
namespace K21
open PySem L2 DL
section
variable {P : Program} {w : World} {K : PySem.W.Frag} {mg : Str → Option Value} {base : Heap} {C CB : Addr}
/-! the amount at a key -/
def amt (es : List Ent) (k : List Int) : Rat := ((es.find? fun e => decide (e.1 = k)).map (·.2)).getD 0
theorem amt_look {es : List Ent} (k : List Int) : (look (kvD C es) (ik k)).getD (Ra C (fr 0)) = Ra C (fr (amt es k)) := by
  unfold amt look kvD
  rw [List.find?_map]
  have e : ((fun kv : List Key × D => decide (kv.1 = ik k)) ∘ fun e : Ent => (ik e.1, Ra C (fr e.2))) = fun e : Ent => decide (e.1 = k) := funext fun e => by
    show decide (ik e.1 = ik k) = decide (e.1 = k)
    by_cases h : e.1 = k
    · rw [decide_eq_true h, decide_eq_true (by rw [h])]
    · rw [decide_eq_false h, decide_eq_false fun z => h (ik_inj z)]
  rw [e]
  cases es.find? fun e => decide (e.1 = k) with
  | none => rfl
  | some x => rfl
abbrev spAmount (C CB : Addr) : SpD := fun as Q => ∃ z n es kd, ∃ k : List Int, as = [.val (Bo C CB z n es), .val kd] ∧ SeqD kd (k.map D.int) ∧ k.length = z.length ∧ z.length ≤ 8 ∧ (∀ c ∈ k, (0 : Int) ≤ c) ∧ Q (Ra C (fr (amt es k)))
theorem sc_amount : FnScope ["self", "counts"] ["self", "counts"] (defScope (ble 6)) := ⟨rfl, rfl, rfl, by decide +kernel, rfl, by decide +kernel, by decide +kernel⟩
theorem ok_amount {f : Addr} {fd : FuncData} (F : FunS K "amount" "Blend.amount" (ble 6) f fd) (V : Bt P w K mg base C CB) (CO : Df P w K mg base "is_counts" 3 2 spCounts) : GnOk P w K mg base 4 f fd ["self", "counts"] (lift K (spAmount C CB)) := by
  refine gn_dl F sc_amount (fun as Q h => by obtain ⟨_, _, _, _, _, rfl, _⟩ := h; rfl) (fun cdv A outer s H hr hG W as Q h => ?_)
  obtain ⟨z, n, es, kd, k, rfl, sd, hl, h8, nn, q⟩ := h
  have T := V.T
  have hz : ((SX.S z).length : Int) = (z.length : Int) := by rw [SX.S_len]
  refine sds_cons (sd_if (td_not (td_val (ed_call CO (hr.mono (j := 3) (by decide)) hG (ad_cons (nm 1 (ad_cons (ed_callB T.T.len (ad_cons (fL T (nm 0 ⟨rfl, ad_nil (cd_lenS (z := SX.S z) (by rw [SX.S_len]; omega) (ad_nil ⟨kd, k, z.length, by rw [hz], sd, hl, by omega, nn, kB ?_⟩))⟩)))))))))))
  refine sds_nil (sds_cons (sd_ret (ed_get2 (un1 hr) (fA T (nm 0 ⟨rfl, _, rfl, ed_callTy T.T.tuple (ad_cons (nm 1 (ad_nil (cd_tupleS sd (ed_make V.L.V.mk1 (hr.mono (j := 3) (by decide)) hG (ad_cons (ed_int (ad_nil (mk_ok (n := 1) (by decide) (by decide) (by decide) (by decide) ⟨ik k, (tD_ik _).symm, ?_⟩)))))))))⟩)))))
  rw [low_one]
  show Q ((look (kvD C es) (ik k)).getD (Ra C (fr 0)))
  rw [amt_look]
  exact q
/-! gathered, keys more than once -/
def insE (acc : List Ent) (p : Ent) : List Ent := if p.1 ∈ acc.map (·.1) then acc.map (fun e => if e.1 = p.1 then (e.1, e.2 + p.2) else e) else acc ++ [p]
def gath (ps : List Ent) : List Ent := ps.foldl insE []
theorem insE_keys {acc : List Ent} {p : Ent} : (insE acc p).map (·.1) = if p.1 ∈ acc.map (·.1) then acc.map (·.1) else acc.map (·.1) ++ [p.1] := by
  unfold insE
  split
  · rw [List.map_map]
    refine List.map_congr_left fun e _ => ?_
    show (if e.1 = p.1 then (e.1, e.2 + p.2) else e).1 = e.1
    split <;> rfl
  · rw [List.map_append]; rfl
theorem insE_nd {acc : List Ent} {p : Ent} (h : (acc.map (·.1)).Nodup) : ((insE acc p).map (·.1)).Nodup := by
  rw [insE_keys]
  split
  · exact h
  · rename_i c
    rw [List.nodup_append]
    exact ⟨h, by simp, fun a ha b hb z => by rw [List.mem_singleton] at hb; rw [z, hb] at ha; exact c ha⟩
theorem insE_len {acc : List Ent} {p : Ent} : (insE acc p).length ≤ acc.length + 1 := by
  unfold insE
  split
  · rw [List.length_map]; omega
  · rw [List.length_append, List.length_singleton]; omega
theorem gath_snoc {ps : List Ent} {i : Nat} {p : Ent} (h : ps[i]? = some p) : gath (ps.take (i + 1)) = insE (gath (ps.take i)) p := by
  unfold gath
  rw [List.take_add_one, h, List.foldl_append]
  rfl
theorem gath_nd : ∀ {ps : List Ent} (i : Nat), ((gath (ps.take i)).map (·.1)).Nodup ∧ (gath (ps.take i)).length ≤ i
  | ps, 0 => by rw [List.take_zero]; exact ⟨.nil, Nat.le_refl _⟩
  | ps, i + 1 => by
    obtain ⟨h1, h2⟩ := gath_nd (ps := ps) i
    cases e : ps[i]? with
    | none =>
      have l := List.getElem?_eq_none_iff.mp e
      have z : ps.take (i + 1) = ps.take i := by rw [List.take_of_length_le (by omega : ps.length ≤ i + 1), List.take_of_length_le l]
      rw [z]
      exact ⟨h1, by omega⟩
    | some p =>
      rw [gath_snoc e]
      exact ⟨insE_nd h1, Nat.le_trans insE_len (by omega)⟩
abbrev spGathG (C : Addr) : SpD := fun as Q => ∃ ps : List Ent, as = [.val (.lst (enD C ps))] ∧ ps.length ≤ 4000 ∧ (∀ e ∈ ps, Bq 3000 e.2) ∧ (∀ i, ∀ e ∈ gath (ps.take i), Bq 3000 e.2) ∧ Q (.lst (enD C (gath ps)))
theorem put_ins {acc : List Ent} {k : List Int} {r : Rat} {x : Ent} (nd : (acc.map (·.1)).Nodup) (hx : x ∈ acc) (hk : x.1 = k) : putE (kvD C acc) (ik k) (Ra C (fr (x.2 + r))) = kvD C (insE acc (k, r)) := by
  have hm : k ∈ acc.map (·.1) := by rw [← hk]; exact List.mem_map_of_mem hx
  unfold putE insE
  have h : DL.has (kvD C acc) (ik k) = true := by
    unfold DL.has
    rw [List.any_eq_true]
    exact ⟨(ik x.1, Ra C (fr x.2)), List.mem_map_of_mem hx, decide_eq_true (by rw [hk])⟩
  rw [if_pos h, if_pos hm]
  unfold kvD
  rw [List.map_map, List.map_map]
  refine List.map_congr_left fun e he => ?_
  show (if ik e.1 = ik k then (ik e.1, Ra C (fr (x.2 + r))) else (ik e.1, Ra C (fr e.2))) = (fun e : Ent => (ik e.1, Ra C (fr e.2))) (if e.1 = k then (e.1, e.2 + r) else e)
  by_cases y : e.1 = k
  · rw [if_pos (by rw [y]), if_pos y, nd_inj nd he hx (by rw [y, hk])]
  · rw [if_neg (fun z => y (ik_inj z)), if_neg y]
theorem ok_gathG {f : Addr} {fd : FuncData} (F : FunS K "gathered" "gathered" (top 31) f fd) (L : Lv P w K mg base C) : GnOk P w K mg base 7 f fd ["pairs"] (lift K (spGathG C)) := by
  refine gn_dl F sc_gath (fun as Q h => by obtain ⟨_, rfl, _⟩ := h; rfl) (fun cdv A outer s H hr hG W as Q h => ?_)
  obtain ⟨ps, rfl, hl, bp, bg, q⟩ := h
  have nd := sc_gath.nd
  refine sds_cons (sd_newT 1 nd rfl ?_)
  refine sds_cons (sd_forL (l := enD C ps) PassesOwn.never rfl (fun i S' => ∃ o2 o3, S' = [some (.val (.lst (enD C ps))), some (.ownT (kvD C (gath (ps.take i)))), o2, o3]) (nm 0 ⟨rfl, none, none, rfl⟩) ?_ ?_)
  · rintro i d S' hi ⟨o2, o3, rfl⟩
    obtain ⟨e, he, rfl⟩ := enD_get hi
    obtain ⟨gn, gl⟩ := gath_nd (ps := ps) i
    have li : i < ps.length := (List.getElem?_eq_some_iff.mp he).1
    refine gd_tup rfl (gds_cons (gd_name 2 nd rfl (gds_cons (gd_name 3 nd rfl (gds_nil ?_))))) rfl
    refine sds_cons (sd_putT 1 (kvD C (gath (ps.take i))) (un1 hr) rfl rfl (by rw [kvD_len]; omega) (ed_ifx (td_inT 1 (kvD C (gath (ps.take i))) (un1 hr) rfl rfl (nm 2 ⟨ik e.1, (tD_ik _).symm, ?_⟩))))
    by_cases c : e.1 ∈ (gath (ps.take i)).map (·.1)
    · obtain ⟨x, hx, ex⟩ := List.mem_map.mp c
      have lk := look_kvD (C := C) gn hx
      rw [ex] at lk
      rw [lk]
      show ED _ _ _ _ _
      refine ed_bin (ed_getT 1 (kvD C (gath (ps.take i))) (un1 hr) rfl rfl (nm 2 ⟨ik e.1, _, (tD_ik _).symm, lk, nm 3 (od_addQ L (hr.mono (j := 6) (by decide)) hG (bg i x hx) (.rat _ (bp e (List.mem_of_getElem? he))) (nm 2 ⟨ik e.1, (tD_ik _).symm, sds_nil ⟨some (Sl.val (tI e.1)), some (Sl.val (Ra C (fr e.2))), ?_⟩⟩))⟩))
      rw [put_ins gn hx ex, gath_snoc he]
      rfl
    · rw [look_no c]
      show ED _ _ _ _ _
      refine nm 3 (nm 2 ⟨ik e.1, (tD_ik _).symm, sds_nil ⟨some (Sl.val (tI e.1)), some (Sl.val (Ra C (fr e.2))), ?_⟩⟩)
      rw [put_kvD c, gath_snoc he]
      unfold insE
      rw [if_neg c]
      rfl
  · rintro S' ⟨o2, o3, rfl⟩
    rw [enD_len, List.take_length]
    have gn := (gath_nd (ps := ps) ps.length).1
    have gl := (gath_nd (ps := ps) ps.length).2
    rw [List.take_length] at gn gl
    refine sds_frzT 1 _ rfl ?_
    refine sds_cons (sd_ret (ed_fd (fd_lcK (kvs := kvD C (gath ps)) (fun i acc => acc = enD C ((gath ps).take i)) (fun d => itE [some (.val (.lst (enD C ps))), some (.val (.dcT (kvD C (gath ps)))), o2, o3] [("counts", 2)] 2 d) rfl nd (blkOk_by (by show blkC ["pairs", "amounts", "counts", "amount"] (defScope (top 31)) _ _ = true; decide +kernel)) (fun _ _ _ _ _ => pg_name (i := 2) nd rfl (Or.inl rfl)) (nm 1 ⟨rfl, by rw [kvD_len]; omega, rfl⟩) (fun d => pat_name 2 (by simp)) ?_ ?_)))
    · rintro i k d acc hi hacc rfl s2 H0 C2 cl fp
      have hi' : ((gath ps).map fun e => (ik e.1, Ra C (fr e.2)))[i]? = some (k, d) := hi
      rw [List.getElem?_map] at hi'
      cases e : (gath ps)[i]? with
      | none => rw [e] at hi'; cases hi'
      | some x =>
        rw [e] at hi'
        cases hi'
        rw [tD_ik]
        refine ed_tup (ad_cons (nm 2 (ad_cons (ed_dget (un1 hr) (nm 1 (nm 2 ⟨_, ik x.1, _, rfl, (tD_ik _).symm, look_kvD gn (List.mem_of_getElem? e), ad_nil ⟨[tI x.1, Ra C (fr x.2)], rfl, by simp, ?_⟩⟩))))))
        rw [enD_snoc e]
    · rintro acc hacc rfl
      rw [kvD_len, List.take_length]
      exact q
/-! + -/
abbrev spBAdd (C CB : Addr) : SpD := fun as Q => ∃ z, ∃ m n n2 n3 b : Nat, ∃ es fs, as = [.val (Bo C CB z n es), .val (Bo C CB z n2 fs)] ∧ LetZ z ∧ z.length = m ∧ n3 ≤ 8 ∧ b ≤ 1000 ∧ GE m n b es ∧ GE m n2 b fs ∧ (es = [] ∨ fs = [] ∨ n = n2) ∧ (∀ i, ∀ e ∈ gath ((es ++ fs).take i), Bq 3000 e.2) ∧ GE m n3 b (gath (es ++ fs)) ∧ Q (Bo C CB z n3 (srt (gath (es ++ fs))))
theorem sc_badd : FnScope ["self", "other", "alike"] ["self", "other"] (defScope (ble 7)) := ⟨rfl, rfl, rfl, by decide +kernel, rfl, by decide +kernel, by decide +kernel⟩
theorem ok_badd {f : Addr} {fd : FuncData} (F : FunS K "__add__" "Blend.__add__" (ble 7) f fd) (V : Bt P w K mg base C CB) (GA : Df P w K mg base "gathered" 7 1 (spGathG C)) : GnOk P w K mg base 9 f fd ["self", "other"] (lift K (spBAdd C CB)) := by
  refine gn_dl F sc_badd (fun as Q h => by obtain ⟨_, _, _, _, _, _, _, _, rfl, _⟩ := h; rfl) (fun cdv A outer s H hr hG W as Q h => ?_)
  obtain ⟨z, m, n, n2, n3, b, es, fs, rfl, hz, hm, hn, hb, ge, gf, al, bg, gg, q⟩ := h
  have nd := sc_badd.nd
  have T := V.T
  have l1 := ge.ln
  have l2 := gf.ln
  refine sds_cons (sd_if (td_not (td_val (ed_callB T.T.isi (ad_cons (nm 1 (ad_cons (ed_cls T.mB (ad_nil (cd_isi (.obj _ T.is) (.cls _) (same (beq_self_eq_true _)) (kB ?_)))))))))))
  refine sds_nil ?_
  have fin : SDs (Bx P w K mg base ["self", "other", "alike"] "Blend.__add__" (ble 7) f cdv A outer s H) H W [some (.val (Bo C CB z n es)), some (.val (Bo C CB z n2 fs)), some (.val (.bl true))] ((defBody (ble 7)).drop 2) { nx := fun _ => Q .non, rt := Q } := by
    refine sds_cons (sd_if (td_of (tw_or (td_cmp (pL V (hr.mono (j := 2) (by decide)) hG (nm 0 ⟨rfl, pL V (hr.mono (j := 2) (by decide)) hG (nm 1 ⟨rfl, od_nes (kB ?_)⟩)⟩))))))
    rw [decide_eq_true rfl]
    show TW _ _ _ _ _
    refine tw_or1 (td_not (td_val (nm 2 (kB ?_))))
    show SDs _ _ _ _ _ _
    refine sds_nil (sds_cons (sd_ret (ed_makeA V.mkA (hr.mono (j := 8) (by decide)) hG (ad_cons (pL V (hr.mono (j := 2) (by decide)) hG (nm 0 ⟨rfl, ad_cons (ed_call GA (hr.mono (j := 7) (by decide)) hG (ad_cons (ed_bin (mE V ge (hr.mono (j := 1) (by decide)) hG (nm 0 ⟨rfl, mE V gf (hr.mono (j := 1) (by decide)) hG (nm 1 ⟨rfl, od_catL (by rw [enD_len, enD_len]; omega) (ad_nil ⟨es ++ fs, by rw [enD_app], by rw [List.length_append]; omega, ?_, bg, ad_nil (.inl ⟨z, m, n3, b, gath (es ++ fs), _, _, rfl, .inl rfl, hz, hm, hn, hb, gg, pe_en gg.bq, q⟩)⟩)⟩)⟩)))))⟩))))))
    intro e he
    rcases List.mem_append.mp he with y | y
    · exact (ge.bq e y).le (by omega)
    · exact (gf.bq e y).le (by omega)
  refine sds_cons (sd_set 2 nd rfl (ed_or (pN V (hr.mono (j := 2) (by decide)) hG (nm 0 ⟨rfl, kB ?_⟩))))
  cases c : es.isEmpty with
  | true => exact fin
  | false =>
    show ED _ _ _ _ _
    refine ed_or (pN V (hr.mono (j := 2) (by decide)) hG (nm 1 ⟨rfl, kB ?_⟩))
    cases c2 : fs.isEmpty with
    | true => exact fin
    | false =>
      show ED _ _ _ _ _
      have ne : es ≠ [] := fun y => by rw [y] at c; cases c
      have nf : fs ≠ [] := fun y => by rw [y] at c2; cases c2
      have e : n = n2 := by
        rcases al with y | y | y
        · exact absurd y ne
        · exact absurd y nf
        · exact y
      subst e
      refine ed_one (ed_cmp (pD V (hr.mono (j := 2) (by decide)) hG (nm 0 ⟨rfl, pD V (hr.mono (j := 2) (by decide)) hG (nm 1 ⟨rfl, ?_⟩)⟩)))
      rw [dgD_ne ne, dgD_ne nf]
      refine od_eqi ?_
      rw [decide_eq_true rfl]
      exact fin
/-! scaled -/
def scE (r : Rat) (e : Ent) : Ent := (e.1, e.2 * r)
abbrev spScaled (C CB : Addr) : SpD := fun as Q => ∃ z, ∃ m n b c : Nat, ∃ es x r, as = [.val (Bo C CB z n es), .val x] ∧ Okb z m n b es ∧ Nq C c x r ∧ 0 < r ∧ b + c ≤ 800 ∧ Q (Bo C CB z n (es.map (scE r)))
end
end K21

set_option Elab.async false
set_option linter.all false
set_option maxRecDepth 100000
set_option maxHeartbeats 8000000
/-! k21: what the law draws; its own fractions -/
namespace K21
open PySem L2 DL
section
variable {X : Cx} {B : Hp} {W0 : Wd} {S : En} {st : Stmt} {E : Ends'}
theorem sd_mid (QS : En → Prop) (k : ∀ S', QS S' → E.nx S') (h : SD X B W0 S st { E with nx := QS }) : SD X B W0 S st E := fun σ W H r z D' q => h σ W H r z D' ⟨fun S' σ' W' H' r' z' x' y => q.nx S' σ' W' H' r' z' x' (k S' y), q.rt, q.bk, q.ct⟩
end
section
variable {P : Program} {w : World} {K : PySem.W.Frag} {mg : Str → Option Value} {base : Heap} {C : Addr}
abbrev spPot : SpN := fun as Q => ∃ ns, ∃ k : Nat, as = [.val (.frl ns), .val (.int (k : Int))] ∧ k < 100 ∧ ∀ a b : Int, 0 ≤ b ∧ b < 2 ^ 31 → Q [.int a, .int b]
theorem sc_pot : FnScope ["_law_script", "_law_k", "_law_cell"] ["_law_script", "_law_k"] (defScope (top 43)) := ⟨rfl, rfl, rfl, by decide +kernel, rfl, by decide +kernel, by decide +kernel⟩
theorem ok_pot {f : Addr} {fd : FuncData} (F : FunS K "_law_pot" "_law_pot" (top 43) f fd) (T : Txt K mg C) : GnOk P w K mg base 1 f fd ["_law_script", "_law_k"] (liftN K spPot) := by
  refine gn_new F sc_pot (fun as Q h => by obtain ⟨_, _, rfl, _⟩ := h; rfl) (fun cdv A outer s H hr hG W as Q h => ?_)
  obtain ⟨ns, k, rfl, hk, q⟩ := h
  have nd := sc_pot.nd
  have rest : ∀ z : Int, SN (Bx P w K mg base ["_law_script", "_law_k", "_law_cell"] "_law_pot" (top 43) f cdv A outer s H) H W [some (.val (.frl ns)), some (.val (.int (k : Int))), some (.val (.int z))] ((defBody (top 43)).drop 1) Q := fun z => by
    refine sn_ret (fd_lst (ad_cons (ed_callB T.max (ad_cons (ed_int (ad_cons (ed_bin (nm 2 (ed_bin (ed_int (ed_int (od_pow ⟨by decide, by decide, by decide⟩ (od_sub (ad_nil (cd_max rfl (ad_cons (ed_bin (ed_bin (ed_callTy T.int (ad_cons (ed_bin (ed_bin (ed_bin (ed_bin (ed_callTy T.int (ad_cons (nm 2 (ad_nil (cd_int (ed_int (od_mod (by decide) (ed_int (od_mulS (.inr (by decide)) (ed_bin (ed_int (nm 1 (od_mulS (.inl (by decide)) (od_add (ed_int (od_add (ad_nil (cd_int (ed_int (od_mod (by decide) (ed_int (od_add (ad_nil ⟨[.int _, .int _], rfl, by simp, q _ _ ?_⟩)))))))))))))))))))))))))))))))))))))))))))))))
    constructor <;> omega
  refine sn_cons (sd_mid (fun S' => ∃ z : Int, S' = [some (.val (.frl ns)), some (.val (.int (k : Int))), some (.val (.int z))]) ?_ (sd_set 2 nd rfl (ed_ifx (td_cmp (nm 1 (ed_callB T.len (ad_cons (nm 0 (ad_nil (cd_lenF (od_lt (kB ?_))))))))))))
  · rintro S' ⟨z, rfl⟩
    exact rest z
  · by_cases c : k < ns.length
    · rw [decide_eq_true (by omega)]
      exact ed_callB T.abs (ad_cons (ed_ixF (nm 0 (nm 1 ⟨_, k, ns[k], rfl, rfl, List.getElem?_eq_getElem c, ad_nil (cd_abs ⟨_, rfl⟩)⟩))))
    · rw [decide_eq_false (by omega)]
      exact ed_bin (ed_bin (ed_int (nm 1 (od_mulS (.inl (by decide)) (ed_int (od_add ⟨_, rfl⟩))))))
theorem sc_draw : FnScope ["_law_pot_here", "_law_many", "_law_digit"] ["_law_pot_here", "_law_many"] (defScope (top 44)) := ⟨rfl, rfl, rfl, by decide +kernel, rfl, by decide +kernel, by decide +kernel⟩
abbrev spDraw : SpD := fun as Q => ∃ n : Int, as = [.pot, .val (.int n)] ∧ 0 < n ∧ n < 1073741824 ∧ ∀ d : Nat, (d : Int) < n → Q (.int (d : Int))
theorem small_mul {a b : Int} (h : 0 ≤ a ∧ a < 2 ^ 31) (k : 0 ≤ b ∧ b < 2 ^ 31) : (-(2 ^ 64) < a ∧ a < 2 ^ 64) ∨ (-(2 ^ 64) < b ∧ b < 2 ^ 64) := .inl (by omega)
theorem ok_draw {f : Addr} {fd : FuncData} (F : FunS K "_law_draw" "_law_draw" (top 44) f fd) (T : Txt K mg C) : GnOk P w K mg base 1 f fd ["_law_pot_here", "_law_many"] (lift K spDraw) := by
  refine gn_dl F sc_draw (fun as Q h => by obtain ⟨n, rfl, _⟩ := h; rfl) (fun cdv A outer s H hr hG W as Q h => ?_)
  obtain ⟨n, rfl, h0, h1, q'⟩ := h
  have q : ∀ d : Int, 0 ≤ d → d < n → Q (.int d) := fun d d0 d1 => by
    have := q' d.toNat (by rw [Int.toNat_of_nonneg d0]; exact d1)
    rw [Int.toNat_of_nonneg d0] at this
    exact this
  have nd := sc_draw.nd
  refine sds_cons (sd_if (td_cmp (ed_potix (j := 0) 0 rfl rfl (by decide) fun z _ => ed_int (od_gt (kB ?_)))))
  cases decide (0 < z) with
  | true =>
    refine sds_cons (sd_asg (ed_callB T.divmod (ad_cons (ed_potix (j := 0) 0 rfl rfl (by decide) fun z _ => ad_cons (nm 1 (ad_nil (cd_divmod ⟨h0, h1⟩ ?_)))))))
    refine gd_tup rfl (gds_cons (gd_pot (j := 0) 0 rfl rfl (by decide) (fun z => absurd z (by decide)) (gds_cons (gd_name 2 nd rfl (gds_nil ?_))))) rfl
    exact sds_cons (sd_ret (nm 2 (q _ (Int.emod_nonneg _ (by omega)) (Int.emod_lt_of_pos _ h0))))
  | false =>
    refine sds_nil (sds_cons (sd_asg (ed_bin (ed_callTy T.int (ad_cons (ed_bin (ed_bin (ed_potix (j := 1) 0 rfl rfl (by decide) fun z hz => ed_int (od_mulS (.inr (by decide)) (ed_int (od_add (ad_nil (cd_int (ed_int (od_mod (by decide) ?_)))))))))))))))
    refine gd_pot (j := 1) 0 rfl rfl (by decide) (fun _ => ⟨Int.emod_nonneg _ (by decide), Int.lt_trans (Int.emod_lt_of_pos _ (by decide)) (by decide)⟩) ?_
    refine sds_cons (sd_ret (ed_bin (ed_callTy T.int (ad_cons (ed_bin (ed_bin (ed_callTy T.int (ad_cons (ed_bin (ed_potix (j := 1) 0 rfl rfl (by decide) fun y hy => ed_potix (j := 1) 0 rfl rfl (by decide) fun x hx => od_mulS (small_mul (hy rfl) (hx rfl)) (ad_nil (cd_int (ed_int (od_mod (by decide) (ed_int (od_fdiv ⟨by decide, by decide⟩ (ad_nil (cd_int (nm 1 (od_mod h0 ?_))))))))))))))))))))
    exact q _ (Int.emod_nonneg _ (by omega)) (Int.emod_lt_of_pos _ h0)
theorem sc_pick : FnScope ["_law_pot_here", "_law_some"] ["_law_pot_here", "_law_some"] (defScope (top 45)) := ⟨rfl, rfl, rfl, by decide +kernel, rfl, by decide +kernel, by decide +kernel⟩
abbrev spPick : SpD := fun as Q => ∃ l : List D, as = [.pot, .val (.lst l)] ∧ 0 < l.length ∧ l.length < 1000 ∧ ∀ d ∈ l, Q d
theorem ok_pick {f : Addr} {fd : FuncData} (F : FunS K "_law_pick" "_law_pick" (top 45) f fd) (T : Txt K mg C) (G : Df P w K mg base "_law_draw" 1 2 spDraw) : GnOk P w K mg base 2 f fd ["_law_pot_here", "_law_some"] (lift K spPick) := by
  refine gn_dl F sc_pick (fun as Q h => by obtain ⟨n, rfl, _⟩ := h; rfl) (fun cdv A outer s H hr hG W as Q h => ?_)
  obtain ⟨l, rfl, h0, h1, q⟩ := h
  refine sds_cons (sd_ret (ed_ix (nm 1 (ed_call G hr hG (ad_pot 0 rfl rfl (ad_cons (ed_callB T.len (ad_cons (nm 1 (ad_nil (cd_len (.inl rfl) (ad_nil ⟨(l.length : Int), rfl, by omega, by omega, fun d d1 => ?_⟩))))))))))))
  have hd : d < l.length := by omega
  exact ⟨l, d, l[d], .inl rfl, rfl, atI_nat (List.getElem?_eq_getElem hd), q _ (List.getElem_mem _)⟩
abbrev spLow : SpD := fun as Q => ∃ t b, as = [.val (.int t), .val (.int b)] ∧ b ≠ 0 ∧ t.natAbs < 2 ^ 8000 ∧ b.natAbs < 2 ^ 8000 ∧ Q (pr (low t b))
section
variable {X : Cx} {B : Hp} {S : En} {pos pos2 : Pos} {Q : D → Prop} {o : Expr} {j2 : Option Str}
end
abbrev spFF (f : Fr → Fr → Fr) : SpD := fun as Q => ∃ p q, as = [.val (pr p), .val (pr q)] ∧ Bd 3000 p ∧ Bd 3000 q ∧ Q (pr (f p q))
theorem dv_pos {a b : Int} (ha : 0 < a) (hb : 0 < b) : 0 < Rat.divInt a b := by
  rw [Rat.divInt_eq_div, Rat.div_def]
  exact Rat.mul_pos (Rat.intCast_pos.mpr ha) (Rat.inv_pos.mpr (Rat.intCast_pos.mpr hb))
abbrev prq (r : Rat) : D := pr (fr r)
abbrev spAm : SpD := fun as Q => as = [.pot] ∧ ∀ r : Rat, 0 < r → Bq 10 r → Q (prq r)
end
end K21

set_option Elab.async false
set_option linter.all false
set_option maxRecDepth 100000
set_option maxHeartbeats 4000000
/-! small rules: x[e] of an owned list; s[:i]; min of two; an if whose branches want little; dict != dict, both the same -/
namespace DL
open PySem PySem.Spec PyProof.Rows L2
section
variable {X : Cx} {B : Hp} {W0 : Wd} {S : En} {pos px p2 : Pos} {Q : D → Prop} {e b : Expr} {x : Str}
theorem cd_min2 {i j : Int} (hc : X.calm = true) (q : Q (.int (if j < i then j else i))) : CD X (.builtin "min") [.val (.int i), .val (.int j)] Q := cd_of (call_min2 hc) fun vs W H ok ha R c => by
  obtain ⟨v, u, rfl, h, h'⟩ := two_args ha
  cases h; cases h'
  exact ⟨i, j, rfl, c.now ok (.int _) q⟩
theorem sd_ifAny {c : Expr} {x y : List Stmt} {E : Ends'} (PB : Bool → Prop) (h : TD X B S c PB) (hx : PB true → SDs X B W0 S x E) (hy : PB false → SDs X B W0 S y E) : SD X B W0 S (.If c x y pos) E :=
  sd_if (fun σ W H r R k => h σ W H r R fun b W' H' s ok q => k b W' H' s ok (by
    cases b with
    | true => exact hx q
    | false => exact hy q))
end
end DL

namespace DL
open PySem PySem.Spec PyProof.Rows L2
section
variable {X : Cx} {Q : D → Prop} {C : Addr} {k : Nat} {sp : SpD} {fs : List (Str × D)}
end
section
variable {X : Cx} {B : Hp} {W0 : Wd} {S : En} {pos : Pos}
end
end DL

set_option Elab.async false
set_option linter.all false
set_option maxRecDepth 100000
set_option maxHeartbeats 4000000
/-! k21: the law's own products; numbers over a common one -/
namespace K21
open PySem L2 DL
def oth (es : List Ent) (k : List Int) : List Ent := es.filter fun e => !decide (e.1 = k)
def put (es : List Ent) (k : List Int) (r : Rat) : List Ent := oth es k ++ [(k, r)]
theorem amt_in {es : List Ent} {k : List Int} {r : Rat} (nd : (es.map (·.1)).Nodup) (h : (k, r) ∈ es) : amt es k = r := by
  unfold amt
  induction es with
  | nil => cases h
  | cons e es ih =>
    rw [List.map_cons, List.nodup_cons] at nd
    rw [List.find?_cons]
    rcases List.mem_cons.mp h with rfl | h
    · rw [decide_eq_true rfl]; rfl
    · have ne : ¬ e.1 = k := fun z => nd.1 (by rw [z]; exact List.mem_map.mpr ⟨_, h, rfl⟩)
      rw [decide_eq_false ne]
      exact ih nd.2 h
def kvP (es : List Ent) : List (List Key × D) := es.map fun e => (ik e.1, prq e.2)
def insP (es : List Ent) (k : List Int) (r : Rat) : List Ent := if k ∈ es.map (·.1) then es.map (fun e => if e.1 = k then (k, r) else e) else es ++ [(k, r)]
theorem sds_st {X : Cx} {B : Hp} {W0 : Wd} {S S' : En} {sts : List Stmt} {E : Ends'} (e : S = S') (k : SDs X B W0 S' sts E) : SDs X B W0 S sts E := e ▸ k
/-! numbers over a common one -/
def Ov (M K : Nat) (r : Rat) : Prop := ∃ a : Int, r = Rat.divInt a (M : Int) ∧ a.natAbs ≤ K
end K21

set_option Elab.async false
set_option linter.all false
set_option maxRecDepth 100000
set_option maxHeartbeats 4000000
/-! k21: numbers passed, letters, counts, what is drawn -/
namespace K21
open PySem L2 DL
section
variable {P : Program} {w : World} {K : PySem.W.Frag} {mg : Str → Option Value} {base : Heap} {C CB : Addr}
abbrev spPass (C : Addr) : SpD := fun as Q => ∃ b r, as = [.pot, .val (prq r)] ∧ b ≤ 1000 ∧ Bq b r ∧ ∀ d, Nq C b d r → Q d
abbrev spPair (C : Addr) : SpD := fun as Q => ∃ r, as = [.val (Ra C (fr r))] ∧ Q (prq r)
/-! letters -/
def lsA : List Nat := [97, 98, 99, 100, 101, 102, 103, 104]
def lsB : List Nat := [97, 99, 101, 103, 109, 113, 120, 122]
def lsC : List Nat := [115, 116, 117, 118, 119, 120, 121, 122]
def lsD : List Nat := [98, 100, 102, 104, 106, 108, 110, 112]
abbrev spLets : SpD := fun as Q => ∃ m : Nat, as = [.pot, .val (.int (m : Int))] ∧ 1 ≤ m ∧ m ≤ 8 ∧ ∀ z, LetZ z → z.length = m → Q (.str (SX.S z))
/-! counts -/
abbrev spCnt : SpD := fun as Q => ∃ m n : Nat, as = [.pot, .val (.int (m : Int)), .val (.int (n : Int))] ∧ 1 ≤ m ∧ m ≤ 8 ∧ n ≤ 8 ∧ ∀ k : List Int, k.length = m → (∀ c ∈ k, 0 ≤ c) → k.sum = (n : Int) → Q (tI k)
abbrev NCn : List Str := ["_law_pot_here", "_law_many", "_law_degree", "_law_found", "_law_turn", "_law_at"]
/-! an amount -/
abbrev spAmt : SpD := fun as Q => as = [.pot] ∧ ∀ r : Rat, 0 < r → Bq 10 r → Ov 12 360 r → Q (prq r)
/-! drawn products -/
abbrev spDrawn : SpD := fun as Q => ∃ m n mo : Nat, as = [.pot, .val (.int (m : Int)), .val (.int (n : Int)), .val (.int (mo : Int))] ∧ 1 ≤ m ∧ m ≤ 8 ∧ n ≤ 8 ∧ mo ≤ 20 ∧ ∀ es : List Ent, GE m n 10 es → (∀ e ∈ es, Ov 12 360 e.2) → es.length ≤ mo → Q (.dcT (kvP es))
abbrev NDr : List Str := ["_law_pot_here", "_law_many", "_law_degree", "_law_most", "_law_found", "_law_turn"]
end
end K21

set_option Elab.async false
set_option linter.all false
set_option maxRecDepth 100000
set_option maxHeartbeats 8000000
/-! k21: entries as they are passed, blends, what a blend tells -/
namespace K21
open PySem L2 DL
theorem paired_snoc {α β : Type} {R : α → β → Prop} {a : α} {b : β} (h : R a b) : ∀ {l : List α} {m : List β}, Paired R l m → Paired R (l ++ [a]) (m ++ [b])
  | _, _, .nil => .cons h .nil
  | _, _, .cons k t => .cons k (paired_snoc h t)
section
variable {P : Program} {w : World} {K : PySem.W.Frag} {mg : Str → Option Value} {base : Heap} {C CB : Addr}
abbrev spEntr (C : Addr) : SpD := fun as Q => ∃ m n b : Nat, ∃ es, as = [.pot, .val (.dcT (kvP es))] ∧ 1 ≤ m ∧ n ≤ 8 ∧ b ≤ 1000 ∧ GE m n b es ∧ ∀ d xs ps, SeqD d xs → ps.Perm es → Paired (EntD C b) xs ps → Q d
abbrev NEn : List Str := ["_law_pot_here", "_law_own", "_law_found", "_law_counts_here", "_law_entry"]
/-! a blend -/
abbrev spBln (C CB : Addr) : SpD := fun as Q => ∃ z, ∃ m n b : Nat, ∃ es, as = [.pot, .val (.str (SX.S z)), .val (.dcT (kvP es))] ∧ LetZ z ∧ z.length = m ∧ n ≤ 8 ∧ b ≤ 1000 ∧ GE m n b es ∧ Q (Bo C CB z n (srt es))
/-! len -/
abbrev spBLen (C CB : Addr) : SpD := fun as Q => ∃ z n es, as = [.val (Bo C CB z n es)] ∧ Q (.int (es.length : Int))
/-! what a blend tells -/
theorem od_neb {X : Cx} {i j : Bool} {Q : D → Prop} (hu : X.A.units + 64 < cLine) (q : Q (.bl (!decide (i = j)))) : OD X (compareOp .NotEq) (.bl i) (.bl j) Q := by
  refine od_ned hu (.bl i) (.bl j) (by rfl) (by rfl) ?_
  have e : PyData.eqv (.bool i) (.bool j) = decide (i = j) := by cases i <;> cases j <;> simp [PyData.eqv]
  rw [e]
  exact q
abbrev spTold (C CB : Addr) : SpD := fun as Q => ∃ z, ∃ m n b : Nat, ∃ es, as = [.val (Bo C CB z n es), .val (.str (SX.S z))] ∧ LetZ z ∧ z.length = m ∧ n ≤ 8 ∧ b ≤ 1000 ∧ GE m n b es ∧ srt es = es ∧ Q (.dcT (kvP es))
abbrev NTo : List Str := ["_law_blend_here", "_law_letters_here", "_law_found", "_law_entry", "_law_degree"]
end
end K21

set_option Elab.async false
set_option linter.all false
set_option maxRecDepth 100000
set_option maxHeartbeats 4000000
/-! texts of lists and tuples that hold own objects -/
namespace DL
open PySem PySem.Spec PyProof.Rows L2
mutual
/-- data that can be written, each told by where it stands -/
inductive Rp : D → Prop
  | non : Rp .non
  | bl (b) : Rp (.bl b)
  | int (i) : Rp (.int i)
  | str (s) : Rp (.str s)
  | tup {l} : Rps l → Rp (.tup l)
  | lst {l} : Rps l → Rp (.lst l)
  | obj {C fs} : Rpf fs → Rp (.obj C fs)
  | dcT {kvs} : Rpt kvs → Rp (.dcT kvs)
inductive Rps : List D → Prop
  | nil : Rps []
  | cons {d l} : Rp d → Rps l → Rps (d :: l)
inductive Rpf : List (Str × D) → Prop
  | nil : Rpf []
  | cons {f d l} : Rp d → Rpf l → Rpf ((f, d) :: l)
inductive Rpt : List (List Key × D) → Prop
  | nil : Rpt []
  | cons {k d l} : Rp d → Rpt l → Rpt ((k, d) :: l)
end
section
variable {K : PySem.W.Frag} {I : Hp}
mutual
theorem Dn.uniq : ∀ {d d' : D} {v : V}, Dn K I d v → Rp d → Rp d' → Dn K I d' v → d = d'
  | _, _, _, .non, _, r', n' => by cases n' <;> first | rfl | cases r'
  | _, _, _, .bl b, _, r', n' => by cases n' <;> first | rfl | cases r'
  | _, _, _, .int i, _, r', n' => by cases n' <;> first | rfl | cases r'
  | _, _, _, .str s, _, r', n' => by cases n' <;> first | rfl | cases r'
  | _, _, _, .ty n, r, _, _ => by cases r
  | _, _, _, .cls a, r, _, _ => by cases r
  | _, _, _, .frl h, r, _, _ => by cases r
  | _, _, _, .dct h, r, _, _ => by cases r
  | _, _, _, .dcK h _, r, _, _ => by cases r
  | _, _, _, .tup h m, r, r', n' => by
    cases n' with
    | tup h' m' =>
      rw [h] at h'
      cases h'
      cases r with
      | tup r => cases r' with
        | tup r' => rw [Dns.uniq m r r' m']
    | lst h' m' => rw [h] at h'; cases h'
    | obj h' m' => rw [h] at h'; cases h'
    | cls _ => cases r'
    | dct _ => cases r'
    | dcT h' m' => rw [h] at h'; cases h'
    | dcK _ _ => cases r'
    | frl _ => cases r'
  | _, _, _, .lst h m, r, r', n' => by
    cases n' with
    | lst h' m' =>
      rw [h] at h'
      cases h'
      cases r with
      | lst r => cases r' with
        | lst r' => rw [Dns.uniq m r r' m']
    | tup h' m' => rw [h] at h'; cases h'
    | obj h' m' => rw [h] at h'; cases h'
    | cls _ => cases r'
    | dct _ => cases r'
    | dcT h' m' => rw [h] at h'; cases h'
    | dcK _ _ => cases r'
    | frl _ => cases r'
  | _, _, _, .obj h m, r, r', n' => by
    cases n' with
    | obj h' m' =>
      rw [h] at h'
      cases h'
      cases r with
      | obj r => cases r' with
        | obj r' => rw [Dnf.uniq m r r' m']
    | tup h' m' => rw [h] at h'; cases h'
    | lst h' m' => rw [h] at h'; cases h'
    | cls _ => cases r'
    | dct _ => cases r'
    | dcT h' m' => rw [h] at h'; cases h'
    | dcK _ _ => cases r'
    | frl _ => cases r'
  | _, _, _, .dcT h m, r, r', n' => by
    cases n' with
    | dcT h' m' =>
      rw [h] at h'
      cases h'
      cases r with
      | dcT r => cases r' with
        | dcT r' => rw [Dnt.uniq m r r' m']
    | tup h' m' => rw [h] at h'; cases h'
    | lst h' m' => rw [h] at h'; cases h'
    | obj h' m' => rw [h] at h'; cases h'
    | cls _ => cases r'
    | dct _ => cases r'
    | dcK _ _ => cases r'
    | frl _ => cases r'
termination_by structural _ _ _ x => x
theorem Dnt.uniq : ∀ {l l' : List (List Key × D)} {xs : List (List Key × V)}, Dnt K I l xs → Rpt l → Rpt l' → Dnt K I l' xs → l = l'
  | _, _, _, .nil, _, _, n' => by cases n'; rfl
  | _, _, _, .cons h m, r, r', n' => by
    cases n' with
    | cons h' m' =>
      cases r with
      | cons r1 r2 => cases r' with
        | cons r1' r2' => rw [Dn.uniq h r1 r1' h', Dnt.uniq m r2 r2' m']
termination_by structural _ _ _ x => x
theorem Dns.uniq : ∀ {l l' : List D} {xs : List V}, Dns K I l xs → Rps l → Rps l' → Dns K I l' xs → l = l'
  | _, _, _, .nil, _, _, n' => by cases n'; rfl
  | _, _, _, .cons h m, r, r', n' => by
    cases n' with
    | cons h' m' =>
      cases r with
      | cons r1 r2 => cases r' with
        | cons r1' r2' => rw [Dn.uniq h r1 r1' h', Dns.uniq m r2 r2' m']
termination_by structural _ _ _ x => x
theorem Dnf.uniq : ∀ {l l' : List (Str × D)} {xs : List (Str × V)}, Dnf K I l xs → Rpf l → Rpf l' → Dnf K I l' xs → l = l'
  | _, _, _, .nil, _, _, n' => by cases n'; rfl
  | _, _, _, .cons h m, r, r', n' => by
    cases n' with
    | cons h' m' =>
      cases r with
      | cons r1 r2 => cases r' with
        | cons r1' r2' => rw [Dn.uniq h r1 r1' h', Dnf.uniq m r2 r2' m']
termination_by structural _ _ _ x => x
end
open Classical in
noncomputable def del (I : Hp) (a : Addr) : Hp := fun b => if b = a then none else I b
theorem del_same {a : Addr} : del I a a = none := if_pos rfl
theorem del_ne {a b : Addr} (h : b ≠ a) : del I a b = I b := if_neg h
/-- the same data without what stands at a, which is greater than they are -/
theorem del_sub {a : Addr} {big : D} (rb : Rp big) (nb : Dn K I big (.ref a)) : ∀ n, (∀ d v, sizeOf d < n → sizeOf d < sizeOf big → Rp d → Dn K I d v → Dn K (del I a) d v) ∧ (∀ l xs, sizeOf l < n → sizeOf l < sizeOf big → Rps l → Dns K I l xs → Dns K (del I a) l xs) ∧ (∀ l xs, sizeOf l < n → sizeOf l < sizeOf big → Rpf l → Dnf K I l xs → Dnf K (del I a) l xs) ∧ (∀ l xs, sizeOf l < n → sizeOf l < sizeOf big → Rpt l → Dnt K I l xs → Dnt K (del I a) l xs) := by
  intro n
  induction n with
  | zero => exact ⟨fun _ _ h => absurd h (Nat.not_lt_zero _), fun _ _ h => absurd h (Nat.not_lt_zero _), fun _ _ h => absurd h (Nat.not_lt_zero _), fun _ _ h => absurd h (Nat.not_lt_zero _)⟩
  | succ n ih =>
    obtain ⟨i1, i2, i3, i4⟩ := ih
    refine ⟨fun d v hn hb r m => ?_, fun l xs hn hb r m => ?_, fun l xs hn hb r m => ?_, fun l xs hn hb r m => ?_⟩
    · have ne : ∀ b, v = .ref b → b ≠ a := fun b e z => by
        subst z
        subst e
        have := Dn.uniq m r rb nb
        rw [this] at hb
        exact Nat.lt_irrefl _ hb
      cases m with
      | non => exact .non
      | bl b => exact .bl b
      | int i => exact .int i
      | str s => exact .str s
      | ty _ => cases r
      | cls _ => cases r
      | frl _ => cases r
      | dct _ => cases r
      | dcT h m =>
        cases r with
        | dcT r =>
          simp only [D.dcT.sizeOf_spec] at hn hb
          exact .dcT (by rw [del_ne (ne _ rfl)]; exact h) (i4 _ _ (by omega) (by omega) r m)
      | dcK _ _ => cases r
      | tup h m =>
        cases r with
        | tup r =>
          simp only [D.tup.sizeOf_spec] at hn hb
          exact .tup (by rw [del_ne (ne _ rfl)]; exact h) (i2 _ _ (by omega) (by omega) r m)
      | lst h m =>
        cases r with
        | lst r =>
          simp only [D.lst.sizeOf_spec] at hn hb
          exact .lst (by rw [del_ne (ne _ rfl)]; exact h) (i2 _ _ (by omega) (by omega) r m)
      | obj h m =>
        cases r with
        | obj r =>
          simp only [D.obj.sizeOf_spec] at hn hb
          exact .obj (by rw [del_ne (ne _ rfl)]; exact h) (i3 _ _ (by omega) (by omega) r m)
    · cases m with
      | nil => exact .nil
      | cons h m =>
        cases r with
        | cons r1 r2 =>
          simp only [List.cons.sizeOf_spec] at hn hb
          exact .cons (i1 _ _ (by omega) (by omega) r1 h) (i2 _ _ (by omega) (by omega) r2 m)
    · cases m with
      | nil => exact .nil
      | cons h m =>
        cases r with
        | cons r1 r2 =>
          simp only [List.cons.sizeOf_spec, Prod.mk.sizeOf_spec] at hn hb
          exact .cons (i1 _ _ (by omega) (by omega) r1 h) (i3 _ _ (by omega) (by omega) r2 m)
    · cases m with
      | nil => exact .nil
      | cons h m =>
        cases r with
        | cons r1 r2 =>
          simp only [List.cons.sizeOf_spec, Prod.mk.sizeOf_spec] at hn hb
          exact .cons (i1 _ _ (by omega) (by omega) r1 h) (i4 _ _ (by omega) (by omega) r2 m)
theorem del_lst {a : Addr} {l : List D} {xs : List V} (r : Rps l) (h : I a = some (.lst xs)) (m : Dns K I l xs) : Dns K (del I a) l xs :=
  (del_sub (big := .lst l) (.lst r) (.lst h m) (sizeOf l + 1)).2.1 l xs (by omega) (by simp only [D.lst.sizeOf_spec]; omega) r m
theorem del_tup {a : Addr} {l : List D} {xs : List V} (r : Rps l) (h : I a = some (.tup xs)) (m : Dns K I l xs) : Dns K (del I a) l xs :=
  (del_sub (big := .tup l) (.tup r) (.tup h m) (sizeOf l + 1)).2.1 l xs (by omega) (by simp only [D.tup.sizeOf_spec]; omega) r m
end
/-! being written: a stands no more among what never changes, and is back behind it -/
section
variable {g : List Code} {W W2 : Wd} {H H2 : Hp} {a : Addr} {o : HO}
theorem Ok.write {id : String} {rest : List Value} {kw : List (Str × Value)} (ok : Ok g W H) (ha : W.I a = some o) (hk : ∀ ks : List Key, o ≠ .tup (ks.map kV)) : Ok (.builtin id ⟨.ref a :: rest, kw⟩ :: g) ⟨del W.I a, W.P⟩ H where
  gd := fun b hb => by
    obtain ⟨i, r, k, h⟩ := hb
    rcases List.mem_cons.mp h with e | h
    · cases e
      exact ⟨del_same, (fun z => by rw [ok.ex _ _ ha] at z; cases z), fun ks z => by rw [ok.ex _ _ ha] at z; exact hk ks (Option.some.inj z)⟩
    · obtain ⟨n1, n2⟩ := ok.gd b ⟨i, r, k, h⟩
      refine ⟨?_, n2⟩
      show del W.I a b = none
      rw [del_ne (fun z => by rw [z, ha] at n1; cases n1)]
      exact n1
  ex := fun b u e => by
    have e' : del W.I a b = some u := e
    by_cases z : b = a
    · rw [z, del_same] at e'; cases e'
    · rw [del_ne z] at e'; exact ok.ex b u e'
  pot := fun b pb => by
    obtain ⟨n, x⟩ := ok.pot b pb
    refine ⟨?_, x⟩
    by_cases z : b = a
    · rw [z]; exact del_same
    · show del W.I a b = none
      rw [del_ne z]; exact n
theorem InG.cons {c : Code} {b : Addr} (h : InG g b) : InG (c :: g) b := let ⟨i, r, k, m⟩ := h; ⟨i, r, k, List.mem_cons_of_mem _ m⟩
/-- behind the writing -/
theorem written_stp {c : Code} (hc : InG (c :: g) a) (ok : Ok g W H) (ha : W.I a = some o) (st : Stp ⟨del W.I a, W.P⟩ H W2 H2) (ok2 : Ok (c :: g) W2 H2) : Stp W H (W2.new a o) H2 ∧ Ok g (W2.new a o) H2 := by
  have hH : H a = some o := ok.ex _ _ ha
  have nP : ¬ W.P a := fun z => by rw [(ok.pot a z).1] at ha; cases ha
  have h2 : H2 a = some o := st.keep a o hH nP
  have i2 : W2.I a = none := (ok2.gd a hc).1
  have nP2 : ¬ W2.P a := fun z => nP (st.oldP a o hH z)
  have ng : ¬ InG g a := fun z => by rw [(ok.gd a z).1] at ha; cases ha
  refine ⟨⟨fun b u e => ?_, st.P, st.keep, fun b u e hu n => ?_, st.oldP⟩, ?_⟩
  · show upd W2.I a o b = some u
    by_cases z : b = a
    · subst z
      rw [ha] at e
      cases e
      exact upd_same
    · rw [upd_ne z]
      exact st.I b u (by show del W.I a b = some u; rw [del_ne z]; exact e)
  · show upd W2.I a o b = none
    have z : b ≠ a := fun z => by rw [z, ha] at n; cases n
    rw [upd_ne z]
    exact st.old b u e hu (by show del W.I a b = none; rw [del_ne z]; exact n)
  · exact {
      gd := fun b hb => by
        obtain ⟨n1, n2⟩ := ok2.gd b hb.cons
        refine ⟨?_, n2⟩
        show upd W2.I a o b = none
        have ne : b ≠ a := fun z => ng (z ▸ hb)
        rw [upd_ne ne]
        exact n1
      ex := fun b u e => by
        have e' : upd W2.I a o b = some u := e
        by_cases z : b = a
        · subst z; rw [upd_same] at e'; cases e'; exact h2
        · rw [upd_ne z] at e'; exact ok2.ex b u e'
      pot := fun b pb => by
        obtain ⟨n, x⟩ := ok2.pot b pb
        refine ⟨?_, x⟩
        show upd W2.I a o b = none
        have ne : b ≠ a := fun z => nP2 (z ▸ pb)
        rw [upd_ne ne]
        exact n }
end
end DL

set_option Elab.async false
set_option linter.all false
set_option maxRecDepth 100000
set_option maxHeartbeats 4000000
/-! how lists and tuples that hold own objects are written -/
namespace DL
open PySem PySem.Spec PyProof.Rows L2 Builtin Builtin.List
/-- an around that stands in the same def -/
structure Ar (X : Cx) (k : Nat) (A : Around) : Prop where
  r : Room k A
  f : A.frames = some X.stack
theorem Ar.env {X : Cx} {k : Nat} {A : Around} {pins : List (Addr × Obj)} {σ : L2.St} {H : Hp} {s : Shared} (h : Ar X k A) (I : Inv X pins σ H s) : Env0 X.prog X.w X.K X.mg X.base A X.stack s H :=
  let e := I.env0
  ⟨h.f, e.mod, e.bs, e.bsz, e.funs, e.frf, e.hok, e.bare⟩
theorem ar_loop {X : Cx} {k : Nat} {A : Around} {args : PySem.Args} (h : Ar X (k + 1) A) : Ar X k (A.under (.builtin "list.__repr__.loop" args)) where
  r := ⟨h.r.hd, by
    have := h.r.dp
    have e : (A.under (.builtin "list.__repr__.loop" args)).depth ≤ A.depth + 1 := by
      first | exact Nat.le_refl _ | exact Nat.le_succ _ | simp [Around.under, Code.weight, Code.isCreation, Code.isGuard, Code.isCaller, Code.frames, Code.isFrame, guardIds]
    omega, by have := h.r.un; rw [units_under_list_loop]; omega⟩
  f := by first | exact h.f | (simpa [Around.under, Code.envs, Code.isFrame, pushEnvs] using h.f)
theorem ar_tup {X : Cx} {k : Nat} {A : Around} {id : String} {args : PySem.Args} (h : Ar X (k + 1) A) (hi : id = "tuple.__repr__" ∨ id = "tuple.__repr__.under") : Ar X k (A.under (.builtin id args)) := by
  rcases hi with rfl | rfl
  · exact ⟨⟨h.r.hd, by
      have := h.r.dp
      have e : (A.under (.builtin "tuple.__repr__" args)).depth ≤ A.depth + 1 := by
        first | exact Nat.le_refl _ | exact Nat.le_succ _ | simp [Around.under, Code.weight, Code.isCreation, Code.isGuard, Code.isCaller, Code.frames, Code.isFrame, guardIds]
      omega, by have := h.r.un; rw [units_under_tuple_repr]; omega⟩, by first | exact h.f | (simpa [Around.under, Code.envs, Code.isFrame, pushEnvs] using h.f)⟩
  · exact ⟨⟨h.r.hd, by
      have := h.r.dp
      have e : (A.under (.builtin "tuple.__repr__.under" args)).depth ≤ A.depth + 1 := by
        first | exact Nat.le_refl _ | exact Nat.le_succ _ | simp [Around.under, Code.weight, Code.isCreation, Code.isGuard, Code.isCaller, Code.frames, Code.isFrame, guardIds]
      omega, by have := h.r.un; rw [units_under_tuple_repr_under]; omega⟩, by first | exact h.f | (simpa [Around.under, Code.envs, Code.isFrame, pushEnvs] using h.f)⟩
/-- d is written as t -/
def Wr (X : Cx) (k : Nat) (d : D) (t : Str) : Prop := ∀ (A : Around) (g : List Code) (W : Wd) (H : Hp) (pins : List (Addr × Obj)) (σ : L2.St) (s : Shared) (v : V) (u : Value) (base : Nat) (Q : Str → Shared → Prop) (E : Value → Shared → Prop), Ar X k A → A.guards = some g → Ok g W H → Inv X pins σ H s → Dn X.K W.I d v → RelV v u → base + t.length ≤ sizeLine →
  (∀ W' H' s', Stp W H W' H' → Ok g W' H' → Inv X pins σ H' s' → Q t s') → wpAny (model X.prog X.w) A (pyReprUnder base u) Q E s
section
variable {X : Cx} {k : Nat}
theorem Ok.swap {g : List Code} {W : Wd} {H : Hp} {id id' : String} {a : Addr} {r r' : List Value} {kw kw' : List (Str × Value)} (ok : Ok (.builtin id ⟨.ref a :: r, kw⟩ :: g) W H) : Ok (.builtin id' ⟨.ref a :: r', kw'⟩ :: g) W H where
  gd := fun b hb => by
    obtain ⟨i, rr, k, h⟩ := hb
    rcases List.mem_cons.mp h with e | h
    · cases e
      exact ok.gd _ ⟨id, r, kw, List.mem_cons_self⟩
    · exact ok.gd b ⟨i, rr, k, List.mem_cons_of_mem _ h⟩
  ex := ok.ex
  pot := ok.pot
theorem vals_strs : ∀ {ts : List Str} {its : List Value}, Vals (ts.map V.str) its → ∃ done : List (Str × Tok), its = strValues done ∧ done.map (·.1) = ts
  | [], _, .nil => ⟨[], rfl, rfl⟩
  | t :: ts, _, .cons ⟨tk, e⟩ r => by
    obtain ⟨done, e1, e2⟩ := vals_strs r
    subst e e1
    exact ⟨(t, tk) :: done, rfl, by rw [List.map_cons, e2]⟩
theorem dns_strs {K : PySem.W.Frag} {I : Hp} : ∀ {ts : List Str} {xs : List V}, Dns K I (ts.map D.str) xs → xs = ts.map V.str
  | [], _, .nil => rfl
  | t :: ts, _, .cons (.str _) r => by rw [List.map_cons, dns_strs r]
section
variable {A : Around} {g : List Code} {a P : Addr} {W1 : Wd} {H1 : Hp} {pins : List (Addr × Obj)} {σ : L2.St} {l : List D} {xs : List V} {ts : List Str} {base : Nat} {R : PySem.Result → Shared → Prop}
theorem wr_loop (hA : Ar X (k + 1) A) (hg : A.guards = some g) (ha : H1 a = some (.lst xs)) (nP : ¬ W1.P a) (hm : Dns X.K W1.I l xs) (hP : H1 P = none) (hlen : ts.length = l.length) (hl : l.length ≤ 1000)
    (hT : ∀ (i : Nat) d, l[i]? = some d → ∃ t, ts[i]? = some t ∧ Wr X k d t) (hsz : base + (listText ts).length ≤ sizeLine)
    (hR : ∀ W' H' s' u, Stp W1 H1 W' H' → (∀ r kw, Ok (.builtin "list.__repr__.loop" ⟨.ref a :: r, kw⟩ :: g) W' H') → Inv X pins σ H' s' → R (.ok (.ret (.str (listText ts) u))) s') :
    ∀ (n i : Nat) (s : Shared) (W : Wd) (H : Hp), l.length - i = n → i ≤ l.length → Mid X.K (.builtin "list.__repr__.loop" ⟨.ref a :: [], []⟩ :: g) W1 H1 P ((ts.take i).map D.str) W H → Inv X pins σ H s →
      codeAny (model X.prog X.w) A (.builtin "list.__repr__.loop" ⟨[.ref a, rawInt i, .ref P, rawInt ((base + piled (ts.take i) : Nat) : Int)], []⟩) R s := by
  have t0 := textFrom_len ts 0 "["
  have tx : (listText ts).length = (textFrom 0 "[" ts).length + 1 := by show (textFrom 0 "[" ts ++ "]").length = _; rw [strLen_append]; rfl
  have each : ∀ t ∈ ts, t.length ≤ sizeLine := fun t ht => by have := t0.2.1 t ht; omega
  have top := piled_le_listText ts
  intro n
  induction n with
  | zero =>
    intro i s W H hn hi m I
    have ei : i = l.length := by omega
    obtain ⟨_, its, n0, rv, _, get⟩ := I.lstM (m.st.keep a _ ha nP)
    have li : its.length = l.length := by rw [← rv.length, ← hm.length]
    refine codeAny_builtin F.entry_list_repr_loop ?_
    show wpAny _ _ («list.__repr__.loop» ⟨[.ref a, .int i 0, .ref P, .int ((base + piled (ts.take i) : Nat) : Int) 0], []⟩) _ _ s
    rw [repr_loop_tree]; refine wpAny_bind (wpAny_listItems get rfl ?_)
    have none_ : its.toArray[(i : Int).toNat]? = none := by simp; omega
    simp only [none_]; unfold reprEnd
    obtain ⟨ps, hp, dp⟩ := m.h
    obtain ⟨_, its2, n2, rv2, _, get2⟩ := I.lstM hp
    rw [dns_strs dp] at rv2
    obtain ⟨done, e1, e2⟩ := vals_strs rv2
    refine wpAny_bind (wpAny_listItems get2 rfl ?_)
    rw [show its2.toArray.toList = strValues done by simpa using e1, repr_fold]
    refine wpAny_bind (wpAny_pure ?_); rw [e2, ei, ← hlen, List.take_length]
    refine wpAny_bind (wpAny_mkStr (wpAny_pure ?_) (by show (listText ts).length ≤ sizeLine; omega))
    exact hR W H _ _ m.st (fun r kw => m.ok.swap) (I.tok _)
  | succ n ih =>
    intro i s W H hn hi m I
    have lt : i < l.length := by omega
    have el : l[i]? = some l[i] := List.getElem?_eq_getElem lt
    obtain ⟨t, et, wr⟩ := hT i _ el
    have p1 := piled_take_succ et
    have p2 := piled_take_le ts (i + 1)
    obtain ⟨_, its, n0, rv, _, get⟩ := I.lstM (m.st.keep a _ ha nP)
    obtain ⟨v, ev, dv⟩ := hm.get' el
    obtain ⟨u, eu, ru⟩ := rv.get ev
    refine codeAny_builtin F.entry_list_repr_loop ?_
    show wpAny _ _ («list.__repr__.loop» ⟨[.ref a, .int i 0, .ref P, .int ((base + piled (ts.take i) : Nat) : Int) 0], []⟩) _ _ s
    rw [repr_loop_tree]; refine wpAny_bind (wpAny_listItems get rfl ?_)
    have some_ : its.toArray[(i : Int).toNat]? = some u := by simpa using eu
    simp only [some_]; rw [Int.toNat_natCast]
    refine wpAny_bind (wpAny_holding (wr _ _ W H pins σ s v u (base + piled (ts.take i) + 1) _ _ (ar_loop hA) (guards_under_guard (isGuard_list_loop _) hg) m.ok.swap I (dv.mono m.st.I) ru (by omega) fun W2 H2 s2 st2 ok2 I2 => ?_))
    refine wpAny_bind (wpAny_mkStr ?_ (each t (List.mem_of_getElem? et)))
    have m2 := m.step st2 ok2.swap
    obtain ⟨ps, hp, dp⟩ := m2.h
    have lp := dp.length
    rw [List.length_map, List.length_take] at lp
    obtain ⟨_, its2, n2, rv2, l2, get2⟩ := I2.lstM hp
    have lq : its2.length ≤ 1000 := by rw [← l2]; omega
    obtain ⟨ps', hp', _, m3⟩ := m2.more (d := .str t) hP (.str t) (by rw [List.length_map, List.length_take]; omega)
    rw [hp] at hp'
    cases hp'
    refine wpAny_bind ?_; show wpAny _ _ (updateSeq P _) _ _ _
    refine wpAny_updateSeq get2 rfl (wpAny_pure ⟨F.quiet_list_repr_loop _, ?_⟩) (by rw [List.size_toArray]; exact Nat.le_trans lq (by decide))
    have I3 := I2.lset (its' := its2 ++ [.str t s2.toks]) (ys := ps ++ [V.str t]) (f := (·.push (.str t s2.toks))) (t' := s2.toks + 1) hp get2 (by simp) (rv2.append (.cons ⟨_, rfl⟩ .nil)) (by rw [List.length_append, List.length_singleton, l2]; exact Nat.le_trans (Nat.succ_le_succ lq) (by decide))
    have e3 : (ts.take i).map D.str ++ [D.str t] = (ts.take (i + 1)).map D.str := by rw [List.take_add_one, et, List.map_append]; rfl
    rw [e3] at m3
    have e4 : ((i : Int) + 1) = ((i + 1 : Nat) : Int) := by omega
    have e5 : base + piled (ts.take i) + (t.length + 2) = base + piled (ts.take (i + 1)) := by omega
    rw [e4, e5]
    exact ih (i + 1) _ _ _ (by omega) lt m3 I3
end
end
end DL

set_option Elab.async false
set_option linter.all false
set_option maxRecDepth 100000
set_option maxHeartbeats 4000000
namespace DL
open PySem PySem.Spec PyProof.Rows L2 Builtin Builtin.List
section
variable {X : Cx} {k : Nat}
theorem wr_lstBody {A : Around} {g : List Code} {l : List D} {ts : List Str} {a : Addr} {xs : List V} {W : Wd} {H : Hp} {pins : List (Addr × Obj)} {σ : L2.St} {s : Shared} {base : Nat} {R : PySem.Result → Shared → Prop} (hl : l.length ≤ 1000) (hA : Ar X (k + 1) A) (hg : A.guards = some g) (ok : Ok g W H) (I : Inv X pins σ H s) (ha : W.I a = some (.lst xs)) (hm : Dns X.K W.I l xs)
    (rp : Rps l) (hlen : ts.length = l.length) (hT : ∀ (i : Nat) d, l[i]? = some d → ∃ t, ts[i]? = some t ∧ Wr X k d t) (hb : base + (listText ts).length ≤ sizeLine) (q : ∀ W' H' s' u, Stp W H W' H' → Ok g W' H' → Inv X pins σ H' s' → R (.ok (.ret (.str (listText ts) u))) s') :
    wpAny (model X.prog X.w) A.in1 (Builtin.listReprAt base ⟨[.ref a], []⟩) (fun fin s' => match fin with | .done f => R (.ok f) s' | .again c' => c'.quiet = true ∧ codeAny (model X.prog X.w) A c' R s') (fun e s' => R (.error e) s') s := by
  have hH := ok.ex _ _ ha
  obtain ⟨_, its, n0, rv, le, get⟩ := I.lstM hH
  have nP : ¬ W.P a := fun z => by rw [(ok.pot a z).1] at ha; cases ha
  have clr : ∀ b, InG g b → b ≠ a := fun b z e => by rw [e] at z; rw [(ok.gd a z).1] at ha; cases ha
  cases its with
  | nil =>
    have l0 : l = [] := List.length_eq_zero_iff.mp (by rw [hm.length, le]; rfl)
    subst l0
    have t0 : ts = [] := List.length_eq_zero_iff.mp hlen
    subst t0
    exact wpAny_list_repr_empty get rfl (q W H _ _ Stp.refl ok (I.tok _))
  | cons x r =>
    refine wpAny_list_repr_head (A := A.in1) hg (fun v rest kw h => listSameRef_of_ne fun e => clr a ⟨_, rest, kw, e ▸ h⟩ rfl) get rfl ?_
    refine wpAny_bind (m := newList []) (wpAny_newObj_type ?_); refine wpAny_pure ⟨F.quiet_list_repr_loop _, ?_⟩
    have hP := I.fresh
    have ok1 : ∀ r kw, Ok (.builtin "list.__repr__.loop" ⟨.ref a :: r, kw⟩ :: g) ⟨del W.I a, W.P⟩ H := fun r kw => ok.write ha fun ks z => by cases z
    have I1 := I.lnew (its := []) (ys := []) (t' := s.toks) .nil (Nat.zero_le _)
    refine wr_loop (W1 := ⟨del W.I a, W.P⟩) (H1 := H) (xs := xs) (pins := pins) (σ := σ) hA hg hH nP (del_lst rp ha hm) hP hlen hl hT hb (fun W' H' s' u st okc I' => ?_) _ 0 _ ⟨del W.I a, W.P⟩ _ rfl (Nat.zero_le _) ⟨Stp.own hP, (ok1 [] []).own hP, (ok1 [] []).notP hP, (ok1 [] []).free hP, [], upd_same, .nil⟩ I1
    obtain ⟨st2, ok2⟩ := written_stp ⟨_, _, _, List.mem_cons_self ..⟩ ok ha st (okc [] [])
    exact q _ _ _ u st2 ok2 I'
theorem wr_fold {A : Around} {g : List Code} (hA : Ar X k A) (hg : A.guards = some g) {W1 : Wd} {H1 : Hp} {pins : List (Addr × Obj)} {σ : L2.St} {E : Value → Shared → Prop} (l : List D) : ∀ (xs : List V) (us : List Value) (ts : List Str) (acc : Array Str) (n : Nat) (s : Shared) (W : Wd) (H : Hp) (Q : (Array Str × Nat) → Shared → Prop),
    Dns X.K W1.I l xs → Vals xs us → ts.length = l.length → (∀ (i : Nat) d, l[i]? = some d → ∃ t, ts[i]? = some t ∧ Wr X k d t) → n + piled ts ≤ sizeLine → Stp W1 H1 W H → Ok g W H → Inv X pins σ H s →
    (∀ W' H' s', Stp W1 H1 W' H' → Ok g W' H' → Inv X pins σ H' s' → Q ⟨acc ++ ts.toArray, n + piled ts⟩ s') → wpAny (model X.prog X.w) A (forIn us (⟨acc, n⟩ : (Array Str × Nat)) tupBody) Q E s := by
  induction l with
  | nil =>
    intro xs us ts acc n s W H Q hm hr hlen hT hn st ok I q
    cases hm
    cases hr
    have t0 : ts = [] := List.length_eq_zero_iff.mp hlen
    subst t0
    simp only [List.forIn_nil]
    exact wpAny_pure (by simpa [piled] using q W H s st ok I)
  | cons d l ih =>
    intro xs us ts acc n s W H Q hm hr hlen hT hn st ok I q
    cases hm with
    | cons m ms => cases hr with
      | cons r rs => cases ts with
        | nil => cases hlen
        | cons t ts =>
          rw [piled_cons] at hn
          rw [List.forIn_cons]
          obtain ⟨t', e, wr⟩ := hT 0 d rfl
          cases e
          refine wpAny_bind (wpAny_bind (wr A g W H pins σ s _ _ (n + 1) _ E hA hg ok I (m.mono st.I) r (by omega) fun W2 H2 s2 st2 ok2 I2 => wpAny_pure ?_))
          refine ih _ _ ts (acc.push t) (n + (t.length + 2)) s2 W2 H2 Q ms rs (Nat.succ.inj hlen) (fun i d h => hT (i + 1) d h) (by omega) (st.trans ok st2) ok2 I2 fun W' H' s' st' ok' I' => ?_
          have h1 := q W' H' s' st' ok' I'
          have e : n + piled (t :: ts) = n + (t.length + 2) + piled ts := by rw [piled_cons]; omega
          rw [e] at h1
          simpa using h1
theorem wr_tupBody {A : Around} {g : List Code} {id : String} {rest : List Value} {l : List D} {ts : List Str} {a : Addr} {xs : List V} {W : Wd} {H : Hp} {pins : List (Addr × Obj)} {σ : L2.St} {s : Shared} {base : Nat} {R : PySem.Result → Shared → Prop} (hi : id = "tuple.__repr__" ∨ id = "tuple.__repr__.under") (hA : Ar X (k + 1) A) (hg : A.guards = some g) (ok : Ok g W H) (I : Inv X pins σ H s) (ha : W.I a = some (.tup xs)) (hk : ∀ ks : List Key, HO.tup xs ≠ .tup (ks.map kV)) (hm : Dns X.K W.I l xs)
    (rp : Rps l) (hlen : ts.length = l.length) (hT : ∀ (i : Nat) d, l[i]? = some d → ∃ t, ts[i]? = some t ∧ Wr X k d t) (hb : base + (tupleText ts).length ≤ sizeLine) (q : ∀ W' H' s' u, Stp W H W' H' → Ok g W' H' → Inv X pins σ H' s' → R (.ok (.ret (.str (tupleText ts) u))) s') :
    wpOwn (model X.prog X.w) A (.builtin id ⟨.ref a :: rest, []⟩) (Builtin.tupleReprAt base ⟨[.ref a], []⟩) (fun fin s' => match fin with | .done f => R (.ok f) s' | .again c' => c'.quiet = true ∧ codeAny (model X.prog X.w) A c' R s') (fun e s' => R (.error e) s') s := by
  have hH := ok.ex _ _ ha
  obtain ⟨its, rv, ⟨o, ho, hc, n0, hd⟩, _⟩ := I.tuple (SqT.of hH)
  have tl := piled_le_tupleText ts
  have li : its.length = ts.length := by rw [← rv.length, ← hm.length, hlen]
  have clr : Clear g a := clear_of fun z => by rw [(ok.gd a z).1] at ha; cases ha
  have hcg : (Code.builtin id ⟨.ref a :: rest, []⟩).isGuard = true := by
    rcases hi with rfl | rfl
    · exact isGuard_tuple_repr _
    · exact isGuard_tuple_repr_under _
  rw [tuple_repr_tree, tupleReprUnderWay_eq]; refine wpOwn_bind (wpOwn_stackTailAny hg (tupGuardF_off _) (tupGuardF_pos _) ?_)
  have no : (g.any fun c => tupGuardF (.ref a) (c, default)) = false := by
    rw [List.any_eq_false]; intro c hcm; rw [tupGuardF_of_clear clr c hcm]; exact Bool.false_ne_true
  rw [no]; refine wpOwn_of_wpAny ?_
  show wpAny _ _ (tupleReprRest base (.ref a)) _ _ s
  unfold tupleReprRest Builtin.Tuple.tupleItemsOf; refine wpAny_bind (wpAny_bind (wpAny_seqItems ho hd (wpAny_pure ?_)))
  rw [← Array.forIn_toList]
  refine wpAny_bind (wr_fold (W1 := ⟨del W.I a, W.P⟩) (H1 := H) (ar_tup hA hi) (guards_under_guard hcg hg) l xs its ts _ _ _ ⟨del W.I a, W.P⟩ H _ (del_tup rp ha hm) rv hlen hT (by omega) Stp.refl (ok.write ha hk) I fun W' H' s' st okc I' => ?_)
  refine wpAny_bind (wpAny_mkStr (wpAny_pure ?_) (by simpa [tupleText, li] using (show (tupleText ts).length ≤ sizeLine by omega)))
  obtain ⟨st2, ok2⟩ := written_stp ⟨_, _, _, List.mem_cons_self ..⟩ ok ha st okc
  have z := q _ _ _ s'.toks st2 ok2 (I'.tok (s'.toks + 1))
  simpa [tupleText, li] using z
theorem keys_back {K : PySem.W.Frag} {I : Hp} : ∀ {l : List D} {ks : List Key}, Dns K I l (ks.map kV) → l = ks.map kD
  | _, [], m => by cases m; rfl
  | _, k :: ks, m => by
    cases m with
    | cons h t =>
      rw [keys_back t]
      have e : ∀ {d : D}, Dn K I d (kV k) → d = kD k := fun {d} h => by
        cases k with
        | inl i => cases h; rfl
        | inr s => cases h; rfl
      rw [e h]
      rfl
theorem wr_tup {l : List D} {ts : List Str} (nk : ∀ ks : List Key, l ≠ ks.map kD) (rp : Rps l) (hlen : ts.length = l.length) (hT : ∀ (i : Nat) d, l[i]? = some d → ∃ t, ts[i]? = some t ∧ Wr X k d t) : Wr X (k + 1) (.tup l) (tupleText ts) := fun A g W H pins σ s v u base Q E hA hg ok I n r hb q => by
  cases n with
  | @tup _ a xs ha hm =>
    cases r
    obtain ⟨its, rv, ⟨o, ho, hc, n0, hd⟩, _⟩ := I.tuple (SqT.of (ok.ex _ _ ha))
    have ty : s.TypeIs (.ref a) "tuple" := ⟨o, ho, hc⟩
    refine wpAny_pyReprUnder_ref (by omega) ?_
    refine wpAny_pyReprObjUnder_twin (twin := "tuple.__repr__.under") ty F.slot_tuple_repr rfl hA.r.units0 ?_
    refine call_twin_own (F.quiet_tuple_repr_under _) F.entry_tuple_repr_under F.check_tuple_repr_under ty F.slot_tuple_repr (F.args_tuple_repr_1 _) ?_
    exact wr_tupBody (.inr rfl) hA hg ok I ha (fun ks z => by cases z; exact nk ks (keys_back hm)) hm rp hlen hT hb fun W' H' s' u st ok' I' => ⟨⟨_, _, rfl⟩, _, _, rfl, q _ _ _ st ok' I'⟩
/-- a tuple of ints -/
theorem wr_foldI {A : Around} {g : List Code} {E : Value → Shared → Prop} (is : List Int) : ∀ (us : List Value) (acc : Array Str) (n : Nat) (s : Shared) (Q : (Array Str × Nat) → Shared → Prop),
    (∀ i ∈ is, i.natAbs.log2 < 1920) → Vals (is.map V.int) us → n + piled (is.map fun i => (toString i : Str)) ≤ sizeLine → (∀ tk, Q ⟨acc ++ (is.map fun i => (toString i : Str)).toArray, n + piled (is.map fun i => (toString i : Str))⟩ { s with toks := tk }) → wpAny (model X.prog X.w) A (forIn us (⟨acc, n⟩ : (Array Str × Nat)) tupBody) Q E s := by
  induction is with
  | nil =>
    intro us acc n s Q hi hv hn q
    cases hv
    simp only [List.forIn_nil]
    exact wpAny_pure (by simpa [piled] using q s.toks)
  | cons i is ih =>
    intro us acc n s Q hi hv hn q
    rw [List.map_cons] at hv
    cases hv with
    | cons r rs =>
      obtain ⟨t, rfl⟩ := r
      rw [List.map_cons, piled_cons] at hn
      rw [List.forIn_cons]
      refine wpAny_bind (wpAny_bind (ReprIs.int t (hi i (List.mem_cons_self ..)) (n + 1) (by omega) A E s _ fun tk => wpAny_pure ?_))
      refine ih _ (acc.push (toString i : Str)) (n + (((toString i : Str)).length + 2)) _ Q (fun i h => hi i (List.mem_cons_of_mem _ h)) rs (by omega) fun tk2 => ?_
      have h1 := q tk2
      rw [List.map_cons, piled_cons] at h1
      have e : n + ((toString i : Str).length + 2 + piled (is.map fun i => (toString i : Str))) = n + ((toString i : Str).length + 2) + piled (is.map fun i => (toString i : Str)) := by omega
      rw [e] at h1
      simpa using h1
theorem wr_tupI {is : List Int} (hi : ∀ i ∈ is, i.natAbs.log2 < 1920) : Wr X (k + 1) (tI is) (tupleText (is.map fun i => (toString i : Str))) := fun A g W H pins σ s v u base Q E hA hg ok I n r hb q => by
  cases n with
  | @tup _ a xs ha hm =>
    cases r
    rw [Dns.ints hm] at ha
    have hH := ok.ex _ _ ha
    obtain ⟨its, rv, ⟨o, ho, hc, n0, hd⟩, _⟩ := I.tuple (SqT.of hH)
    have ty : s.TypeIs (.ref a) "tuple" := ⟨o, ho, hc⟩
    refine wpAny_pyReprUnder_ref (by omega) ?_
    refine wpAny_pyReprObjUnder_twin (twin := "tuple.__repr__.under") ty F.slot_tuple_repr rfl hA.r.units0 ?_
    refine call_twin_own (F.quiet_tuple_repr_under _) F.entry_tuple_repr_under F.check_tuple_repr_under ty F.slot_tuple_repr (F.args_tuple_repr_1 _) ?_
    have tl := piled_le_tupleText (is.map fun i => (toString i : Str))
    have li : its.length = (is.map fun i => (toString i : Str)).length := by rw [← rv.length, List.length_map, List.length_map]
    have clr : Clear g a := clear_of fun z => by rw [(ok.gd a z).1] at ha; cases ha
    rw [tuple_repr_tree, tupleReprUnderWay_eq]; refine wpOwn_bind (wpOwn_stackTailAny hg (tupGuardF_off _) (tupGuardF_pos _) ?_)
    have no : (g.any fun c => tupGuardF (.ref a) (c, default)) = false := by
      rw [List.any_eq_false]; intro c hcm; rw [tupGuardF_of_clear clr c hcm]; exact Bool.false_ne_true
    rw [no]; refine wpOwn_of_wpAny ?_
    show wpAny _ _ (tupleReprRest base (.ref a)) _ _ s
    unfold tupleReprRest Builtin.Tuple.tupleItemsOf; refine wpAny_bind (wpAny_bind (wpAny_seqItems ho hd (wpAny_pure ?_)))
    rw [← Array.forIn_toList]
    refine wpAny_bind (wr_foldI (g := g) is its _ _ _ _ hi rv (by omega) fun tk => ?_)
    refine wpAny_bind (wpAny_mkStr (wpAny_pure ?_) (by simpa [tupleText, li] using (show (tupleText (is.map fun i => (toString i : Str))).length ≤ sizeLine by omega)))
    have z := q W H { s with toks := tk + 1 } Stp.refl ok (I.tok (tk + 1))
    exact ⟨⟨_, _, rfl⟩, _, _, rfl, by simpa [tupleText, li] using z⟩
/-- an object by its own __repr__ -/
theorem wr_obj {C : Addr} {fs : List (Str × D)} {t : Str} {sp : SpD} (F : Sm X.prog X.w X.K X.mg X.base C "__repr__" k sp) (q : ∀ Q : D → Prop, Q (.str t) → sp [.val (.obj C fs)] Q) : Wr X k (.obj C fs) t := fun A g W H pins σ s v u base Q E hA hg ok I n r hb c => by
  cases id n with
  | @obj _ _ p _ _ ha _ =>
    have r' := r
    cases (show u = Value.ref p from r)
    obtain ⟨f, fd, ps, F, hf, hi, hbb⟩ := F.ex
    obtain ⟨ox, od, J⟩ := inst_at I (ok.ex _ _ ha)
    refine wpAny_pyReprUnder_ref (by omega) ?_
    unfold pyReprObjUnder pyReprObjBy
    refine wpAny_bind (wpAny_cRoomFor hA.r.units0 ?_); refine wpAny_bind (wpAny_bind (J.type.here ((PySem.W.looks_findIn I.kIn hf).here ?_)))
    show wpAny _ _ (if (some (Value.ref f)).isNone = true then _ else _) _ _ _
    rw [if_neg (by simp)]
    have run : wpAny (model X.prog X.w) A (call (.ref f) [.ref p]) (fun r s' => ∃ tk, r = .str t tk ∧ Q t s') E s := by
      have hsp : lift X.K sp g [.ref p] H (fun z H' => z = .str t ∧ ∀ s', Inv X pins σ H' s' → Q t s') :=
        ⟨_, W, fun d => d = .str t, ok, .cons (show Arg X.K W (.val (.obj C fs)) (.ref p) from n) .nil, q _ rfl, fun d v2 W' H' st ok' n' e => by
          subst e
          cases n'
          exact ⟨rfl, fun s' I' => c W' H' s' st ok' I'⟩⟩
      refine wpAny_call (run_gn (A := A) (us := [.ref p]) (vs := [.ref p]) F hA.r hg (hA.env I) hbb .nil I (.cons r' .nil) hsp fun u s' hv => ?_)
      obtain ⟨z, H', I3, rz, e, q3⟩ := hv
      subst e
      obtain ⟨tk, rfl⟩ := (show ∃ tk, u = Value.str t tk from rz)
      exact ⟨tk, rfl, q3 s' I3⟩
    have fin : wpAny (model X.prog X.w) A (call (.ref f) ([.ref p] ++ []) >>= fun v => pure (some v)) (fun r s' => ∃ tk, r = some (.str t tk) ∧ Q t s') E s := wpAny_bind (wpAny_mono run (fun r s' ⟨tk, e, q⟩ => wpAny_pure ⟨tk, by rw [e], q⟩) fun _ _ y => y)
    refine wpAny_bind (wpAny_mono (Q := fun r s' => ∃ tk, r = some (.str t tk) ∧ Q t s') ?_ (fun r s' ⟨tk, e, qq⟩ => ?_) fun _ _ y => y)
    · simp only [callSpecialIfBoundBy?, bindSpecialIfBound?]
      refine wpAny_holding (wpAny_bind (wpAny_bind (wpAny_bind (J.type.here ((PySem.W.looks_findIn I.kIn hf).here ?_)))))
      refine wpAny_bind (wpAny_askSetting (wpAny_ite ?_))
      split
      · exact wpAny_bind ((PySem.W.bind_fn I.kIn _ (beq_iff_eq.mp hi)).here (wpAny_pure (by exact fin)))
      · exact wpAny_tryCatch (wpAny_bind ((PySem.W.bind_fn I.kIn _ (beq_iff_eq.mp hi)).here (wpAny_pure (by exact fin))))
    · subst e
      refine wpAny_bind (wpAny_isInstance (typeIs_str _ _ _) isSubtype_str_str ?_)
      first
        | exact wpAny_pure ⟨_, _, rfl, qq⟩
        | (rw [if_pos rfl]; exact wpAny_pure ⟨_, _, rfl, qq⟩)
        | (simp only [if_true]; exact wpAny_pure ⟨_, _, rfl, qq⟩)
theorem ar_here {pins : List (Addr × Obj)} {σ : L2.St} {H : Hp} {s : Shared} (hr : Room (k + 1) X.A) (I : Inv X pins σ H s) : Ar X k X.A.in1 := ⟨hr.in1, I.env0.frames⟩
theorem cd_reprL {l : List D} {ts : List Str} {Q : D → Prop} (hr : Room (k + 2) X.A) (hG : X.A.guards = some (gOf X)) (hl : l.length ≤ 1000) (rp : Rps l) (hlen : ts.length = l.length) (hT : ∀ (i : Nat) d, l[i]? = some d → ∃ t, ts[i]? = some t ∧ Wr X k d t) (hb : (listText ts).length ≤ sizeLine) (q : Q (.str (listText ts))) : CD X (.builtin "repr") [.val (.lst l)] Q := fun vs W H ok ha R c pins s σ us I rv => by
  obtain ⟨v, rfl, n⟩ := one_arg ha
  cases rv with
  | cons r1 r2 =>
    cases r2
    cases n with
    | @lst _ a xs hI hm =>
      cases r1
      obtain ⟨_, its, n0, rv, le, get⟩ := I.lstM (ok.ex _ _ hI)
      have ty : s.TypeIs (.ref a) "list" := ⟨_, get, rfl⟩
      have u0 := hr.un
      refine call_repr_slot (by omega) ty F.slot_list_repr.toG (wpAny_call (codeAny_call_builtin F.slot_list_repr.plain F.entry_list_repr (F.slot_list_repr.check _ _ _ _ _ _ _ _ ty (F.args_list_repr_1 _) ?_)))
      exact wr_lstBody (base := 0) (R := callEnd (fun r s₁ => ∃ x t, r = .str x t ∧ EP X pins σ R r s₁) X.xe) hl (ar_here hr I) hG ok I hI hm rp hlen hT (by omega) fun W' H' s' u st ok' I' => ⟨_, _, rfl, .str _, H', I', ⟨u, rfl⟩, c (.str _) _ W' H' st ok' (.str _) q⟩
end
end DL

set_option Elab.async false
set_option linter.all false
set_option maxRecDepth 100000
set_option maxHeartbeats 2000000
/-! {x!r}: a list with own objects, in a text -/
namespace DL
open PySem PySem.Spec PyProof.Rows L2
theorem pyReprObj_slot {prog : Program} {w : World} {A : Around} {E : Value → Shared → Prop} {s : Shared} {T idr : String} {v : Value} {Q : Value → Shared → Prop} (hu : A.units < cLine) (hT : s.TypeIs v T) (slotRepr : SlotG T "__repr__" idr)
    (hc : wpAny (model prog w) A (call (.builtin idr) [v]) (fun r s₁ => ∃ x t, r = .str x t ∧ Q r s₁) E s) : wpAny (model prog w) A (pyReprObj v) Q E s := by
  unfold pyReprObj
  refine wpAny_bind (m := cRoomFor _ _) (wpAny_cRoomFor hu ?_)
  refine wpAny_bind (wpAny_specialOf (name := Str.ofString "__repr__") hT slotRepr.lookup ?_)
  refine wpAny_bind (m := callSpecialIfBound? v (Str.ofString "__repr__")) (wpAny_callSpecialIfBound?_slotG (name := Str.ofString "__repr__") hT slotRepr (wpAny_mono hc (fun r s₁ h₁ => ?_) fun _ _ e => e))
  obtain ⟨x, t, rfl, hq⟩ := h₁
  refine wpAny_bind (wpAny_isInstance (T := "str") (b := true) rfl isSubtype_str_str ?_)
  exact wpAny_pure hq
/-- what {x!r} comes to, x whatever it is -/
def WRr (X : Cx) (x : V) (H : Hp) (Q : VK) : Prop := ∀ pins s σ u, Inv X pins σ H s → RelV x u → wpAny (model X.prog X.w) X.A (pyReprObj u) (fun r s' => ∃ y t H2, r = Value.str y t ∧ y.length ≤ sizeLine ∧ Inv X pins σ H2 s' ∧ Q (.str y) H2) X.xe s
def tFmtL (X : Cx) (te : TE) : TE := fun σ H Q => te σ H fun x H1 => WRr X x H1 Q
theorem pe_fmtL {X : Cx} {e : Expr} {te : TE} {pos : Pos} (he : PE X e te) : PE X (.FormattedValue e 114 none pos) (tFmtL X te) := by
  refine ⟨fun pins s σ H Q I h => ?_⟩
  refine wpAny_FormattedValue_repr (thn (he.run pins s σ H _ I h) fun v s1 hv => ?_)
  obtain ⟨x, H1, I1, r1, q⟩ := hv
  refine thn (q pins s1 σ v I1 r1) fun r s2 hr => ?_
  obtain ⟨y, t, H2, rfl, hz, I2, q2⟩ := hr
  exact wpAny_formatField_str ⟨.str y, H2, I2, ⟨t, rfl⟩, q2⟩ ⟨.str y, H2, I2.tok _, ⟨_, rfl⟩, q2⟩ hz
section
variable {X : Cx} {B : Hp} {S : En} {pos : Pos} {Q : D → Prop} {e : Expr} {k : Nat}
/-- {x!r}, x a list with own objects -/
theorem ed_fmtL (hr : Room (k + 2) X.A) (hG : X.A.guards = some (gOf X)) (h : ED X B S e fun d => ∃ l ts, d = .lst l ∧ l.length ≤ 1000 ∧ Rps l ∧ ts.length = l.length ∧ (∀ (i : Nat) d, l[i]? = some d → ∃ t, ts[i]? = some t ∧ Wr X k d t) ∧ (listText ts).length ≤ sizeLine ∧ Q (.str (listText ts))) : ED X B S (.FormattedValue e 114 none pos) Q := fun σ W H r R c => by
  refine PE.w (pe_fmtL we_pe) ?_
  refine h σ W H r _ fun d v W1 H1 s1 ok1 n1 q1 => ?_
  obtain ⟨l, ts, rfl, hl, rp, hlen, hT, hb, q⟩ := q1
  have c1 := c.step s1 ok1
  intro pins s σ' u I ru
  cases n1 with
  | @lst _ a xs ha hm =>
    cases ru
    obtain ⟨_, its, n0, rv, le, get⟩ := I.lstM (ok1.ex _ _ ha)
    have ty : s.TypeIs (.ref a) "list" := ⟨_, get, rfl⟩
    refine pyReprObj_slot hr.units0 ty F.slot_list_repr.toG (wpAny_call (codeAny_call_builtin F.slot_list_repr.plain F.entry_list_repr (F.slot_list_repr.check _ _ _ _ _ _ _ _ ty (F.args_list_repr_1 _) ?_)))
    exact wr_lstBody (base := 0) (R := callEnd (fun r s₁ => ∃ x t, r = .str x t ∧ ∃ y t' H2, r = Value.str y t' ∧ y.length ≤ sizeLine ∧ Inv X pins σ' H2 s₁ ∧ R (.str y) H2) X.xe) hl ⟨hr.mono (by omega), I.env0.frames⟩ hG ok1 I ha hm rp hlen hT (by omega) fun W' H' s' u st ok' I' => ⟨_, _, rfl, _, _, H', rfl, hb, I', c1 (.str _) _ W' H' st ok' (.str _) q⟩
/-- {x!r}, x a text -/
theorem ed_fmtRs (h : ED X B S e fun d => ∃ y, d = .str y ∧ (reprText y).length ≤ sizeLine ∧ Q (.str (reprText y))) : ED X B S (.FormattedValue e 114 none pos) Q := fun σ W H r R c => by
  refine PE.w (pe_fmtR we_pe) ?_
  refine h σ W H r _ fun d v W1 H1 s1 ok1 n1 q1 => ?_
  obtain ⟨y, rfl, l, q⟩ := q1
  have c1 := c.step s1 ok1
  cases n1
  exact .inl ⟨y, rfl, l, c1.now ok1 (.str _) q⟩
end
end DL

set_option Elab.async false
set_option linter.all false
set_option maxRecDepth 100000
set_option maxHeartbeats 8000000
/-! k21: texts -/
namespace DL
open PySem PySem.Spec PyProof.Rows L2
theorem textFrom_up {n : Nat} : ∀ (ts : List Str) (k : Nat) (acc : Str), (∀ t ∈ ts, t.length ≤ n) → (textFrom k acc ts).length ≤ acc.length + (n + 2) * ts.length
  | [], k, acc, _ => Nat.le_add_right _ _
  | t :: r, k, acc, h => by
    have ih := textFrom_up r (k + 1) (acc ++ (if k > 0 then ", " else "" : String) ++ t) fun x hx => h x (by simp [hx])
    have e : (acc ++ (if k > 0 then ", " else "" : String) ++ t).length = acc.length + (if k > 0 then 2 else 0) + t.length := by
      rw [Str.length_append, Str.length_append]
      split <;> rfl
    rw [e] at ih
    have ht := h t (by simp)
    have : (if k > 0 then 2 else 0) ≤ 2 := by split <;> omega
    rw [List.length_cons, Nat.mul_succ]
    exact Nat.le_trans ih (by omega)
theorem listText_up {n : Nat} {ts : List Str} (h : ∀ t ∈ ts, t.length ≤ n) : (listText ts).length ≤ (n + 2) * ts.length + 4 := by
  unfold listText
  rw [Str.length_append]
  have := textFrom_up ts 0 "[" h
  have e1 : (("[" : String) : Str).length = 1 := rfl
  have e2 : (("]" : String) : Str).length = 1 := rfl
  omega
theorem join_up {n : Nat} : ∀ {ts : List Str}, (∀ t ∈ ts, t.length ≤ n) → (Str.join ", " ts).length ≤ (n + 2) * ts.length
  | [], _ => Nat.zero_le _
  | [x], h => by
    show x.length ≤ _
    have := h x (by simp)
    simp only [List.length_singleton]
    omega
  | x :: y :: r, h => by
    have ih := join_up (ts := y :: r) fun t ht => h t (by simp at ht ⊢; exact .inr ht)
    show (x ++ ", " ++ Str.join ", " (y :: r)).length ≤ _
    have e2 : ((", " : String) : Str).length = 2 := rfl
    rw [Str.length_append, Str.length_append, e2, List.length_cons, Nat.mul_succ]
    have := h x (by simp)
    omega
theorem tupleText_up {n : Nat} {ts : List Str} (h : ∀ t ∈ ts, t.length ≤ n) : (tupleText ts).length ≤ (n + 2) * ts.length + 4 := by
  unfold tupleText
  rw [Str.length_append, Str.length_append]
  have := join_up h
  have e1 : (("(" : String) : Str).length = 1 := rfl
  have e2 : ((if ts.length == 1 then ",)" else ")" : String) : Str).length ≤ 2 := by split <;> decide +kernel
  omega
end DL
namespace K21
open PySem L2 DL
theorem tl {i : Int} (h : i.natAbs < 2 ^ 1900) : i.natAbs.log2 < 1920 := by
  by_cases z : i.natAbs = 0
  · rw [z]; decide
  · exact Nat.lt_of_lt_of_le ((Nat.log2_lt z).mpr h) (by decide)
theorem tlen {i : Int} (h : i.natAbs < 2 ^ 1900) : (PySem.Str.ofString (toString i)).length ≤ 1921 := PyProof.Rows.int_text_len_1921 (tl h)
section
variable {P : Program} {w : World} {K : PySem.W.Frag} {mg : Str → Option Value} {base : Heap} {C CB : Addr}
def reprF (p : Fr) : Str := "Ratio(" ++ Str.ofString (toString p.1) ++ ", " ++ Str.ofString (toString p.2) ++ ")"
theorem fit {x : Str} {n : Nat} (h : x.length ≤ n) (k : n ≤ 100000) : x.length ≤ sizeLine := Nat.le_trans h (Nat.le_trans k (by decide))
theorem app_len {x y : Str} {m n : Nat} (h : x.length ≤ m) (k : y.length ≤ n) : (x ++ y).length ≤ m + n := by
  rw [Str.length_append]
  omega
theorem emp_app (x : Str) : Str.empty ++ x = x := by
  show Str.mk _ = x
  cases x
  simp [Str.empty]
theorem sc_repr : FnScope ["self"] ["self"] (defScope (rat 19)) := ⟨rfl, rfl, rfl, by decide +kernel, rfl, by decide +kernel, by decide +kernel⟩
theorem ok_repr {f : Addr} {fd : FuncData} (F : FunS K "__repr__" "Ratio.__repr__" (rat 19) f fd) (T : Txt K mg C) : GnOk P w K mg base 1 f fd ["self"] (lift K (sp1b C 1900 fun p => .str (reprF p))) := by
  refine gn_dl F sc_repr (fun as Q h => by obtain ⟨_, rfl, _⟩ := h; rfl) (fun cdv A outer s H hr hG W as Q h => ?_)
  obtain ⟨p, rfl, hp, k⟩ := h
  have k : Q (.str (reprF p)) := k
  unfold reprF at k
  have l1 := tlen hp.t
  have l2 := tlen hp.b
  have l3 : (("Ratio(" : Str)).length ≤ 6 := by decide +kernel
  have l4 : ((", " : Str)).length ≤ 2 := by decide +kernel
  have l5 : ((")" : Str)).length ≤ 1 := by decide +kernel
  refine sds_cons (sd_ret (ed_join (ed_str ⟨_, rfl, ?_, ed_fmt (fT T (nm 0 ⟨rfl, .inr ⟨_, rfl, tl hp.t, _, rfl, ?_, ed_str ⟨_, rfl, ?_, ed_fmt (fB T (nm 0 ⟨rfl, .inr ⟨_, rfl, tl hp.b, _, rfl, ?_, ed_str ⟨_, rfl, ?_, ?_⟩⟩⟩))⟩⟩⟩))⟩)))
  · rw [emp_app]; exact fit l3 (by decide)
  · rw [emp_app]; exact fit (app_len l3 l1) (by decide)
  · rw [emp_app]; exact fit (app_len (app_len l3 l1) l4) (by decide)
  · rw [emp_app]; exact fit (app_len (app_len (app_len l3 l1) l4) l2) (by decide)
  · rw [emp_app]; exact fit (app_len (app_len (app_len (app_len l3 l1) l4) l2) l5) (by decide)
  · show Q _
    rw [emp_app]
    exact k
/-! entries -/
def keyT (k : List Int) : Str := tupleText (k.map fun i => (toString i : Str))
def entT (e : Ent) : Str := tupleText [keyT e.1, reprF (fr e.2)]
def txs (es : List Ent) : Str := listText (es.map entT)
theorem rp_ints : ∀ k : List Int, Rps (k.map D.int)
  | [] => .nil
  | i :: k => .cons (.int i) (rp_ints k)
theorem rp_ents : ∀ es : List Ent, Rps (enD C es)
  | [] => .nil
  | e :: es => .cons (.tup (.cons (.tup (rp_ints e.1)) (.cons (.obj (.cons (.int _) (.cons (.int _) .nil))) .nil))) (rp_ents es)
theorem reprF_len {p : Fr} (h : Bd 1900 p) : (reprF p).length ≤ 4000 := by
  unfold reprF
  have l3 : (("Ratio(" : Str)).length ≤ 6 := by decide +kernel
  have l4 : ((", " : Str)).length ≤ 2 := by decide +kernel
  have l5 : ((")" : Str)).length ≤ 1 := by decide +kernel
  exact Nat.le_trans (app_len (app_len (app_len (app_len l3 (tlen h.t)) l4) (tlen h.b)) l5) (by decide)
theorem small_i {m n b : Nat} {es : List Ent} (ge : GE m n b es) (hn : n ≤ 8) {e : Ent} (he : e ∈ es) {i : Int} (hi : i ∈ e.1) : i.natAbs < 2 ^ 1900 := by
  have := ge.cnt he hi
  exact Nat.lt_of_lt_of_le (show i.natAbs < 2 ^ 4 by show _ < 16; omega) (Nat.pow_le_pow_right (by decide) (by decide))
theorem entT_len {m n b : Nat} {es : List Ent} (ge : GE m n b es) (hn : n ≤ 8) (m8 : m ≤ 8) (hb : b ≤ 1900) {e : Ent} (he : e ∈ es) : (entT e).length ≤ 31000 := by
  have l1 : (keyT e.1).length ≤ 15388 := by
    have := tupleText_up (n := 1921) (ts := e.1.map fun i => (toString i : Str)) fun t ht => by
      obtain ⟨i, hi, rfl⟩ := List.mem_map.mp ht
      exact tlen (small_i ge hn he hi)
    rw [List.length_map, ge.len e he] at this
    have : (1921 + 2) * m ≤ (1921 + 2) * 8 := Nat.mul_le_mul_left _ m8
    unfold keyT
    omega
  have l2 := reprF_len ((ge.bq e he).le hb)
  have := tupleText_up (n := 15388) (ts := [keyT e.1, reprF (fr e.2)]) fun t ht => by
    rcases List.mem_cons.mp ht with z | z
    · rw [z]; exact l1
    · rw [List.mem_singleton.mp z]; omega
  exact Nat.le_trans this (show (15388 + 2) * 2 + 4 ≤ 31000 by decide)
theorem cd_reprE {X : Cx} {Q : D → Prop} {m n b : Nat} {es : List Ent} (ln : es.length ≤ 60) (R : Sm X.prog X.w X.K X.mg X.base C "__repr__" 1 (sp1b C 1900 fun p => .str (reprF p))) (hr : Room 4 X.A) (hG : X.A.guards = some (gOf X)) (ge : GE m n b es) (hn : n ≤ 8) (m8 : m ≤ 8) (hb : b ≤ 1900) (q : Q (.str (txs es))) : CD X (.builtin "repr") [.val (.lst (enD C es))] Q := by
  refine cd_reprL (k := 2) (ts := es.map entT) hr hG (by rw [enD_len]; omega) (rp_ents es) (by rw [List.length_map, enD_len]) (fun i d hd => ?_) ?_ q
  · obtain ⟨e, he, rfl⟩ := enD_get hd
    have me := List.mem_of_getElem? he
    refine ⟨entT e, by rw [List.getElem?_map, he]; rfl, ?_⟩
    refine wr_tup (k := 1) (ts := [keyT e.1, reprF (fr e.2)]) (fun ks z => ?_) (.cons (.tup (rp_ints e.1)) (.cons (.obj (.cons (.int _) (.cons (.int _) .nil))) .nil)) rfl fun j d hj => ?_
    · cases ks with
      | nil => cases z
      | cons a ks =>
        rw [List.map_cons] at z
        have := (List.cons.inj z).1
        cases a <;> cases this
    · match j, hj with
      | 0, hj => cases hj; exact ⟨_, rfl, wr_tupI fun i hi => tl (small_i ge hn me hi)⟩
      | 1, hj => cases hj; exact ⟨_, rfl, wr_obj R fun Q q => ⟨fr e.2, rfl, (ge.bq e me).le hb, q⟩⟩
      | j + 2, hj => cases hj
  · have := listText_up (n := 31000) (ts := es.map entT) fun t ht => by
      obtain ⟨e, he, rfl⟩ := List.mem_map.mp ht
      exact entT_len ge hn m8 hb he
    rw [List.length_map] at this
    have : (31000 + 2) * es.length ≤ (31000 + 2) * 60 := Nat.mul_le_mul_left _ ln
    have : 31002 * 60 + 4 ≤ sizeLine := by decide
    omega
theorem letT_len {z : List Nat} (hz : LetZ z) : (reprText (SX.S z)).length ≤ 1000 := by
  have lv : (PyData.str (SX.S z)).leavesShort 13 = true := by
    have a := hz.asc
    show ((SX.S z).cps.toList.all fun c => decide (c < 16 ^ 8)) = true
    rw [Array.all_eq_true_iff_forall_mem] at a
    rw [List.all_eq_true]
    intro c hc
    have := a c (Array.mem_toList_iff.mp hc)
    have h2 : c < 128 := by simpa using this
    exact decide_eq_true (Nat.lt_of_lt_of_le h2 (by decide))
  have h := PyData.shown_le 13 (by decide) _ lv
  have e : (PyData.str (SX.S z)).weight = z.length := by
    show (SX.S z).cps.size = _
    have := SX.S_len z
    exact this
  have l8 := hz.l8
  rw [e] at h
  have h2 : (PyData.str (SX.S z)).shown = reprText (SX.S z) := by simp only [PyData.shown]
  rw [h2] at h
  have : (13 + 2) * z.length ≤ 15 * 8 := Nat.mul_le_mul_left _ l8
  omega
def blT (z : List Nat) (es : List Ent) : Str := "Blend(" ++ reprText (SX.S z) ++ ", " ++ txs es ++ ")"
abbrev spBRepr (C CB : Addr) : SpD := fun as Q => ∃ z, ∃ m n b : Nat, ∃ es, as = [.val (Bo C CB z n es)] ∧ LetZ z ∧ z.length = m ∧ n ≤ 8 ∧ b ≤ 1900 ∧ GE m n b es ∧ es.length ≤ 60 ∧ Q (.str (blT z es))
theorem txs_len {m n b : Nat} {es : List Ent} (ln : es.length ≤ 60) (ge : GE m n b es) (hn : n ≤ 8) (m8 : m ≤ 8) (hb : b ≤ 1900) : (txs es).length ≤ 1900000 := by
  have := listText_up (n := 31000) (ts := es.map entT) fun t ht => by
    obtain ⟨e, he, rfl⟩ := List.mem_map.mp ht
    exact entT_len ge hn m8 hb he
  rw [List.length_map] at this
  have : (31000 + 2) * es.length ≤ (31000 + 2) * 60 := Nat.mul_le_mul_left _ ln
  unfold txs
  omega
theorem fitB {x : Str} {n : Nat} (h : x.length ≤ n) (k : n ≤ 2000000) : x.length ≤ sizeLine := Nat.le_trans h (Nat.le_trans k (by decide))
theorem ents_wr {X : Cx} {m n b : Nat} {es : List Ent} (R : Sm X.prog X.w X.K X.mg X.base C "__repr__" 1 (sp1b C 1900 fun p => .str (reprF p))) (ge : GE m n b es) (hn : n ≤ 8) (hb : b ≤ 1900) (i : Nat) (d : D) (hd : (enD C es)[i]? = some d) : ∃ t, (es.map entT)[i]? = some t ∧ Wr X 2 d t := by
  obtain ⟨e, he, rfl⟩ := enD_get hd
  have me := List.mem_of_getElem? he
  refine ⟨entT e, by rw [List.getElem?_map, he]; rfl, ?_⟩
  refine wr_tup (k := 1) (ts := [keyT e.1, reprF (fr e.2)]) (fun ks z => ?_) (.cons (.tup (rp_ints e.1)) (.cons (.obj (.cons (.int _) (.cons (.int _) .nil))) .nil)) rfl fun j d hj => ?_
  · cases ks with
    | nil => cases z
    | cons a ks =>
      rw [List.map_cons] at z
      have := (List.cons.inj z).1
      cases a <;> cases this
  · match j, hj with
    | 0, hj => cases hj; exact ⟨_, rfl, wr_tupI fun i hi => tl (small_i ge hn me hi)⟩
    | 1, hj => cases hj; exact ⟨_, rfl, wr_obj R fun Q q => ⟨fr e.2, rfl, (ge.bq e me).le hb, q⟩⟩
    | j + 2, hj => cases hj
theorem sc_brepr : FnScope ["self"] ["self"] (defScope (ble 11)) := ⟨rfl, rfl, rfl, by decide +kernel, rfl, by decide +kernel, by decide +kernel⟩
theorem ok_brepr {f : Addr} {fd : FuncData} (F : FunS K "__repr__" "Blend.__repr__" (ble 11) f fd) (V : Bt P w K mg base C CB) (R : Sm P w K mg base C "__repr__" 1 (sp1b C 1900 fun p => .str (reprF p))) : GnOk P w K mg base 5 f fd ["self"] (lift K (spBRepr C CB)) := by
  refine gn_dl F sc_brepr (fun as Q h => by obtain ⟨_, _, _, _, _, rfl, _⟩ := h; rfl) (fun cdv A outer s H hr hG W as Q h => ?_)
  obtain ⟨z, m, n, b, es, rfl, hz, hm, hn, hb, ge, ln, k⟩ := h
  have T := V.T
  have m8 : m ≤ 8 := by rw [← hm]; exact hz.l8
  have k : Q (.str (blT z es)) := k
  unfold blT at k
  have l1 := letT_len hz
  have l2 := txs_len ln ge hn m8 hb
  have l3 : (("Blend(" : Str)).length ≤ 6 := by decide +kernel
  have l4 : ((", " : Str)).length ≤ 2 := by decide +kernel
  have l5 : ((")" : Str)).length ≤ 1 := by decide +kernel
  refine sds_cons (sd_ret (ed_join (ed_str ⟨_, rfl, ?_, ed_fmtRs (fL T (nm 0 ⟨rfl, _, rfl, fitB l1 (by decide), _, rfl, ?_, ed_str ⟨_, rfl, ?_, ed_fmtL (k := 2) hr hG (mE V ge (hr.mono (j := 1) (by decide)) hG (nm 0 ⟨rfl, enD C es, es.map entT, rfl, by rw [enD_len]; omega, rp_ents es, by rw [List.length_map, enD_len], ents_wr R ge hn hb, fitB l2 (by decide), _, rfl, ?_, ed_str ⟨_, rfl, ?_, ?_⟩⟩))⟩⟩))⟩)))
  · rw [emp_app]; exact fitB l3 (by decide)
  · rw [emp_app]; exact fitB (app_len l3 l1) (by decide)
  · rw [emp_app]; exact fitB (app_len (app_len l3 l1) l4) (by decide)
  · rw [emp_app]; exact fitB (app_len (app_len (app_len l3 l1) l4) l2) (by decide)
  · rw [emp_app]; exact fitB (app_len (app_len (app_len (app_len l3 l1) l4) l2) l5) (by decide)
  · show Q _
    rw [emp_app]
    exact k
end
end K21

set_option Elab.async false
set_option linter.all false
set_option maxRecDepth 100000
set_option maxHeartbeats 4000000
/-! k21: sums over products -/
namespace K21
open PySem L2 DL
def lin (φ : List Int → Rat) : List Ent → Rat
  | [] => 0
  | e :: es => φ e.1 * e.2 + lin φ es
/-! coefficients -/
def ind (k x : List Int) : Rat := if x = k then 1 else 0
def cf (es : List Ent) (k : List Int) : Rat := lin (ind k) es
end K21

set_option Elab.async false
set_option linter.all false
set_option maxRecDepth 100000
set_option maxHeartbeats 4000000
/-! enumerate of a text -/
namespace DL
open PySem PySem.Spec PyProof.Rows L2
def Ites (z : Str) : It := ⟨fun i _ => i < z.cps.size, fun i H v H' => ∃ T c, v = .ref T ∧ H T = none ∧ H' = upd H T (.tup [.int (i : Nat), .str { cps := #[c] }]) ∧ z.cps[i]? = some c, fun i _ => z.cps.size ≤ i⟩
theorem text_end {prog : Program} {w : World} {A : Around} {E : Value → Shared → Prop} {s : Shared} {it : Addr} {z : Str} {t : Tok} {i : Nat} {Q : Value → Shared → Prop} (hh : A.handled = none) (h : s.heap.IsStrIter it (strIterType z) z t i) (hx : z.cps[i]? = none)
    (k : ∀ (h' : Heap) (e : Addr), Heap.ExtBut it s.heap h' → (∃ o, h'.get? e = some o ∧ o.cls = Value.type "StopIteration") → E (Value.ref e) { s with heap := h' }) : wpAny (model prog w) A (Builtin.SmallTypes.nextOf (Value.ref it)) Q E s := by
  unfold strIterType at h
  split at h
  · exact wpAny_nextOf_ascii_end hh h hx k
  · exact wpAny_nextOf_wide_end hh h hx k
theorem enum_endS {prog : Program} {w : World} {A : Around} {E : Value → Shared → Prop} {s : Shared} {e it : Addr} {i : Nat} {z : Str} {t : Tok} {old : Value} {Q : Option Value → Shared → Prop} (hh : A.handled = none) (he : IsEnum s.heap e it i old) (hit : s.heap.IsStrIter it (strIterType z) z t i) (hx : z.cps[i]? = none)
    (hQ : ∀ h', Heap.ExtBut it s.heap h' → Q none { s with heap := h' }) : wpAny (model prog w) A (pyNext (.ref e)) Q E s := by
  have hT : s.TypeIs (.ref e) "enumerate" := ⟨_, he, rfl⟩
  unfold pyNext
  refine wpAny_bind (wpAny_attempt (wpAny_callSpecial?_slot (name := Str.ofString "__next__") hT F.slot_enumerate_next
    (wpAny_call_entry F.slot_enumerate_next hT F.entry_enumerate_next ?_ (F.args_enumerate_next_1 _))))
  show wpAny _ _ (field (.ref e) 2 >>= _) _ _ _
  refine wpAny_bind (wpAny_field he rfl (x := .ref it) rfl ?_)
  refine wpAny_bind (text_end (A := A.in1) hh hit hx fun h' x he' hx' => ?_)
  obtain ⟨o, ho, hc⟩ := hx'
  refine wpAny_bind (wpAny_isInstance (T := "StopIteration") (b := true) ⟨o, ho, hc⟩ isSubtype_stop ?_)
  exact wpAny_pure (hQ _ he')
theorem turn_enumS {P : Program} {w : World} {K : PySem.W.Frag} {elts : List Expr} {kk : Nat} {tpos : Pos} (z : Str) (t : Tok) (e it : Addr) :
    Turn P w K (.Tuple elts kk tpos) (Ites z) [e, it] e (fun i h => (∃ old, IsEnum h e it ((i : Nat) : Int) old) ∧ h.IsStrIter it (strIterType z) z t i ∧ e ≠ it) where
  mem := by simp
  obj := fun i h st b hb => by
    obtain ⟨⟨old, he⟩, ⟨o, ho, hc, hd⟩, _⟩ := st
    have e' : b = e ∨ b = it := by simpa using hb
    rcases e' with z | z
    · rw [z]; exact ⟨_, he, fun v q => nomatch q⟩
    · rw [z]; exact ⟨o, ho, fun v q => by rw [hd] at q; cases q⟩
  keep := fun i h h' st k => by
    obtain ⟨⟨old, he⟩, ⟨o, ho, hc, hd⟩, hne⟩ := st
    exact ⟨⟨old, k e (by simp) _ he⟩, ⟨o, k it (by simp) o ho, hc, hd⟩, hne⟩
  item := by
    intro X hP hw hK hc i pins s σ H E I hf st hg
    subst hP hw hK
    obtain ⟨⟨old, he⟩, hit, hne⟩ := st
    have lt : i < z.cps.size := hg
    have hel : e < s.heap.objs.size := Heap.lt_size he
    have hil : it < s.heap.objs.size := by obtain ⟨_, q, _⟩ := hit; exact Heap.lt_size q
    refine wpAny_pyNext_enum_itemD (Draws.text (A := X.A.in1) (I.ok.hd hc) it z t) he hit lt hne (by simp [hne]) fun x' h' tk hP ho hit' hT hsz hk => ?_
    obtain ⟨c, u, ec, rfl⟩ := hP
    refine ⟨_, rfl, wpAny_letOwnedTupleGo_enum (s := { s with heap := h', toks := tk + 1 }) ho fun h'' he' sb => ?_⟩
    have hT2 : h''.get? s.heap.objs.size = some { cls := .type "tuple", data := .seq #[.int i tk, .str { cps := #[c] } u] } := (sb.2 _ (Nat.ne_of_gt hel)).trans hT
    have new : ObjOk X.prog X.w (upd H s.heap.objs.size (.tup [.int (i : Nat), .str { cps := #[c] }])) h'' s.heap.objs.size (.tup [.int (i : Nat), .str { cps := #[c] }]) :=
      ⟨by show 2 ≤ sizeLine; decide, [.int i tk, .str { cps := #[c] } u], .cons ⟨_, rfl⟩ (.cons ⟨_, rfl⟩ .nil), ⟨_, hT2, rfl, _, rfl⟩⟩
    have I1 : Inv X pins σ (upd H s.heap.objs.size (.tup [.int (i : Nat), .str { cps := #[c] }])) { s with heap := h'', toks := tk + 1 } :=
      I.turnedNew (ch := [e, it]) (fun b ob hb q => (sb.2 b (fun z => hb (by simp [z]))).trans (hk b ob (fun z => hb (by simp [z])) (fun z => hb (by simp [z])) q)) hf (Nat.le_refl _) new
    obtain ⟨o, q1, q2, q3⟩ := hit'
    refine ⟨.ref s.heap.objs.size, _, I1, rfl, ⟨_, c, rfl, I.hok.fresh (Nat.le_refl _), rfl, ec⟩, ⟨⟨.str { cps := #[c] } u, ?_⟩, ⟨o, (sb.2 it (Ne.symm hne)).trans q1, q2, q3⟩, hne⟩, fun b hb => ?_⟩
    · have e1 : ((i + 1 : Nat) : Int) = (i : Int) + 1 := by omega
      rw [e1]; exact he'
    · have hb' : b < s.heap.objs.size := by
        have e' : b = e ∨ b = it := by simpa using hb
        rcases e' with z | z
        · rw [z]; exact hel
        · rw [z]; exact hil
      rw [upd_ne (Nat.ne_of_lt hb')]
      exact (hf b hb).1
  done := by
    intro X hP hw hK hc i pins s σ H E I hf st hg
    subst hP hw hK
    obtain ⟨⟨old, he⟩, hit, hne⟩ := st
    have hg : z.cps.size ≤ i := hg
    obtain ⟨f0, f1, f2, f3, f4, f5⟩ := hf it (by simp)
    exact enum_endS (I.ok.hd hc) he hit (Array.getElem?_eq_none hg) fun h' eb => ⟨rfl, I.turned (t' := s.toks) (fun b o hb q => eb b o hb q) f0 f1 f3 f4 f5⟩
  self := fun A i s Q E st h => let ⟨⟨_, he⟩, _⟩ := st; wpAny_pyIter_enum he h
def iEnumS (ta : TA) : TI := fun σ H R => ta σ H fun vs H1 => ∃ z, vs = [.str z] ∧ R (Ites z) H1
theorem pi_enumS {X : Cx} {e : Expr} {ta : TA} {p pos tpos : Pos} {elts : List Expr} {kk : Nat} (hg : Gl X "enumerate") (hm : X.mg "enumerate" = none) (ha : PA X [e] ta) (hs : starEach [e] X.env = [(false, eval e X.env)] := by rfl) :
    PI X (.Tuple elts kk tpos) (.Call (.Name "enumerate" p) [e] [] pos) (iEnumS ta) := by
  refine ⟨fun pins s σ H R J h => Call_ (ld_blt J hg hm boot_enumerate (PyProof.Rows.callWith_type1 (thn (ha.run pos pins s σ H _ J h) fun us s1 ⟨vs, H1, J1, r1, q1⟩ => ?_) hs rfl))⟩
  obtain ⟨z, rfl, q⟩ := q1
  cases r1 with
  | cons r rr =>
    cases rr
    obtain ⟨t, rfl⟩ := r
    refine call_enumerate_str fun h' h1 h2 _ keep => wpAny_pyIter_enum h1 ?_
    have J2 : Inv X pins σ H1 { s1 with heap := h' } := J1.kept (t' := s1.toks) keep
    refine ⟨s1.heap.objs.size + 1, [s1.heap.objs.size + 1, s1.heap.objs.size], _, _, H1, rfl, J2, turn_enumS z t _ _, ⟨⟨_, h1⟩, h2, Nat.succ_ne_self _⟩, fun b hb => ?_, q⟩
    have le : s1.heap.objs.size ≤ b := by
      have z : b = s1.heap.objs.size + 1 ∨ b = s1.heap.objs.size := by simpa using hb
      rcases z with z | z <;> rw [z]
      · exact Nat.le_add_right _ _
      · exact Nat.le_refl _
    exact J1.fpOk le (J1.hok.fresh le)
theorem walk_enumS {z : Str} : Walk (Ites z) z.cps.size (fun _ => True) (YPair (fun i => some (.int (i : Nat))) (fun i => (z.cps[i]?).map fun c => V.str { cps := #[c] })) := by
  refine ⟨fun i _ hi _ => hi, fun _ _ => Nat.le_refl _, fun i H v H' _ _ y => ?_⟩
  obtain ⟨T, c, h1, h2, h3, h4⟩ := y
  exact ⟨T, .int (i : Nat), .str { cps := #[c] }, h1, h2, h3, rfl, by show Option.map _ _ = _; rw [h4]; rfl⟩
section
variable {X : Cx} {B : Hp} {W0 : Wd} {S : En} {pos px p1 p apos cpos : Pos} {Q : D → Prop} {a b c e e2 o elt iter value : Expr} {es : List Expr} {E : Ends'} {x : Str}
/-- for i, c in enumerate(a text) -/
theorem sd_forEnS {elts : List Expr} {kk : Nat} {tpos : Pos} {body : List Stmt} {z : Str} (hp : PassesOwn (model X.prog X.w) X.A X.env X.xe) (hc : X.calm = true) (hm : X.mg "enumerate" = none) (Inv : Nat → En → Prop) (h : AD X B S [e] fun as => as = [.val (.str z)] ∧ Inv 0 S)
    (hs : ∀ (i : Nat) c S', z.cps[i]? = some c → Inv i S' → GD X B W0 S' (.Tuple elts kk tpos) (.tup [.int (i : Int), .str { cps := #[c] }]) fun S2 => SDs X B W0 S2 body { nx := Inv (i + 1), rt := E.rt, bk := E.nx, ct := Inv (i + 1) })
    (hd : ∀ S', Inv z.cps.size S' → E.nx S') (hg : Gl X "enumerate" := by rfl) (hst : starEach [e] X.env = [(false, eval e X.env)] := by rfl) (hf : ∀ x, foldedSetIterable (.Call (.Name "enumerate" p) [e] [] p1) X.env x = pure x := by intro _; rfl) :
    SD X B W0 S (.For (.Tuple elts kk tpos) (.Call (.Name "enumerate" p) [e] [] p1) body [] pos) E := fun σ W H r zz D' k => by
  refine PS.w (ps_for hp hc (pi_enumS hg hm wa_pa hst) wg_pg wss_pss hf) ?_
  refine h σ W H r _ fun as vs W1 H1 s1 ok1 n1 q1 => ?_
  obtain ⟨rfl, i0⟩ := q1
  obtain ⟨v, rfl, m⟩ := one_arg n1
  cases m
  refine ⟨z, rfl, for_it walk_enumS (fun i σ' H' => ∃ S' W', Rep X.K (gOf X) B S' σ' W' H' ∧ Stp W0 B W' H' ∧ Ex W1.I W'.I ∧ Inv i S') ⟨S, W1, r.step s1 ok1, zz.trans r.ok s1, Ex.refl _, i0⟩ (fun _ _ _ _ _ => trivial) ?_ ?_⟩
  · rintro i y σ' H' H2 hi ⟨S', W', r', z', e', i'⟩ ⟨T, x1, x2, rfl, hT, rfl, ex1, ex2⟩
    cases ex1
    obtain ⟨c, ec, rfl⟩ := Option.map_eq_some_iff.mp ex2
    have st := Stp.new (o := .tup [.int (i : Nat), .str { cps := #[c] }]) r'.ok hT
    have ok2 := r'.ok.new (o := .tup [.int (i : Nat), .str { cps := #[c] }]) hT
    refine hs i c S' ec i' σ' _ _ _ (r'.step st ok2) (z'.trans r'.ok st) (.tup (show upd W'.I T _ T = _ from upd_same) (.cons (.int _) (.cons (.str _) .nil))) _ fun S3 σ3 W3 H3 r3 z3 e3 q3 => ?_
    have e4 := (e'.trans st.I).trans e3
    exact q3 σ3 W3 H3 r3 z3 _ ⟨fun S5 σ5 W5 H5 r5 z5 e5 q5 => ⟨S5, W5, r5, z5, e4.trans e5, q5⟩, fun d5 v5 W5 H5 r5 z5 e5 n5 q5 => k.rt d5 v5 W5 H5 r5 z5 ((s1.I.trans e4).trans e5) n5 q5,
      fun S5 σ5 W5 H5 r5 z5 e5 q5 => k.nx S5 σ5 W5 H5 r5 z5 ((s1.I.trans e4).trans e5) q5, fun S5 σ5 W5 H5 r5 z5 e5 q5 => ⟨S5, W5, r5, z5, e4.trans e5, q5⟩⟩
  · rintro σ' H' ⟨S', W', r', z', e', i'⟩
    exact k.nx S' σ' W' H' r' z' (s1.I.trans e') (hd S' i')
end
end DL

set_option Elab.async false
set_option linter.all false
set_option maxRecDepth 100000
set_option maxHeartbeats 8000000
/-! k21: the letters that stand -/
namespace K21
open PySem L2 DL
theorem glue_fold : ∀ (ys : List Str) (acc : Array Nat), (ys.foldl (fun acc p => acc ++ ("" : Str).cps ++ p.cps) acc).toList = acc.toList ++ ys.flatMap fun p => p.cps.toList
  | [], acc => by simp
  | y :: ys, acc => by
    rw [List.foldl_cons, glue_fold ys]
    have : ("" : Str).cps = #[] := rfl
    rw [this]
    simp
def stb (es : List Ent) (a : Nat) : Bool := (es.map fun e => decide (0 < e.1.getD a 0)).any id
def bzN (z : List Nat) (es : List Ent) (n : Nat) : List Nat := (List.range n).flatMap fun a => if stb es a = true then [z.getD a 0] else []
theorem bzN_succ (z : List Nat) (es : List Ent) (n : Nat) : bzN z es (n + 1) = bzN z es n ++ (if stb es n = true then [z.getD n 0] else []) := by
  unfold bzN
  rw [List.range_succ, List.flatMap_append]
  simp
theorem bzN_len (z : List Nat) (es : List Ent) : ∀ n, (bzN z es n).length ≤ n
  | 0 => Nat.le_refl _
  | n + 1 => by
    rw [bzN_succ, List.length_append]
    have := bzN_len z es n
    have : (if stb es n = true then [z.getD n 0] else []).length ≤ 1 := by split <;> simp
    omega
section
variable {P : Program} {w : World} {K : PySem.W.Frag} {mg : Str → Option Value} {base : Heap} {C CB : Addr}
abbrev spBrs (C CB : Addr) : SpD := fun as Q => ∃ z, ∃ m n b : Nat, ∃ es, as = [.val (Bo C CB z n es)] ∧ LetZ z ∧ z.length = m ∧ GE m n b es ∧ Q (.str (Txt.join ("" : Str) ((bzN z es m).map sg)))
abbrev NBs : List Str := ["self", "standing", "place", "letter", "counts"]
theorem sc_brs : FnScope NBs ["self"] (defScope (ble 12)) := ⟨rfl, rfl, rfl, by decide +kernel, rfl, by decide +kernel, by decide +kernel⟩
theorem ok_brs {f : Addr} {fd : FuncData} (F : FunS K "bears" "Blend.bears" (ble 12) f fd) (T : Tb K mg C CB) (hany : mg "any" = none) : GnOk P w K mg base 2 f fd ["self"] (lift K (spBrs C CB)) := by
  refine gn_dl F sc_brs (fun as Q h => by obtain ⟨_, _, _, _, _, rfl, _⟩ := h; rfl) (fun cdv A outer s H hr hG W as Q h => ?_)
  obtain ⟨z, m, n, b, es, rfl, hz, hm, ge, q⟩ := h
  have nd := sc_brs.nd
  have l8 := hz.l8
  have zs : (SX.S z).cps.size = m := by simp [hm]
  refine sds_cons (sd_own 1 nd rfl (fd_lst (ad_nil ⟨[], rfl, by simp, ?_⟩)))
  refine sds_cons (sd_forEnS (z := SX.S z) PassesOwn.never rfl T.enum (fun a S' => ∃ o2 o3, S' = [some (.val (Bo C CB z n es)), some (.own ((bzN z es a).map fun c => D.str (sg c))), o2, o3, none]) (ad_cons (fL T (nm 0 ⟨rfl, ad_nil ⟨rfl, none, none, rfl⟩⟩))) ?_ ?_)
  · rintro a c S' ha ⟨o2, o3, rfl⟩
    have ha' : z[a]? = some c := by simpa using ha
    have la : a < m := by rw [← hm]; exact (List.getElem?_eq_some_iff.mp ha').1
    have gz : z.getD a 0 = c := by rw [List.getD_eq_getElem?_getD, ha']; rfl
    have lN := bzN_len z es a
    refine gd_tup rfl (gds_cons (gd_name 2 nd rfl (gds_cons (gd_name 3 nd rfl (gds_nil ?_))))) rfl
    refine sds_st (S' := [some (.val (Bo C CB z n es)), some (.own ((bzN z es a).map fun c => D.str (sg c))), some (.val (.int (a : Int))), some (.val (.str (sg c))), none]) rfl ?_
    refine sds_cons (sd_if (td_val (ed_callB hany (ad_cons (ed_fd (fd_lcK (kvs := kvD C es) (fun i acc => acc = ((es.take i).map fun e => decide (0 < e.1.getD a 0)).map D.bl) (fun d => itE [some (.val (Bo C CB z n es)), some (.own ((bzN z es a).map fun c => D.str (sg c))), some (.val (.int (a : Int))), some (.val (.str (sg c))), none] [("counts", 4)] 4 d) rfl nd (own := [("counts", 4)]) (blkOk_by (by show blkC NBs (defScope (ble 12)) _ _ = true; decide +kernel)) (fun _ _ _ _ _ => pg_name (i := 4) nd rfl (Or.inl rfl)) (fA T (nm 0 ⟨rfl, rfl, by rw [kvD_len]; have := ge.ln; omega, rfl⟩)) (fun d => pat_name 4 (by simp)) ?_ ?_))))))
    · rintro i k d acc hi hacc rfl s2 H0 C2 cl fp
      have hi' : (es.map fun e => (ik e.1, Ra C (fr e.2)))[i]? = some (k, d) := hi
      rw [List.getElem?_map] at hi'
      obtain ⟨e, he, ee⟩ := Option.map_eq_some_iff.mp hi'
      cases ee
      have em := List.mem_of_getElem? he
      rw [tD_ik]
      have gc : e.1[a]? = some (e.1.getD a 0) := by
        rw [List.getD_eq_getElem?_getD, List.getElem?_eq_getElem (by rw [ge.len e em]; exact la)]
        rfl
      refine ed_cmp (ed_ix (nm 4 (nm 2 ⟨e.1.map D.int, (a : Int), .int (e.1.getD a 0), .inr rfl, rfl, atI_nat (by rw [List.getElem?_map, gc]; rfl), ed_int (od_gt ?_)⟩)))
      rw [List.take_add_one, he, List.map_append, List.map_append]
      rfl
    · rintro acc hacc rfl
      rw [kvD_len, List.take_length]
      refine ad_nil (cd_any rfl (kB ?_))
      by_cases c1 : stb es a = true
      · have c2 : (es.map fun e => decide (0 < e.1.getD a 0)).any id = true := c1
        rw [c2]
        show SDs _ _ _ _ _ _
        refine sds_cons (sd_append 1 ((bzN z es a).map fun c => D.str (sg c)) rfl rfl (by rw [List.length_map]; omega) (nm 3 (sds_nil (sds_nil ⟨some (.val (.int (a : Int))), some (.val (.str (sg c))), ?_⟩))))
        rw [bzN_succ, if_pos c1, gz, List.map_append]
        rfl
      · have c2 : (es.map fun e => decide (0 < e.1.getD a 0)).any id = false := by
          have := c1
          unfold stb at this
          simpa using this
        rw [c2]
        refine sds_nil (sds_nil ⟨some (.val (.int (a : Int))), some (.val (.str (sg c))), ?_⟩)
        rw [bzN_succ, if_neg c1, List.append_nil]
  · rintro S' ⟨o2, o3, rfl⟩
    rw [zs]
    refine sds_frz 1 _ rfl ?_
    have lN := bzN_len z es m
    refine sds_cons (sd_ret (ed_joinS (s := ("" : Str)) (ed_str ⟨rfl, nm 1 ⟨(bzN z es m).map sg, by rw [List.map_map], ?_, q⟩⟩)))
    have : (((bzN z es m).map sg).map (·.length)).sum ≤ 8 := by
      have key : ∀ l : List Nat, ((l.map sg).map (·.length)).sum = l.length := fun l => by
        induction l with
        | nil => rfl
        | cons x l ih =>
          rw [List.map_cons, List.map_cons, List.sum_cons, ih, List.length_cons]
          show 1 + l.length = _
          omega
      rw [key]
      omega
    rw [List.length_map]
    show _ + _ * 0 ≤ _
    omega
end
end K21

set_option Elab.async false
set_option linter.all false
set_option maxRecDepth 100000
set_option maxHeartbeats 4000000
/-! name = [comprehension], told by functions; dict comprehensions told by functions -/
namespace DL
open PySem PySem.Spec PyProof.Rows L2
section
variable {X : Cx} {B : Hp} {W0 : Wd} {S : En} {pos : Pos} {E : Ends'}
theorem lc_LI {elt iter c : Expr} {scope : Scope} {own : List (Str × Nat)} {g : TG} {l : List D} {Q : List D → Prop} (J : Nat → List D → Prop) (S' : D → En)
    (h : ED X B S iter fun d => d = .lst l ∧ l.length ≤ 50000 ∧ J 0 []) (hp : ∀ d ∈ l, Pat X.K g (own.map (·.2)) S d (S' d))
    (he : ∀ (i : Nat) d acc, l[i]? = some d → acc.length ≤ i → J i acc → ∀ (s : Shared) (H0 : Hp) (C : Addr) (cl : List (Str × Addr)) (fp : List Addr), TD (X.blk s H0 scope (compEnvC scope cl C X.env) fp) B (S' d) c fun b =>
      if b = true then ∀ (s : Shared) (H0 : Hp) (C : Addr) (cl : List (Str × Addr)) (fp : List Addr), ED (X.blk s H0 scope (compEnvC scope cl C X.env) fp) B (S' d) elt fun y => J (i + 1) (acc ++ [y]) else J (i + 1) acc)
    (hd : ∀ acc, acc.length ≤ l.length → J l.length acc → Q acc) : LC X B S (tLc (iList X.K (WE X iter)) g (WTb X scope c) (WEb X scope elt) (own.map (·.2))) Q := fun σ W H r R k => by
  refine h σ W H r _ fun d v W1 H1 s1 ok1 n1 q1 => ?_
  obtain ⟨rfl, hz, j0⟩ := q1
  cases n1 with
  | @lst _ a xs ha m =>
    refine ⟨a, rfl, ⟨xs, SqL.of (ok1.ex _ _ ha)⟩, fun p hp0 => ?_⟩
    have r1 := r.step s1 ok1
    refine lc_list (K := X.K) (a := a) (xs := xs) (fun i H' => ∃ acc W', Mid X.K (gOf X) W1 H1 p acc W' H' ∧ acc.length ≤ i ∧ J i acc) ⟨[], W1, ⟨Stp.own hp0, ok1.own hp0, ok1.notP hp0, ok1.free hp0, [], upd_same, .nil⟩, Nat.le_refl _, j0⟩
      (fun i H' _ ⟨acc, W', mm, _⟩ => SqL.of (mm.ok.ex _ _ (mm.st.I _ _ ha))) ?_ ?_
    · rintro i x H' hx ⟨acc, W', mm, hl, j⟩
      obtain ⟨d, hd', nd⟩ := m.get hx
      have r2 := r1.step mm.st mm.ok
      refine hp d (List.mem_of_getElem? hd') (gOf X) B σ W' H' x r2 (nd.mono mm.st.I) _ fun σ2 e2 r3 => ?_
      refine ⟨e2, ?_⟩
      show WTb X scope c σ2 H' _
      intro s H0 C cl fp
      have lt : i < l.length := (List.getElem?_eq_some_iff.mp hd').1
      refine he i d acc hd' hl j s H0 C cl fp σ2 W' H' r3 _ fun b W2 H2 s2 ok2 q2 => ?_
      cases b with
      | false => exact iteF ⟨acc, W2, mm.step s2 ok2, Nat.le_succ_of_le hl, by simpa using q2⟩
      | true =>
        refine iteT ?_
        show WEb X scope elt σ2 H2 _
        intro s H0 C cl fp
        refine (show ∀ (s : Shared) (H0 : Hp) (C : Addr) (cl : List (Str × Addr)) (fp : List Addr), ED (X.blk s H0 scope (compEnvC scope cl C X.env) fp) B (S' d) elt fun y => J (i + 1) (acc ++ [y]) by simpa using q2) s H0 C cl fp σ2 W2 H2 (r3.step s2 ok2) _ fun y v W3 H3 s3 ok3 n3 q3 => ?_
        obtain ⟨xs', e1, e3, m3⟩ := ((mm.step s2 ok2).step s3 ok3).more hp0 n3 (by omega)
        exact ⟨xs', e1, e3, _, W3, m3, by simp only [List.length_append, List.length_singleton]; omega, q3⟩
    · rintro H' ⟨acc, W', mm, hl, j⟩
      obtain ⟨ys, hH, ds⟩ := mm.h
      rw [← m.length] at hl j
      exact k acc p ys W' H' (s1.trans ok1 mm.st) mm.ok (s1.free ok1 hp0) mm.n mm.i hH ds (hd acc hl j)
theorem lc_TI {elt iter c : Expr} {scope : Scope} {own : List (Str × Nat)} {g : TG} {l : List D} {Q : List D → Prop} (J : Nat → List D → Prop) (S' : D → En)
    (h : ED X B S iter fun d => d = .tup l ∧ l.length ≤ 50000 ∧ J 0 []) (hp : ∀ d ∈ l, Pat X.K g (own.map (·.2)) S d (S' d))
    (he : ∀ (i : Nat) d acc, l[i]? = some d → acc.length ≤ i → J i acc → ∀ (s : Shared) (H0 : Hp) (C : Addr) (cl : List (Str × Addr)) (fp : List Addr), TD (X.blk s H0 scope (compEnvC scope cl C X.env) fp) B (S' d) c fun b =>
      if b = true then ∀ (s : Shared) (H0 : Hp) (C : Addr) (cl : List (Str × Addr)) (fp : List Addr), ED (X.blk s H0 scope (compEnvC scope cl C X.env) fp) B (S' d) elt fun y => J (i + 1) (acc ++ [y]) else J (i + 1) acc)
    (hd : ∀ acc, acc.length ≤ l.length → J l.length acc → Q acc) : LC X B S (tLc (iTup X.K (WE X iter)) g (WTb X scope c) (WEb X scope elt) (own.map (·.2))) Q := fun σ W H r R k => by
  refine h σ W H r _ fun d v W1 H1 s1 ok1 n1 q1 => ?_
  obtain ⟨rfl, hz, j0⟩ := q1
  cases n1 with
  | @tup _ a xs ha m =>
    refine ⟨a, rfl, ⟨xs, SqT.of (ok1.ex _ _ ha)⟩, fun p hp0 => ?_⟩
    have r1 := r.step s1 ok1
    refine lc_tup (K := X.K) (a := a) (xs := xs) (fun i H' => ∃ acc W', Mid X.K (gOf X) W1 H1 p acc W' H' ∧ acc.length ≤ i ∧ J i acc) ⟨[], W1, ⟨Stp.own hp0, ok1.own hp0, ok1.notP hp0, ok1.free hp0, [], upd_same, .nil⟩, Nat.le_refl _, j0⟩
      (fun i H' _ ⟨acc, W', mm, _⟩ => SqT.of (mm.ok.ex _ _ (mm.st.I _ _ ha))) ?_ ?_
    · rintro i x H' hx ⟨acc, W', mm, hl, j⟩
      obtain ⟨d, hd', nd⟩ := m.get hx
      have r2 := r1.step mm.st mm.ok
      refine hp d (List.mem_of_getElem? hd') (gOf X) B σ W' H' x r2 (nd.mono mm.st.I) _ fun σ2 e2 r3 => ?_
      refine ⟨e2, ?_⟩
      show WTb X scope c σ2 H' _
      intro s H0 C cl fp
      have lt : i < l.length := (List.getElem?_eq_some_iff.mp hd').1
      refine he i d acc hd' hl j s H0 C cl fp σ2 W' H' r3 _ fun b W2 H2 s2 ok2 q2 => ?_
      cases b with
      | false => exact iteF ⟨acc, W2, mm.step s2 ok2, Nat.le_succ_of_le hl, by simpa using q2⟩
      | true =>
        refine iteT ?_
        show WEb X scope elt σ2 H2 _
        intro s H0 C cl fp
        refine (show ∀ (s : Shared) (H0 : Hp) (C : Addr) (cl : List (Str × Addr)) (fp : List Addr), ED (X.blk s H0 scope (compEnvC scope cl C X.env) fp) B (S' d) elt fun y => J (i + 1) (acc ++ [y]) by simpa using q2) s H0 C cl fp σ2 W2 H2 (r3.step s2 ok2) _ fun y v W3 H3 s3 ok3 n3 q3 => ?_
        obtain ⟨xs', e1, e3, m3⟩ := ((mm.step s2 ok2).step s3 ok3).more hp0 n3 (by omega)
        exact ⟨xs', e1, e3, _, W3, m3, by simp only [List.length_append, List.length_singleton]; omega, q3⟩
    · rintro H' ⟨acc, W', mm, hl, j⟩
      obtain ⟨ys, hH, ds⟩ := mm.h
      rw [← m.length] at hl j
      exact k acc p ys W' H' (s1.trans ok1 mm.st) mm.ok (s1.free ok1 hp0) mm.n mm.i hH ds (hd acc hl j)
theorem sd_ownLcI {i : Nat} {y : Str} {py spos : Pos} {elt tg iter c : Expr} {scope : Scope} {own : List (Str × Nat)} {wi : TI} {g : TG} (hc : X.calm = true) (hN : X.N.Nodup) (hy : X.N[i]? = some y) (hyl : X.env.scope.names.lookup y = some .local) (hi : PI X tg iter wi) (ok : BlkOk X.N X.env.scope scope own)
    (hg : ∀ (s : Shared) (H : Hp) (C : Addr) (cl : List (Str × Addr)) (fp : List Addr), PG (X.blk s H scope (compEnvC scope cl C X.env) fp) tg g)
    (h : LC X B S (tLc wi g (WTb X scope c) (WEb X scope elt) (own.map (·.2))) fun l => E.nx (S.set i (some (.own l))))
    (hsw : swapsWith (.ListComp elt [⟨tg, iter, [c], 0⟩] scope pos) (some (.Name y py)) spos.line X.env = pure true := by exact sw_true rfl rfl rfl rfl) (hs : ∀ x, foldedSetIterable iter X.env x = pure x := by intro _; rfl) :
    SD X B W0 S (.Assign [.Name y py] (.ListComp elt [⟨tg, iter, [c], 0⟩] scope pos) spos) E := fun σ W H r z D' k => by
  refine PS.w (ps_setLc (i := i) hc hN hy hyl hsw hi ok hg (fun s H C cl fp => pts_one (wtb_pt s H C cl fp)) web_pe hs) ?_
  exact h σ W H r _ fun l p xs W1 H1 s1 ok1 hp n i1 hl d q1 => k.nx _ _ W1 H1 ((r.step s1 ok1).setOwn (z.free r.ok hp) n i1 hl d fun j m e1 e2 => by
    obtain ⟨v, e3, p2, ys, e4, _, _, _, h4, _⟩ := r.sl j _ e1
    rw [e2] at e3
    cases e3
    cases e4
    rw [hp] at h4
    cases h4) (z.trans r.ok s1) s1.I q1
end
section
variable {X : Cx} {B : Hp} {W0 : Wd} {S : En} {pos : Pos} {e elt iter c : Expr} {x : Str} {px : Pos} {scope : Scope} {own : List (Str × Nat)} {d0 : D} {Q : List D → Prop} {E : Ends'} {α : Type} {f u : α → D} {t : α → Bool} {l : List α}
/-- [elt for x in a list or a tuple if c] -/
theorem sd_ft {y : Str} {py spos : Pos} (i0 : Nat) (hy : X.N[i0]? = some y) (hyl : X.env.scope.names.lookup y = some .local) (j : Nat) (hc : X.calm = true) (hN : X.N.Nodup) (ok : BlkOk X.N X.env.scope scope own) (hg : AllBlk X scope fun Y => PG Y (.Name x px) (gName j)) (hj : j ∈ own.map (·.2)) (hl : l.length ≤ 50000) (sd : SeqD d0 (l.map f)) (hit : ED X B S iter fun d => d = d0)
    (ht : ∀ a ∈ l, AllBlk X scope fun Y => TD Y B (itE S own j (f a)) c fun b => b = t a) (he : ∀ a ∈ l, t a = true → AllBlk X scope fun Y => ED Y B (itE S own j (f a)) elt fun y => y = u a) (q : E.nx (S.set i0 (some (.own ((l.filter t).map u))))) (hsw : swapsWith (.ListComp elt [⟨.Name x px, iter, [c], 0⟩] scope pos) (some (.Name y py)) spos.line X.env = pure true := by exact sw_true rfl rfl rfl rfl) (hs : ∀ x, foldedSetIterable iter X.env x = pure x := by intro _; rfl) : SD X B W0 S (.Assign [.Name y py] (.ListComp elt [⟨.Name x px, iter, [c], 0⟩] scope pos) spos) E := by
  have step : ∀ (i : Nat) d acc, (l.map f)[i]? = some d → acc.length ≤ i → acc = ((l.take i).filter t).map u → AllBlk X scope fun Y => TD Y B (itE S own j d) c fun b => if b = true then AllBlk X scope fun Y => ED Y B (itE S own j d) elt fun y => acc ++ [y] = ((l.take (i + 1)).filter t).map u else acc = ((l.take (i + 1)).filter t).map u := by
    intro i d acc hi _ ha s H0 C cl fp σ W H r R k
    rw [List.getElem?_map] at hi
    obtain ⟨a, h1, rfl⟩ := Option.map_eq_some_iff.mp hi
    have am := List.mem_of_getElem? h1
    refine ht a am s H0 C cl fp σ W H r R fun b W' H' st ok' eb => k b W' H' st ok' ?_
    subst eb
    rw [take1f t u h1]
    cases ta : t a with
    | true =>
      refine iteT ?_
      intro s H0 C cl fp
      refine ed_imp (he a am ta s H0 C cl fp) fun y ey => ?_
      rw [ha, ey, if_pos rfl]
    | false =>
      refine iteF ?_
      rw [ha, if_neg (by decide), List.append_nil]
  have fin : ∀ acc : List D, acc.length ≤ (l.map f).length → acc = ((l.take (l.map f).length).filter t).map u → E.nx (S.set i0 (some (.own acc))) := by
    intro acc _ e
    rw [List.length_map, List.take_length] at e
    rw [e]
    exact q
  have hl' : (l.map f).length ≤ 50000 := by rw [List.length_map]; exact hl
  rcases sd with rfl | rfl
  · exact sd_ownLcI hc hN hy hyl (pi_list we_pe) ok hg (lc_LI (fun i acc => acc = ((l.take i).filter t).map u) (fun d => itE S own j d) (ed_imp hit fun d e => ⟨e, hl', rfl⟩) (fun d _ => pat_name j hj) step fin) hsw hs
  · exact sd_ownLcI hc hN hy hyl (pi_tup we_pe) ok hg (lc_TI (fun i acc => acc = ((l.take i).filter t).map u) (fun d => itE S own j d) (ed_imp hit fun d e => ⟨e, hl', rfl⟩) (fun d _ => pat_name j hj) step fin) hsw hs
end
end DL

set_option Elab.async false
set_option linter.all false
set_option maxRecDepth 100000
set_option maxHeartbeats 8000000
/-! sorted(set(tuples of ints)), sorted lists of texts and of ints; comprehensions that keep some of a list, whichever; max of a tuple -/
namespace DL
open PySem PySem.Spec PyProof.Rows L2
section
variable {prog : Program} {w : World} {A : Around} {E : Value → Shared → Prop} {s : Shared} {l : Addr}
theorem max_tup {its : List Value} {ns : List Int} {Q : Value → Shared → Prop} (hh : A.handled = none) (hl : s.heap.IsTuple l its.toArray) (hi : IntsAre its ns) (hne : 0 < ns.length) (k : ∀ h' tk M t', (∀ b o, s.heap.get? b = some o → h'.get? b = some o) → M ∈ ns → (∀ a, a ∈ ns → a ≤ M) → Q (.int M t') { s with heap := h', toks := tk }) :
    wpAny (model prog w) A (call (.builtin "max") [.ref l]) Q E s := by
  obtain ⟨xs, e⟩ := hi.allInts.items
  have en : numsOf (intItems xs).toList = ns := by rw [← e]; exact hi.numsOf
  rw [nums_intItems] at en
  subst en
  rw [e] at hl
  have hsz : 0 < xs.size := by simpa using hne
  have lt : l < s.heap.objs.size := by obtain ⟨_, g, _⟩ := hl; exact Heap.lt_size g
  refine call_max_walk (wpAny_pyIter_tuple hl ?_)
  refine ⟨_, _, _, _, _, _, _, rfl, Walks.tuple (A := A.in1) hh s.heap.objs.size l (Nat.ne_of_lt lt) (intItems xs), ⟨⟨_, Heap.get?_push_size _ rfl, rfl, rfl⟩, hl.push _⟩, fun b hb => ?_, by simpa [intItems] using hsz, CmpOf.ints_gt (numAt xs) (fun _ _ => intItems_at), fun v h' tk hv hk => ?_⟩
  · show b < (s.heap.push _).objs.size
    rw [Heap.size_push]
    rcases List.mem_cons.mp hb with z | hb
    · rw [z]; exact Nat.lt_succ_self _
    · rw [List.mem_singleton.mp hb]; exact Nat.lt_succ_of_lt lt
  · have hv : (intItems xs)[argBest (fun i j => decide (numAt xs i > numAt xs j)) (xs.size - 1)]? = some v := by simpa [intItems] using hv
    obtain ⟨t, rfl⟩ := intItems_at hv
    obtain ⟨h1, h2⟩ := argBest_gt (numAt xs) (xs.size - 1)
    refine k h' tk _ t (fun b u e => past hk b u e) ?_ fun a ha => ?_
    · rw [numAt_eq]
      exact PySem.getD_mem (by rw [List.length_map, Array.length_toList]; omega)
    · obtain ⟨j, hj, rfl⟩ := mem_getD ha
      rw [List.length_map, Array.length_toList] at hj
      rw [← numAt_eq]
      exact h2 j (by omega)
end
section
variable {X : Cx} {Q : D → Prop}
theorem cr_maxT (hc : X.calm = true) : CallR X (.builtin "max") (fun vs H Q => ∃ (a : Addr) (ns : List Int), vs = [V.ref a] ∧ SqT X.K H a (ns.map V.int) ∧ 0 < ns.length ∧ ∀ m, m ∈ ns → (∀ y, y ∈ ns → y ≤ m) → Q (.int m) H) := by
  intro pins t τ H vs us Q J r q
  obtain ⟨a, ns, rfl, hs, hne, q⟩ := q
  obtain ⟨its, rv, hl, _⟩ := J.tuple hs
  rw [Vals.ref1 r]
  exact max_tup (J.ok.hd hc) hl rv.ints hne fun h' tk m t' keep g1 g2 => ⟨.int _, H, J.kept keep, ⟨_, rfl⟩, q m g1 g2⟩
theorem cd_maxT {l : List Int} (hc : X.calm = true) (hl : 0 < l.length) (q : ∀ m, m ∈ l → (∀ y ∈ l, y ≤ m) → Q (.int m)) : CD X (.builtin "max") [.val (tI l)] Q := cd_of (cr_maxT hc) fun vs W H ok ha R c => by
  obtain ⟨v, rfl, m⟩ := one_arg ha
  cases m with
  | @tup _ a xs hp m =>
    rw [Dns.ints m] at hp
    exact ⟨a, l, rfl, SqT.of (ok.ex _ _ hp), hl, fun x g1 g2 => c.now ok (.int _) (q x g1 g2)⟩
theorem dns_txts {K : PySem.W.Frag} {I : Hp} : ∀ {l : List Str} {xs : List V}, Dns K I (l.map D.str) xs → xs = l.map V.str
  | [], _, .nil => rfl
  | s :: l, _, .cons n m => by
    cases n
    rw [dns_txts m]
    rfl
/-- sorted(a list of texts) -/
theorem cd_sortLS {xs : List Str} (h64 : xs.length < 64) (q : ∀ ys : List Str, ys.Perm xs → sortedS ys = true → Q (.lst (ys.map D.str))) : CD X (.builtin "sorted") [.val (.lst (xs.map D.str))] Q := cd_of cr_sortedS fun vs W H ok ha R c => by
  obtain ⟨v, rfl, m⟩ := one_arg ha
  cases m with
  | @lst _ a ws hp m =>
    rw [dns_txts m] at hp
    refine ⟨a, xs, rfl, SqL.of (ok.ex _ _ hp), h64, fun ys p p1 p2 hn => ?_⟩
    have st := Stp.new (o := .lst (ys.map V.str)) ok hn
    exact c _ _ _ _ st (ok.new hn) (.lst (show upd W.I p _ p = _ from upd_same) (strs_dns _)) (q ys p1 p2)
end
section
variable {X : Cx} {B : Hp} {W0 : Wd} {S : En} {p p2 pos pos2 : Pos} {e : Expr} {Q : D → Prop}
theorem tups_at {K : PySem.W.Frag} {W : Wd} {H : Hp} {g : List Code} (ok : Ok g W H) : ∀ {ls : List (List Int)} {xs : List V}, Dns K W.I (ls.map tI) xs → ∃ ks : List (Addr × List Int), xs = ks.map (fun p => V.ref p.1) ∧ ks.map (·.2) = ls ∧ ∀ p ∈ ks, W.I p.1 = some (.tup (p.2.map V.int))
  | [], _, .nil => ⟨[], rfl, rfl, by simp⟩
  | l :: ls, _, .cons n m => by
    obtain ⟨ks, e1, e2, e3⟩ := tups_at ok m
    cases n with
    | @tup _ a xs hp m' =>
      rw [Dns.ints m'] at hp
      refine ⟨(a, l) :: ks, by rw [e1]; rfl, by rw [← e2]; rfl, fun p hp' => ?_⟩
      rcases List.mem_cons.mp hp' with rfl | h
      · exact hp
      · exact e3 p h
theorem dns_tups {K : PySem.W.Frag} {I : Hp} : ∀ {ks : List (Addr × List Int)}, (∀ p ∈ ks, I p.1 = some (.tup (p.2.map V.int))) → Dns K I ((ks.map (·.2)).map tI) (ks.map fun p => V.ref p.1)
  | [], _ => .nil
  | p :: ks, h => .cons (.tup (h p (List.mem_cons_self ..)) (by
      have key : ∀ l : List Int, Dns K I (l.map D.int) (l.map V.int) := by
        intro l
        induction l with
        | nil => exact .nil
        | cons i l ih => exact .cons (.int i) ih
      exact key p.2)) (dns_tups fun q hq => h q (List.mem_cons_of_mem _ hq))
/-- sorted(set(a list of tuples of ints, all as long)) -/
theorem ed_sortSetT {ls : List (List Int)} {d : Nat} {Bb : Int} (hc : X.calm = true) (hu : X.A.units + 64 < cLine) (hm : X.mg "sorted" = none) (hm2 : X.mg "set" = none) (hd : 1 ≤ d) (h64 : ls.length < 64) (hx : ∀ l ∈ ls, l.length = d ∧ TS.Bd Bb l)
    (h : ED X B S e fun y => y = .lst (ls.map tI)) (q : ∀ ls' : List (List Int), (∀ l, l ∈ ls' ↔ l ∈ ls) → ls'.Nodup → ls'.Pairwise (fun a b => TS.code Bb a ≤ TS.code Bb b) → Q (.lst (ls'.map tI)))
    (hps : X.mg "sorted" = none → X.mg "set" = none → X.A.units + 64 < cLine → PE X (.Call (.Name "sorted" p) [.Call (.Name "set" p2) [e] [] pos2] [] pos) (tCB (rSortedT X.K X.prog X.w) (tCons (tCB (rSetOfT X.K X.prog X.w) (tCons (WE X e) tNil)) tNil)) := by
      exact fun hm hm2 hu => pe_callB (cr_sortedT rfl) rfl hm (by first | rfl | decide +kernel) (pa_cons (pe_callTy (cr_setOfT rfl hu) rfl hm2 (by first | rfl | decide +kernel) (pa_cons DL.we_pe pa_nil)) pa_nil)) : ED X B S (.Call (.Name "sorted" p) [.Call (.Name "set" p2) [e] [] pos2] [] pos) Q := fun σ W H r R k => by
  refine PE.w (hps hm hm2 hu) ?_
  refine h σ W H r _ fun y v W1 H1 s1 ok1 n1 q1 => ?_
  subst q1
  cases n1 with
  | @lst _ a xs hp m =>
    obtain ⟨ks, rfl, e2, e3⟩ := tups_at ok1 m
    refine ⟨a, ks, rfl, SqL.of (ok1.ex _ _ hp), fun p hp' => SqT.of (ok1.ex _ _ (e3 p hp')), by rw [← e2, List.length_map] at h64; exact h64, fun b L hb g1 g2 => ?_⟩
    have s2 := Stp.own (W := W1) (o := SetTO X.prog X.w b L) hb
    have ok2 := ok1.own (o := SetTO X.prog X.w b L) hb
    have mem : ∀ l, l ∈ L.map (·.2) ↔ l ∈ ls := fun l => by
      rw [← e2]
      constructor
      · intro hl
        obtain ⟨p, hp', rfl⟩ := List.mem_map.mp hl
        exact List.mem_map_of_mem (g1 p hp')
      · intro hl
        obtain ⟨p, hp', rfl⟩ := List.mem_map.mp hl
        exact g2 p hp'
    refine ⟨b, L, d, Bb, rfl, upd_same, fun p hp' => SqT.of (ok2.ex _ _ (e3 p (g1 p hp'))), hd, fun p hp' => hx p.2 ((mem p.2).mp (List.mem_map_of_mem hp')), fun L' q1 pr nd l64 pw hq => ?_⟩
    have s3 := Stp.new (o := .lst (L'.map fun q => V.ref q.1)) ok2 hq
    refine k _ _ _ _ ((s1.trans ok1 s2).trans ok2 s3) (ok2.new hq) (.lst (show upd W1.I q1 _ q1 = _ from upd_same) ?_) (q (L'.map (·.2)) (fun l => ?_) nd (List.pairwise_map.mpr pw))
    · exact dns_tups fun p hp' => s3.I _ _ (e3 p (g1 p (pr.mem_iff.mp hp')))
    · rw [← mem l]
      exact (pr.map (·.2)).mem_iff
end
section
variable {X : Cx} {B : Hp} {W0 : Wd} {S : En} {pos : Pos} {e elt iter c : Expr} {x : Str} {px : Pos} {scope : Scope} {own : List (Str × Nat)} {d0 : D} {Q : List D → Prop} {E : Ends'} {α : Type} {f : α → D} {l : List α}
theorem sub_step {i : Nat} {a : α} (h1 : l[i]? = some a) (b : Bool) {acc : List D} (ha : ∃ ls : List α, acc = ls.map f ∧ ls.Sublist (l.take i)) : ∃ ls : List α, (acc ++ if b = true then [f a] else []) = ls.map f ∧ ls.Sublist (l.take (i + 1)) := by
  obtain ⟨ls, rfl, sb⟩ := ha
  rw [List.take_add_one, h1]
  cases b with
  | true => exact ⟨ls ++ [a], by rw [List.map_append]; rfl, sb.append (.refl _)⟩
  | false => exact ⟨ls, by simp, sb.trans (List.sublist_append_left ..)⟩
/-- [x for x in a list if c], whatever the tests tell: some of the list -/
theorem lc_sub (j : Nat) (hl : l.length ≤ 50000) (hit : ED X B S iter fun d => d = .lst (l.map f)) (hj : j ∈ own.map (·.2))
    (ht : ∀ a ∈ l, AllBlk X scope fun Y => TD Y B (itE S own j (f a)) c fun _ => True) (he : ∀ a ∈ l, AllBlk X scope fun Y => ED Y B (itE S own j (f a)) elt fun y => y = f a) (q : ∀ ls : List α, ls.Sublist l → Q (ls.map f)) :
    LC X B S (tLc (iList X.K (WE X iter)) (gName j) (WTb X scope c) (WEb X scope elt) (own.map (·.2))) Q := by
  refine lc_LI (fun i acc => ∃ ls : List α, acc = ls.map f ∧ ls.Sublist (l.take i)) (fun d => itE S own j d) (ed_imp hit fun d e => ⟨e, by rw [List.length_map]; exact hl, [], rfl, List.nil_sublist _⟩) (fun d _ => pat_name j hj) ?_ ?_
  · intro i d acc hi _ ha s H0 C cl fp σ W H r R k
    rw [List.getElem?_map] at hi
    obtain ⟨a, h1, rfl⟩ := Option.map_eq_some_iff.mp hi
    have am := List.mem_of_getElem? h1
    refine ht a am s H0 C cl fp σ W H r R fun b W' H' st ok' _ => k b W' H' st ok' ?_
    have ss := sub_step h1 b ha
    cases b with
    | true =>
      refine iteT ?_
      intro s H0 C cl fp
      refine ed_imp (he a am s H0 C cl fp) fun y ey => ?_
      rw [ey]
      simpa using ss
    | false =>
      refine iteF ?_
      simpa using ss
  · intro acc _ ⟨ls, e, sb⟩
    rw [List.length_map, List.take_length] at sb
    rw [e]
    exact q ls sb
theorem sd_sub {y : Str} {py spos : Pos} (i0 : Nat) (hy : X.N[i0]? = some y) (hyl : X.env.scope.names.lookup y = some .local) (j : Nat) (hc : X.calm = true) (hN : X.N.Nodup) (ok : BlkOk X.N X.env.scope scope own) (hg : AllBlk X scope fun Y => PG Y (.Name x px) (gName j)) (hj : j ∈ own.map (·.2)) (hl : l.length ≤ 50000) (hit : ED X B S iter fun d => d = .lst (l.map f))
    (ht : ∀ a ∈ l, AllBlk X scope fun Y => TD Y B (itE S own j (f a)) c fun _ => True) (he : ∀ a ∈ l, AllBlk X scope fun Y => ED Y B (itE S own j (f a)) elt fun y => y = f a) (q : ∀ ls : List α, ls.Sublist l → E.nx (S.set i0 (some (.own (ls.map f))))) (hsw : swapsWith (.ListComp elt [⟨.Name x px, iter, [c], 0⟩] scope pos) (some (.Name y py)) spos.line X.env = pure true := by exact sw_true rfl rfl rfl rfl) (hs : ∀ x, foldedSetIterable iter X.env x = pure x := by intro _; rfl) : SD X B W0 S (.Assign [.Name y py] (.ListComp elt [⟨.Name x px, iter, [c], 0⟩] scope pos) spos) E :=
  sd_ownLcI hc hN hy hyl (pi_list we_pe) ok hg (lc_sub j hl hit hj ht he q) hsw hs
/-- .. of a range -/
theorem lc_RS {n : Nat} (j : Nat) (hn : n ≤ 50000) (h : AD X B S [e] fun as => as = [.val (.int (n : Int))]) (hj : j ∈ own.map (·.2))
    (ht : ∀ i, i < n → AllBlk X scope fun Y => TD Y B (itE S own j (.int (i : Int))) c fun _ => True) (he : ∀ i, i < n → AllBlk X scope fun Y => ED Y B (itE S own j (.int (i : Int))) elt fun y => y = .int (i : Int)) (q : ∀ ls : List Nat, ls.Sublist (List.range n) → Q (ls.map fun (i : Nat) => D.int (i : Int))) :
    LC X B S (tLc (iRng1 (WA X [e])) (gName j) (WTb X scope c) (WEb X scope elt) (own.map (·.2))) Q := fun σ W H r R k => by
  refine h σ W H r _ fun as vs W1 H1 s1 ok1 n1 q1 => ?_
  subst q1
  obtain ⟨v, rfl, m⟩ := one_arg n1
  cases m
  refine ⟨(n : Int), rfl, by omega, by omega, fun p hp0 => ?_⟩
  have r1 := r.step s1 ok1
  refine lc_range (lo := 0) (n := (n : Int).toNat) (fun i H' => ∃ acc W', Mid X.K (gOf X) W1 H1 p acc W' H' ∧ acc.length ≤ i ∧ ∃ ls : List Nat, acc = ls.map (fun (i : Nat) => D.int (i : Int)) ∧ ls.Sublist (List.range i)) ⟨[], W1, ⟨Stp.own hp0, ok1.own hp0, ok1.notP hp0, ok1.free hp0, [], upd_same, .nil⟩, Nat.le_refl _, [], rfl, .refl _⟩ ?_ ?_
  · rintro i H' hi ⟨acc, W', mm, hl2, ls, ha, sb⟩
    rw [Int.zero_add]
    have hi' : i < n := by omega
    have r2 := r1.step mm.st mm.ok
    refine pat_name j hj (gOf X) B σ W' H' (.int (i : Int)) r2 (.int _) _ fun σ2 e2 r3 => ⟨e2, ?_⟩
    show WTb X scope c σ2 H' _
    intro s H0 C cl fp
    refine ht i hi' s H0 C cl fp σ2 W' H' r3 _ fun b W2 H2 s2 ok2 q2 => ?_
    cases b with
    | false => exact iteF ⟨acc, W2, mm.step s2 ok2, Nat.le_succ_of_le hl2, ls, ha, sb.trans (by rw [List.range_succ]; exact List.sublist_append_left ..)⟩
    | true =>
      refine iteT ?_
      show WEb X scope elt σ2 H2 _
      intro s H0 C cl fp
      refine he i hi' s H0 C cl fp σ2 W2 H2 (r3.step s2 ok2) _ fun y v W3 H3 s3 ok3 n3 q3 => ?_
      obtain ⟨xs', e1, e3, m3⟩ := ((mm.step s2 ok2).step s3 ok3).more hp0 n3 (by omega)
      exact ⟨xs', e1, e3, _, W3, m3, by simp only [List.length_append, List.length_singleton]; omega, ls ++ [i], by rw [ha, q3, List.map_append]; rfl, by rw [List.range_succ]; exact sb.append (.refl _)⟩
  · rintro H' ⟨acc, W', mm, hl2, ls, ha, sb⟩
    obtain ⟨ys, hH, ds⟩ := mm.h
    rw [Int.toNat_natCast] at sb
    exact k acc p ys W' H' (s1.trans ok1 mm.st) mm.ok (s1.free ok1 hp0) mm.n mm.i hH ds (by rw [ha]; exact q ls sb)
theorem sd_subR {y : Str} {py spos p1 pos1 : Pos} {n : Nat} (i0 : Nat) (hy : X.N[i0]? = some y) (hyl : X.env.scope.names.lookup y = some .local) (j : Nat) (hc : X.calm = true) (hN : X.N.Nodup) (hm : X.mg "range" = none) (ok : BlkOk X.N X.env.scope scope own) (hg : AllBlk X scope fun Y => PG Y (.Name x px) (gName j)) (hj : j ∈ own.map (·.2)) (hn : n ≤ 50000) (h : AD X B S [e] fun as => as = [.val (.int (n : Int))])
    (ht : ∀ i, i < n → AllBlk X scope fun Y => TD Y B (itE S own j (.int (i : Int))) c fun _ => True) (he : ∀ i, i < n → AllBlk X scope fun Y => ED Y B (itE S own j (.int (i : Int))) elt fun y => y = .int (i : Int)) (q : ∀ ls : List Nat, ls.Sublist (List.range n) → E.nx (S.set i0 (some (.own (ls.map fun (i : Nat) => D.int (i : Int))))))
    (hgl : Gl X "range" := by rfl) (hst : starEach [e] X.env = [(false, eval e X.env)] := by rfl) (hsw : swapsWith (.ListComp elt [⟨.Name x px, .Call (.Name "range" p1) [e] [] pos1, [c], 0⟩] scope pos) (some (.Name y py)) spos.line X.env = pure true := by exact sw_true rfl rfl rfl rfl) (hs : ∀ x, foldedSetIterable (.Call (.Name "range" p1) [e] [] pos1) X.env x = pure x := by intro _; rfl) : SD X B W0 S (.Assign [.Name y py] (.ListComp elt [⟨.Name x px, .Call (.Name "range" p1) [e] [] pos1, [c], 0⟩] scope pos) spos) E :=
  sd_ownLcI hc hN hy hyl (pi_range1 hgl hm wa_pa hst) ok hg (lc_RS j hn h hj ht he q) hsw hs
/-- list(a text) -/
theorem fd_listS {p : Pos} {Q : List D → Prop} (hm : X.mg "list" = none) (h : ED X B S e fun d => ∃ s : Str, d = .str s ∧ s.cps.size ≤ 50000 ∧ Q ((s.cps.toList.map sg).map D.str)) (hv : bootBuiltins "list" = some (.type "list") := by first | rfl | decide +kernel) (hg : Gl X "list" := by rfl)
    (he : starEach [e] X.env = (false, eval e X.env) :: starEach [] X.env := by rfl) (hpl : (backTo pos (starEach [] X.env)).any (·.1) = false := by rfl) (hc : X.calm = true := by rfl) : FD X B S (.Call (.Name "list" p) [e] [] pos) Q := fun σ W H r R k => by
  refine PE.w (pe_callTy (cr_listS hc) hg hm hv (pa_cons we_pe pa_nil he) (by decide) (by decide) he hpl) ?_
  refine h σ W H r _ fun d v W1 H1 s1 ok1 n1 q1 => ?_
  obtain ⟨s, rfl, hs, q1⟩ := q1
  cases n1
  refine ⟨s, rfl, hs, fun p hp => ?_⟩
  exact k _ p _ W1 _ (s1.trans ok1 (Stp.own hp)) (ok1.own hp) (s1.free ok1 hp) (ok1.notP hp) (ok1.free hp) upd_same (strs_dns _) q1
end
end DL

set_option Elab.async false
set_option linter.all false
set_option maxRecDepth 100000
set_option maxHeartbeats 2000000
/-! a loop over a list that is drawn where the loop begins -/
namespace DL
open PySem PySem.Spec PyProof.Rows L2
section
variable {X : Cx} {B : Hp} {W0 : Wd} {S : En} {pos : Pos} {E : Ends'}
theorem sd_forLG {tg iter : Expr} {body : List Stmt} (hp : PassesOwn (model X.prog X.w) X.A X.env X.xe) (hc : X.calm = true) (Inv : List D → Nat → En → Prop) (h : ED X B S iter fun d => ∃ l, d = .lst l ∧ Inv l 0 S)
    (hs : ∀ l (i : Nat) d S', l[i]? = some d → Inv l i S' → GD X B W0 S' tg d fun S2 => SDs X B W0 S2 body { nx := Inv l (i + 1), rt := E.rt, bk := E.nx, ct := Inv l (i + 1) })
    (hd : ∀ l S', Inv l l.length S' → E.nx S') (hf : ∀ x, foldedSetIterable iter X.env x = pure x := by intro _; rfl) : SD X B W0 S (.For tg iter body [] pos) E := fun σ W H r z D' k => by
  refine PS.w (ps_for hp hc (pi_list we_pe) wg_pg wss_pss hf) ?_
  refine h σ W H r _ fun d v W1 H1 s1 ok1 n1 q1 => ?_
  obtain ⟨l, rfl, i0⟩ := q1
  cases n1 with
  | @lst _ a xs ha m =>
    refine ⟨a, rfl, ⟨xs, SqL.of (ok1.ex _ _ ha)⟩, for_list (K := X.K) (a := a) (xs := xs) (fun i σ' H' => ∃ S' W', Rep X.K (gOf X) B S' σ' W' H' ∧ Stp W0 B W' H' ∧ Ex W1.I W'.I ∧ Inv l i S') ⟨S, W1, r.step s1 ok1, z.trans r.ok s1, Ex.refl _, i0⟩
      (fun i σ' H' _ ⟨S', W', r', _, e', _⟩ => SqL.of (r'.ok.ex _ _ (e' _ _ ha))) ?_ ?_⟩
    · rintro i x σ' H' hx ⟨S', W', r', z', e', i'⟩
      obtain ⟨d, hd', nd⟩ := m.get hx
      refine hs l i d S' hd' i' σ' W' H' x r' z' (nd.mono e') _ fun S2 σ2 W2 H2 r2 z2 e2 q2 => ?_
      exact q2 σ2 W2 H2 r2 z2 _ ⟨fun S3 σ3 W3 H3 r3 z3 e3 q3 => ⟨S3, W3, r3, z3, (e'.trans e2).trans e3, q3⟩, fun d3 v3 W3 H3 r3 z3 e3 n3 q3 => k.rt d3 v3 W3 H3 r3 z3 (((s1.I.trans e').trans e2).trans e3) n3 q3,
        fun S3 σ3 W3 H3 r3 z3 e3 q3 => k.nx S3 σ3 W3 H3 r3 z3 (((s1.I.trans e').trans e2).trans e3) q3, fun S3 σ3 W3 H3 r3 z3 e3 q3 => ⟨S3, W3, r3, z3, (e'.trans e2).trans e3, q3⟩⟩
    · rintro σ' H' ⟨S', W', r', z', e', i'⟩
      rw [← m.length] at i'
      exact k.nx S' σ' W' H' r' z' (s1.I.trans e') (hd l S' i')
end
end DL

set_option Elab.async false
set_option linter.all false
set_option maxRecDepth 100000
set_option maxHeartbeats 4000000
/-! for x, y, z in zip(a, b, c) -/
namespace Z3
open PySem PySem.Spec PyProof.Rows ZX
def ItAt : Bool → Addr → Addr → Nat → Heap → Prop
  | true => fun it l i h => h.IsTupleIter it l i
  | false => fun it l i h => h.IsListIter it l i
/-- how the zip stands ahead of turn i -/
structure St (t u v : Bool) (a b c z TI TO i1 i2 i3 : Addr) (i : Nat) (h : Heap) : Prop where
  z : IsZip h z TI TO .none
  ti : IsTupOf3 h TI (.ref i1) (.ref i2) (.ref i3)
  to : ∃ x y w, IsTupOf3 h TO x y w
  f : ItAt t i1 a i h
  g : ItAt u i2 b i h
  e : ItAt v i3 c i h
end Z3
namespace DL
open PySem PySem.Spec PyProof.Rows L2 ZX Z3
def Itm3 (K : PySem.W.Frag) (t u v : Bool) (a b c : Addr) : It where
  go := fun i H => ∃ (xs ys ws : List V) (x y w : V), SqB K t H a xs ∧ SqB K u H b ys ∧ SqB K v H c ws ∧ xs[i]? = some x ∧ ys[i]? = some y ∧ ws[i]? = some w
  yld := fun i H r H' => ∃ T x y w, r = .ref T ∧ H T = none ∧ H' = upd H T (.tup [x, y, w]) ∧ (∀ xs, SqB K t H a xs → xs[i]? = some x) ∧ (∀ ys, SqB K u H b ys → ys[i]? = some y) ∧ ∀ ws, SqB K v H c ws → ws[i]? = some w
  stop := fun i H => ∃ xs ys ws : List V, SqB K t H a xs ∧ SqB K u H b ys ∧ SqB K v H c ws ∧ i ≤ xs.length ∧ i ≤ ys.length ∧ i ≤ ws.length ∧ (i = xs.length ∨ i = ys.length ∨ i = ws.length)
def iZm3 (K : PySem.W.Frag) (ta : TA) : TI := fun σ H R => ta σ H fun vs H1 => ∃ t u v a b c xs ys ws, vs = [.ref a, .ref b, .ref c] ∧ SqB K t H1 a xs ∧ SqB K u H1 b ys ∧ SqB K v H1 c ws ∧ R (Itm3 K t u v a b c) H1
section
variable {X : Cx} {B : Hp} {W0 : Wd} {S : En} {pos p p1 : Pos} {e e2 e3 : Expr} {E : Ends'}
end
end DL

set_option Elab.async false
set_option linter.all false
set_option maxRecDepth 100000
set_option maxHeartbeats 4000000
/-! dict != dict, both the same, by an own == inside where there is one -/
namespace DL
open PySem PySem.Spec PyProof.Rows L2
section
variable {X : Cx} {n : Nat} {Q : D → Prop}
end
end DL

set_option Elab.async false
set_option linter.all false
set_option maxRecDepth 100000
set_option maxHeartbeats 4000000
/-! dict(d) of a dict with keys of ints: a copy, where no two keys hash alike -/
namespace DCP
open PySem PySem.Spec PyProof.Rows
section
variable {prog : Program} {w : World} {K : Type} [DecidableEq K] {knd : HeapKind prog w K} {A : Around} {E : Value → Shared → Prop} {s : Shared}
end
end DCP

namespace DL
open PySem PySem.Spec PyProof.Rows L2
abbrev hK (P : Program) (w : World) (k : List Key) : Int := (tupleKind (mixKind P w)).hash k
section
variable {X : Cx} {B : Hp} {S : En} {pos p : Pos} {e : Expr}
end
end DL

set_option Elab.async false
set_option linter.all false
set_option maxRecDepth 100000
set_option maxHeartbeats 4000000
/-! == and != whatever comes out, by an own == inside where there is one -/
namespace NB
open PySem PySem.SeqAt
open AutoSeq1 (wpAny_loadPart')
open MeetsSeq MeetsSeq2 MeetsSeq3 SeqRoads2
/-- k of them from i on -/
def upTo (vs : Nat → Bool) (i : Nat) : Nat → Bool
  | 0 => true
  | k + 1 => vs i && upTo vs (i + 1) k
section
variable {prog : Program} {w : World} {A : Around} {R : Result → Shared → Prop}
/-- two lists, read anew at each turn -/
def Both (prog : Program) (w : World) (A : Around) (E : Value → Shared → Prop) (l b : Addr) (n m : Nat) (vs : Nat → Bool) (Z : Shared → Prop) : Prop :=
  ∀ t, Z t → ∃ (xs ys : Array Value) (c d : Nat), t.heap.get? l = some { cls := .type "list", data := .seq xs c } ∧ t.heap.get? b = some { cls := .type "list", data := .seq ys d } ∧ xs.size = n ∧ ys.size = m ∧
    ∀ i (p : i < xs.size) (q : i < ys.size), wpAny (model prog w) A.in1 (eqBool xs[i] ys[i]) (fun r t' => r = vs i ∧ Z t') E t
end
section
variable {prog : Program} {w : World} {A : Around} {E : Value → Shared → Prop} {t : Shared} {l b : Addr} {n m : Nat} {vs : Nat → Bool} {Q : Value → Shared → Prop}
end
end NB

set_option Elab.async false
set_option linter.all false
set_option maxRecDepth 100000
set_option maxHeartbeats 4000000
/-! the same for tuples and dicts; judgements with a verdict -/
namespace NB
open PySem PySem.SeqAt
open AutoSeq1 (wpAny_loadPart')
open MeetsSeq MeetsSeq2 MeetsSeq3 SeqRoads2
section
variable {prog : Program} {w : World} {A : Around} {R : Result → Shared → Prop}
end
section
variable {prog : Program} {w : World} {A : Around} {E : Value → Shared → Prop} {t : Shared} {l b : Addr} {vs : Nat → Bool} {Q : Value → Shared → Prop}
end
end NB

set_option Elab.async false
set_option linter.all false
set_option maxRecDepth 100000
set_option maxHeartbeats 4000000
/-! == with a verdict, of data that hold own objects -/
namespace DL
open PySem PySem.Spec PyProof.Rows L2
def EqB (X : Cx) (n : Nat) (x y : D) (b : Bool) : Prop := ∀ (A : Around) (pins : List (Addr × Obj)) (t : Shared) (τ : L2.St) (W : Wd) (H : Hp) (v u : V) (v' u' : Value), L2.Sub X n A → A.guards = some (gOf X) → Inv X pins τ H t → Ok (gOf X) W H → Dn X.K W.I x v → Dn X.K W.I y u → RelV v v' → RelV u u' →
  wpAny (model X.prog X.w) A (eqBool v' u') (fun r t' => r = b ∧ Later X pins τ W H t') X.xe t
def RcB (X : Cx) (n : Nat) (x y : D) (b : Bool) : Prop := ∀ (A : Around) (pins : List (Addr × Obj)) (t : Shared) (τ : L2.St) (W : Wd) (H : Hp) (v u : V) (v' u' : Value), L2.Sub X n A → A.guards = some (gOf X) → Inv X pins τ H t → Ok (gOf X) W H → Dn X.K W.I x v → Dn X.K W.I y u → RelV v v' → RelV u u' →
  wpAny (model X.prog X.w) A (richCompare .Eq v' u') (fun r t' => r = .bool b ∧ Later X pins τ W H t') X.xe t
/-- no value is both -/
def Apart (K : PySem.W.Frag) (x y : D) : Prop := ∀ I v, Dn K I x v → Dn K I y v → False
section
variable {X : Cx} {n m : Nat} {x y : D} {b : Bool}
end
section
variable {X : Cx} {n : Nat} {x y : D} {b : Bool} {Q : D → Prop}
end
end DL

set_option Elab.async false
set_option linter.all false
set_option maxRecDepth 100000
set_option maxHeartbeats 4000000
/-! an object == a list, an object != a text; data apart -/
namespace DL
open PySem PySem.Spec PyProof.Rows L2
section
variable {X : Cx} {Q : D → Prop} {C : Addr} {k : Nat} {sp : SpD} {fs : List (Str × D)}
end
end DL

set_option Elab.async false
set_option linter.all false
set_option maxRecDepth 100000
set_option maxHeartbeats 4000000
/-! a, b, c = a list -/
namespace UL
open PySem PyProof.Rows
section
variable {prog : Program} {w : World} {A : Around} {E : Value → Shared → Prop}
end
end UL
namespace DL
open PySem L2
section
variable {X : Cx} {B : Hp} {W0 : Wd} {S : En} {pos : Pos} {Q : En → Prop}
end
end DL

set_option Elab.async false
set_option linter.all false
set_option maxRecDepth 100000
set_option maxHeartbeats 4000000
/-! two owned lists at once; what is popped of one goes to the other; len of an owned list; list(range(n)) -/
namespace DL
open PySem PySem.Spec PyProof.Rows L2
section
variable {X : Cx} {B : Hp} {W0 : Wd} {S : En} {pos px py p : Pos} {e a b : Expr} {x y : Str} {Q : D → Prop} {E : Ends'}
theorem ed_lenOwn (i : Nat) (l : List D) (hm : X.mg "len" = none) (hN : X.N[i]? = some x) (h : S[i]? = some (some (.own l))) (q : Q (.int (l.length : Int))) (hg : Gl X "len" := by rfl) (hv : Vis X.env.scope x := by first | exact Or.inl rfl | exact Or.inr (Or.inl rfl) | exact Or.inr (Or.inr rfl))
    (hd : (x == ("__debug__" : Str)) = false := by decide) (hcd : (x == ("__classdict__" : Str)) = false := by decide) (hbv : bootBuiltins "len" = some (.builtin "len") := by first | rfl | decide +kernel)
    (hps : X.mg "len" = none → PE X (.Call (.Name "len" p) [.Name x px] [] pos) (tCB (fun vs H Q => ∃ a xs, vs = [V.ref a] ∧ (SqL X.K H a xs ∨ SqT X.K H a xs) ∧ Q (.int (xs.length : Int)) H) (tCons (tVar i) tNil)) := by exact fun hm => pe_callB call_len_seq rfl hm (by first | rfl | decide +kernel) (pa_cons (pe_var (by rfl) (by first | exact Or.inl rfl | exact Or.inr (Or.inl rfl) | exact Or.inr (Or.inr rfl))) pa_nil)) : ED X B S (.Call (.Name "len" p) [.Name x px] [] pos) Q := fun σ W H r R k => by
  refine PE.w (hps hm) ?_
  obtain ⟨v, e1, p, xs, rfl, hB, n, hI, hH, d0⟩ := r.sl i _ h
  refine ⟨_, e1, p, xs, rfl, .inl (SqL.of hH), ?_⟩
  rw [← d0.length]
  exact k.now r.ok (.int _) q
theorem sd_parOwn {pt : Pos} {kt k2 pt2} (i j : Nat) (hij : i ≠ j) (h : FD X B S a fun l => FD X B S b fun m => E.nx ((S.set i (some (.own l))).set j (some (.own m))))
    (hps : PS X (.Assign [.Tuple [.Name x px, .Name y py] kt pt] (.Tuple [a, b] k2 pt2) pos) (tPar i j (tCons (WE X a) (tCons (WE X b) tNil)))) :
    SD X B W0 S (.Assign [.Tuple [.Name x px, .Name y py] kt pt] (.Tuple [a, b] k2 pt2) pos) E := fun σ W H r z D' k => by
  refine PS.w hps ?_
  refine h σ W H r _ fun l p xs W1 H1 s1 ok1 hp n i1 hl d q1 => ?_
  refine q1 σ W1 H1 (r.step s1 ok1) _ fun m p' ys W2 H2 s2 ok2 hp' n' i2 hl' d' q2 => ?_
  have ne : p ≠ p' := fun e => by rw [e, hp'] at hl; cases hl
  have r1 := r.step s1 ok1
  have r2 := r1.step s2 ok2
  have new1 : ∀ (j : Nat) (m : List D), S[j]? = some (some (.own m)) → σ[j]? ≠ some (some (.ref p)) := fun j m e1 e2 => by
    obtain ⟨v, e3, p2, zs, e4, _, _, _, h4, _⟩ := r.sl j _ e1
    rw [e2] at e3
    cases e3
    cases e4
    rw [hp] at h4
    cases h4
  have r3 := r2.setOwn (i := i) (z.free r.ok hp) (fun y => n (s2.oldP p _ hl y)) (s2.old p _ hl (fun _ y => by cases y) i1) (s2.keep p _ hl n) (d.mono s2.I) new1
  have new2 : ∀ (j' : Nat) (m : List D), (S.set i (some (.own l)))[j']? = some (some (.own m)) → (σ.set i (some (.ref p)))[j']? ≠ some (some (.ref p')) := fun j' m e1 e2 => by
    by_cases c : i = j'
    · subst c
      by_cases lt : i < σ.length
      · rw [List.getElem?_set_self lt] at e2
        cases e2
        exact ne rfl
      · rw [List.getElem?_eq_none (by rw [List.length_set]; omega)] at e2
        cases e2
    · rw [List.getElem?_set_ne c] at e1 e2
      obtain ⟨v, e3, p2, zs, e4, _, _, _, h4, _⟩ := r1.sl j' _ e1
      rw [e2] at e3
      cases e3
      cases e4
      rw [hp'] at h4
      cases h4
  have zz := z.trans r.ok s1
  exact ⟨.ref p, .ref p', rfl, k.nx _ _ W2 H2 (r3.setOwn (i := j) (zz.free ok1 hp') n' i2 hl' d' new2) (zz.trans ok1 s2) (s1.I.trans s2.I) q2⟩
/-- x.append(y.pop(e)) -/
theorem sd_appPop {ap ap2 cp cp2 : Pos} (i j : Nat) (l m : List D) (hij : i ≠ j) (hS : S[i]? = some (some (.own l))) (hT : S[j]? = some (some (.own m))) (hl : l.length < 50000) (he : ED X B S e fun d => ∃ (k : Nat) (a : D), d = .int (k : Int) ∧ m[k]? = some a ∧ m.length < 50000 ∧ E.nx ((S.set j (some (.own (m.eraseIdx k)))).set i (some (.own (l ++ [a])))))
    (hps : PE X (.Call (.Attribute (.Name x px) "append" ap) [.Call (.Attribute (.Name y py) "pop" ap2) [e] [] cp2] [] cp) (tBM X.K "list" rAppend (tVar i) (tCons (tBM X.K "list" rPopAt (tVar j) (tCons (WE X e) tNil)) tNil)))
    (hs : swapsWith (.Call (.Attribute (.Name x px) "append" ap) [.Call (.Attribute (.Name y py) "pop" ap2) [e] [] cp2] [] cp) none pos.line X.env = pure false) : SD X B W0 S (.Expr (.Call (.Attribute (.Name x px) "append" ap) [.Call (.Attribute (.Name y py) "pop" ap2) [e] [] cp2] [] cp) pos) E := fun σ W H r z D' k => by
  refine PS.w (ps_expr hps hs) ?_
  obtain ⟨v, e1, p, xs, ev, hB, n, hI, hH, d0⟩ := r.sl i _ hS
  subst ev
  obtain ⟨v', e1', p', ys, ev', hB', n', hI', hH', d0'⟩ := r.sl j _ hT
  subst ev'
  have ne : p ≠ p' := fun q => r.dist i j l m p hij hS hT e1 (by rw [q]; exact e1')
  refine ⟨_, e1, .inl ⟨rfl, _, SqL.of hH⟩, ?_⟩
  refine ⟨_, e1', .inl ⟨rfl, _, SqL.of hH'⟩, ?_⟩
  refine he σ W H r _ fun d v W1 H1 s1 ok1 n1 q1 => ?_
  obtain ⟨k1, a, rfl, hk, hm, q1⟩ := q1
  cases n1
  have hH1 : H1 p = some (.lst xs) := s1.keep _ _ hH n
  have nP : ¬ W1.P p := fun q => n (s1.oldP p _ hH q)
  have hI1 : W1.I p = none := s1.old p _ hH (fun _ z => by cases z) hI
  have hH1' : H1 p' = some (.lst ys) := s1.keep _ _ hH' n'
  have nP' : ¬ W1.P p' := fun q => n' (s1.oldP p' _ hH' q)
  have hI1' : W1.I p' = none := s1.old p' _ hH' (fun _ z => by cases z) hI'
  have d1 := d0.mono s1.I
  have d1' := d0'.mono s1.I
  obtain ⟨u, hu, na⟩ := d1'.get' hk
  have hkx : k1 < ys.length := (List.getElem?_eq_some_iff.mp hu).1
  have ly := d0'.length
  refine ⟨p', ys, k1, k1, u, rfl, rfl, hH1', by omega, by omega, (ixN_seq (ixN_lt hkx)).1, hu, ?_⟩
  have de : Dns X.K W1.I (m.eraseIdx k1) (ys.eraseIdx k1) := by
    rw [List.eraseIdx_eq_take_drop_succ, List.eraseIdx_eq_take_drop_succ]
    exact (dns_take k1 d1').append (dns_drop (k1 + 1) d1')
  have r2 := (r.step s1 ok1).putOwn hT e1' hB' nP' hI1' hH1' de
  have hH2 : upd H1 p' (.lst (ys.eraseIdx k1)) p = some (.lst xs) := by rw [upd_ne ne]; exact hH1
  refine ⟨p, xs, u, rfl, rfl, hH2, Nat.lt_of_lt_of_le (d0.length ▸ hl) (by decide), ?_⟩
  have r3 := r2.putOwn (i := i) (l := l) (by rw [List.getElem?_set_ne (Ne.symm hij)]; exact hS) e1 hB nP hI1 hH2 (d1.append (.cons na .nil))
  exact k.nx _ σ W1 _ r3 (stp_upd (stp_upd (z.trans r.ok s1) hB') hB) s1.I q1
end
end DL

set_option Elab.async false
set_option linter.all false
set_option maxRecDepth 100000
set_option maxHeartbeats 8000000
/-! k21: keys of counts, all of them, some of them -/
namespace K21
open PySem L2 DL
def allc : Nat → Nat → List (List Int)
  | 0, _ => []
  | 1, d => [[(d : Int)]]
  | m + 2, d => (List.range (d + 1)).flatMap fun f => (allc (m + 1) (d - f)).map fun l => (f : Int) :: l
/-- the sizes that are drawn -/
def dom (m d : Nat) : Bool := (decide (m = 1) && decide (d ≤ 8)) || (decide (m = 2) && decide (d ≤ 6)) || (decide (m = 3) && decide (d ≤ 4)) || (decide (m = 4) && decide (d ≤ 3))
theorem dom_le {m d : Nat} (h : dom m d = true) : 1 ≤ m ∧ m ≤ 4 ∧ d ≤ 8 := by
  unfold dom at h
  simp only [Bool.or_eq_true, Bool.and_eq_true, decide_eq_true_eq] at h
  omega
theorem dom_pred {m d e : Nat} (h : dom (m + 2) d = true) (k : e ≤ d) : dom (m + 1) e = true := by
  unfold dom at h ⊢
  simp only [Bool.or_eq_true, Bool.and_eq_true, decide_eq_true_eq] at h ⊢
  omega
/-- keys of m counts that make d, rising -/
structure Pk (m d : Nat) (ps : List (List Int)) : Prop where
  len : ∀ k ∈ ps, k.length = m
  nn : ∀ k ∈ ps, ∀ c ∈ k, (0 : Int) ≤ c
  sum : ∀ k ∈ ps, k.sum = (d : Int)
  so : ps.Pairwise fun a b => TS.code 9 a < TS.code 9 b
theorem Pk.sub {m d : Nat} {ps qs : List (List Int)} (h : Pk m d ps) (s : qs.Sublist ps) : Pk m d qs :=
  ⟨fun k hk => h.len k (s.subset hk), fun k hk => h.nn k (s.subset hk), fun k hk => h.sum k (s.subset hk), h.so.sublist s⟩
theorem Pk.nd {m d : Nat} {ps : List (List Int)} (h : Pk m d ps) : ps.Nodup := h.so.imp fun l e => by rw [e] at l; exact Int.lt_irrefl _ l
instance (m d : Nat) (ps : List (List Int)) : Decidable (Pk m d ps) :=
  decidable_of_iff ((∀ k ∈ ps, k.length = m) ∧ (∀ k ∈ ps, ∀ c ∈ k, (0 : Int) ≤ c) ∧ (∀ k ∈ ps, k.sum = (d : Int)) ∧ ps.Pairwise fun a b => TS.code 9 a < TS.code 9 b) ⟨fun ⟨a, b, c, d⟩ => ⟨a, b, c, d⟩, fun ⟨a, b, c, d⟩ => ⟨a, b, c, d⟩⟩
theorem allc_facts : ∀ m, m ≤ 4 → ∀ d, d ≤ 8 → dom m d = true → Pk m d (allc m d) ∧ (allc m d).length ≤ 20 ∧ (∀ e, e < d → (allc m e).length * m < 64) := by decide +kernel
theorem allc_pk {m d : Nat} (h : dom m d = true) : Pk m d (allc m d) := (allc_facts m (dom_le h).2.1 d (dom_le h).2.2 h).1
theorem allc_len {m d : Nat} (h : dom m d = true) : (allc m d).length ≤ 20 := (allc_facts m (dom_le h).2.1 d (dom_le h).2.2 h).2.1
theorem allc_few {m d e : Nat} (h : dom m d = true) (k : e < d) : (allc m e).length * m < 64 := (allc_facts m (dom_le h).2.1 d (dom_le h).2.2 h).2.2 e k
theorem mem_allc : ∀ (m d : Nat) (k : List Int), k.length = m + 1 → (∀ c ∈ k, (0 : Int) ≤ c) → k.sum = (d : Int) → k ∈ allc (m + 1) d
  | 0, d, k, hl, hn, hs => by
    match k, hl with
    | [c], _ =>
      have : c = (d : Int) := by simpa using hs
      rw [this]
      exact List.mem_singleton.mpr rfl
  | m + 1, d, k, hl, hn, hs => by
    match k, hl with
    | c :: k, hl =>
      have hl' : k.length = m + 1 := Nat.succ.inj hl
      have hn' : ∀ x ∈ k, (0 : Int) ≤ x := fun x hx => hn x (List.mem_cons_of_mem _ hx)
      have c0 := hn c (List.mem_cons_self ..)
      have s0 := (le_sum hn').1
      rw [List.sum_cons] at hs
      refine List.mem_flatMap.mpr ⟨c.toNat, List.mem_range.mpr (by omega), List.mem_map.mpr ⟨k, mem_allc m (d - c.toNat) k hl' hn' (by omega), ?_⟩⟩
      rw [Int.toNat_of_nonneg c0]
theorem subset_len {α : Type} [DecidableEq α] : ∀ {l m : List α}, l.Nodup → (∀ x ∈ l, x ∈ m) → l.length ≤ m.length
  | [], _, _, _ => Nat.zero_le _
  | x :: l, m, nd, h => by
    rw [List.nodup_cons] at nd
    have hx := h x (List.mem_cons_self ..)
    have := subset_len (l := l) (m := m.erase x) nd.2 fun y hy => (List.mem_erase_of_ne fun e => nd.1 (by rw [← e]; exact hy)).mpr (h y (List.mem_cons_of_mem _ hy))
    rw [List.length_erase_of_mem hx] at this
    have := List.length_pos_of_mem hx
    rw [List.length_cons]
    omega
theorem Pk.few {m d : Nat} {ps : List (List Int)} (h : Pk m d ps) (m1 : 1 ≤ m) : ps.length ≤ (allc m d).length := by
  obtain ⟨m, rfl⟩ : ∃ j, m = j + 1 := ⟨m - 1, by omega⟩
  exact subset_len h.nd fun k hk => mem_allc m d k (h.len k hk) (h.nn k hk) (h.sum k hk)
/-- one more at a place -/
def inc (a : Nat) (k : List Int) : List Int := k.set a (k.getD a 0 + 1)
theorem inc_parts {a : Nat} {k : List Int} (h : a < k.length) : (k.map D.int).take a ++ [D.int (k.getD a 0 + 1)] ++ (k.map D.int).drop (a + 1) = (inc a k).map D.int := by
  unfold inc
  rw [List.set_eq_take_append_cons_drop, if_pos h, List.map_append, List.map_cons, List.map_take, List.map_drop]
  simp
theorem inc_nn {a : Nat} {k : List Int} (h : ∀ c ∈ k, (0 : Int) ≤ c) : ∀ c ∈ inc a k, (0 : Int) ≤ c := fun c hc => by
  rcases List.mem_or_eq_of_mem_set hc with z | z
  · exact h c z
  · rw [z]
    have : 0 ≤ k.getD a 0 := by
      rw [List.getD_eq_getElem?_getD]
      cases e : k[a]? with
      | none => exact Int.le_refl _
      | some x => exact h x (List.mem_of_getElem? e)
    omega
/-- what is sorted out of what was made rises -/
theorem pk_of {m d : Nat} {ms ls : List (List Int)} (hd : d ≤ 8) (h1 : ∀ k ∈ ms, k.length = m) (h2 : ∀ k ∈ ms, ∀ c ∈ k, (0 : Int) ≤ c) (h3 : ∀ k ∈ ms, k.sum = (d : Int)) (mem : ∀ l, l ∈ ls ↔ l ∈ ms) (nd : ls.Nodup) (pw : ls.Pairwise fun a b => TS.code 9 a ≤ TS.code 9 b) : Pk m d ls := by
  have bd : ∀ k ∈ ls, TS.Bd 9 k := fun k hk c hc => by
    have n := h2 k ((mem k).mp hk)
    have := (le_sum n).2 c hc
    rw [h3 k ((mem k).mp hk)] at this
    have := n c hc
    omega
  refine ⟨fun k hk => h1 k ((mem k).mp hk), fun k hk => h2 k ((mem k).mp hk), fun k hk => h3 k ((mem k).mp hk), ?_⟩
  refine (pw.and nd).imp_of_mem fun {a b} ha hb q => ?_
  refine Int.lt_iff_le_and_ne.mpr ⟨q.1, fun e => q.2 (code_inj (B := 9) (by rw [h1 a ((mem a).mp ha), h1 b ((mem b).mp hb)]) (bd a ha) (bd b hb) e)⟩
section
variable {X : Cx} {Q : D → Prop}
theorem shaped_is (l : List Int) : SeqAt.shaped (.list (l.map .int)) = true := by
  unfold SeqAt.shaped
  rw [Bool.and_eq_true, decide_eq_true_eq]
  refine ⟨can_ints l, ?_⟩
  show PyData.depthAll _ + 1 ≤ 64
  rw [PySem.W.depth_ints]
  decide
theorem od_neNilI {l : List Int} (hu : X.A.units + 64 < cLine) (q : Q (.bl (!l.isEmpty))) : OD X (compareOp .NotEq) (.lst (l.map D.int)) (.lst []) Q := by
  refine od_ned hu (.lst (pyd_ints l)) (.lst .nil) (shaped_is l) (by decide) ?_
  cases l <;> exact q
end
theorem un64 {X : Cx} {k : Nat} (hr : Room k X.A) : X.A.units + 64 < cLine := by
  have := hr.units
  omega
section
variable {P : Program} {w : World} {K : PySem.W.Frag} {mg : Str → Option Value} {base : Heap} {C CB : Addr}
/-! mixed -/
theorem er_perm {b : List D} {d : Nat} (h : d < b.length) : ([b[d]] ++ b.eraseIdx d).Perm b := by
  rw [List.eraseIdx_eq_take_drop_succ]
  have e : b = b.take d ++ b[d] :: b.drop (d + 1) := by
    rw [List.getElem_cons_drop, List.take_append_drop]
  have p : (b[d] :: (b.take d ++ b.drop (d + 1))).Perm (b.take d ++ b[d] :: b.drop (d + 1)) := List.perm_middle.symm
  rw [← e] at p
  exact p
/-- a list, or a text, as a list -/
def asL : D → List D
  | .lst l => l
  | .str s => (s.cps.toList.map sg).map D.str
  | _ => []
abbrev spMix : SpD := fun as Q => ∃ d : D, as = [.pot, .val d] ∧ ((∃ l, d = .lst l) ∨ ∃ s, d = .str s) ∧ (asL d).length ≤ 1000 ∧ ∀ l' : List D, l'.Perm (asL d) → Q (.lst l')
abbrev NMi : List Str := ["_law_pot_here", "_law_some", "_law_left", "_law_found", "_law_turn"]
theorem sc_mix : FnScope NMi ["_law_pot_here", "_law_some"] (defScope (top 46)) := ⟨rfl, rfl, rfl, by decide +kernel, rfl, by decide +kernel, by decide +kernel⟩
theorem ok_mix {f : Addr} {fd : FuncData} (F : FunS K "_law_mixed" "_law_mixed" (top 46) f fd) (T : Txt K mg C) (G : Df P w K mg base "_law_draw" 1 2 spDraw) : GnOk P w K mg base 2 f fd ["_law_pot_here", "_law_some"] (lift K spMix) := by
  refine gn_dl F sc_mix (fun as Q h => by obtain ⟨n, rfl, _⟩ := h; rfl) (fun cdv A outer s H hr hG W as Q h => ?_)
  obtain ⟨d, rfl, hd, hl, q⟩ := h
  have nd := sc_mix.nd
  have rest : ∀ E : Ends', E.rt = Q → SDs (Bx P w K mg base NMi "_law_mixed" (top 46) f cdv A outer s H) H W [some .pot, some (.val d), some (.own (asL d)), some (.own []), none] ((defBody (top 46)).drop 1) E := by
    rintro E rfl
    have len : ∀ {Q' : D → Prop}, Q' (.int ((asL d).length : Int)) → CD (Bx P w K mg base NMi "_law_mixed" (top 46) f cdv A outer s H) (.builtin "len") [.val d] Q' := fun {Q'} q' => by
      rcases hd with ⟨l, rfl⟩ | ⟨s', rfl⟩
      · exact cd_len (.inl rfl) q'
      · have e : (asL (.str s')).length = s'.length := by
          show ((s'.cps.toList.map sg).map D.str).length = s'.cps.size
          simp
        refine cd_lenS (z := s') (by omega) ?_
        rw [← e]
        exact q'
    refine sds_cons (sd_forR (n := ((asL d).length : Int)) PassesOwn.never rfl T.range (fun i S' => ∃ o, ∃ a b : List D, (a ++ b).Perm (asL d) ∧ b.length + i = (asL d).length ∧ S' = [some .pot, some (.val d), some (.own b), some (.own a), o]) (ad_cons (ed_callB T.len (ad_cons (nm 1 (ad_nil (len (ad_nil ⟨rfl, by omega, by omega, none, [], asL d, .refl _, by omega, rfl⟩))))))) ?_ ?_)
    · rintro i S' hi ⟨o, a, b, p, hb, rfl⟩
      have al := p.length_eq
      rw [List.length_append] at al
      refine gd_name 4 nd rfl (sds_cons (sd_appPop 3 2 a b (by decide) rfl rfl (by omega) (ed_call G (hr.mono (j := 1) (by decide)) hG (ad_pot 0 rfl rfl (ad_cons (ed_lenOwn 2 b T.len rfl rfl (ad_nil ⟨(b.length : Int), rfl, by omega, by omega, fun d hd => ?_⟩))))) (pe_bm PySem.F.plainAttrs_list PySem.F.slot_list_append PySem.F.type_list_append mt_append (pe_var (by rfl) (Or.inl rfl)) (pa_cons (pe_bm PySem.F.plainAttrs_list PySem.F.slot_list_pop PySem.F.type_list_pop mt_popAt (pe_var (by rfl) (Or.inl rfl)) (pa_cons DL.we_pe pa_nil)) pa_nil)) (by rfl)))
      have hd' : d < b.length := by omega
      refine ⟨d, b[d], rfl, List.getElem?_eq_getElem hd', by omega, sds_nil ⟨some (.val (.int (i : Int))), a ++ [b[d]], b.eraseIdx d, ?_, ?_, rfl⟩⟩
      · refine List.Perm.trans ?_ p
        rw [List.append_assoc]
        exact List.Perm.append_left a (er_perm hd')
      · rw [List.length_eraseIdx_of_lt hd']
        omega
    · rintro S' ⟨o, a, b, p, hb, rfl⟩
      rw [Int.toNat_natCast] at hb
      have : b = [] := List.eq_nil_of_length_eq_zero (by omega)
      subst this
      refine sds_frz 3 _ rfl ?_
      exact sds_cons (sd_ret (nm 3 (q a (by simpa using p))))
  refine sds_cons (sd_parOwn 2 3 (by decide) ?_ (ps_par rfl nd rfl rfl (by decide) rfl rfl (pa_cons we_pe (pa_cons we_pe pa_nil)) (by rfl)))
  rcases hd with ⟨l, rfl⟩ | ⟨s', rfl⟩
  · exact fd_list T.list (nm 1 ⟨l, .inl rfl, fd_lst (ad_nil ⟨[], rfl, by simp, rest _ rfl⟩)⟩)
  · exact fd_listS T.list (nm 1 ⟨s', rfl, by have : (asL (.str s')).length = s'.cps.size := (by show ((s'.cps.toList.map sg).map D.str).length = s'.cps.size; simp); omega, fd_lst (ad_nil ⟨[], rfl, by simp, rest _ rfl⟩)⟩)
/-! all counts -/
abbrev spAc (m : Nat) : SpD := fun as Q => ∃ d : Nat, as = [.val (.int (m : Int)), .val (.int (d : Int))] ∧ dom m d = true ∧ Q (.lst ((allc m d).map tI))
abbrev NAc : List Str := ["_law_many", "_law_degree", "_law_found", "_law_first", "_law_rest"]
theorem sc_ac : FnScope NAc ["_law_many", "_law_degree"] (defScope (top 48)) := ⟨rfl, rfl, rfl, by decide +kernel, rfl, by decide +kernel, by decide +kernel⟩
theorem ok_ac {f : Addr} {fd : FuncData} (m : Nat) (F : FunS K "_law_counts" "_law_counts" (top 48) f fd) (T : Txt K mg C) (DT : ∀ j, m = j + 1 → Df P w K mg base "_law_counts" (j + 1) 2 (spAc j)) : GnOk P w K mg base (m + 1) f fd ["_law_many", "_law_degree"] (lift K (spAc m)) := by
  refine gn_dl F sc_ac (fun as Q h => by obtain ⟨_, rfl, _⟩ := h; rfl) (fun cdv A outer s H hr hG W as Q h => ?_)
  obtain ⟨d, rfl, hm, q⟩ := h
  have nd := sc_ac.nd
  obtain ⟨m1, m4, d8⟩ := dom_le hm
  refine sds_cons (sd_if (td_cmp (nm 0 (ed_int (od_eqi (kB ?_))))))
  match m, hm, m1, m4, hr, DT, q with
  | 1, _, _, _, hr, _, q =>
    show SDs _ _ _ _ _ _
    exact sds_cons (sd_ret (ed_lst (ad_cons (ed_tup (ad_cons (nm 1 (ad_nil ⟨[.int (d : Int)], rfl, by simp, ad_nil ⟨[.tup [.int (d : Int)]], rfl, by simp, q⟩⟩)))))))
  | m + 2, hm, _, m4, hr, DT, q =>
    rw [decide_eq_false (by omega)]
    show SDs _ _ _ _ _ _
    refine sds_nil (sds_cons (sd_own 2 nd rfl (fd_lst (ad_nil ⟨[], rfl, by simp, ?_⟩))))
    refine sds_cons (sd_forR (n := ((d + 1 : Nat) : Int)) PassesOwn.never rfl T.range (fun i S' => ∃ o, S' = [some (.val (.int ((m + 2 : Nat) : Int))), some (.val (.int (d : Int))), some (.own ((((List.range i).flatMap fun f => (allc (m + 1) (d - f)).map fun l => (f : Int) :: l)).map tI)), o, none]) (ad_cons (ed_bin (nm 1 (ed_int (od_add (ad_nil ⟨by rw [Int.natCast_add]; rfl, by omega, by omega, none, rfl⟩)))))) ?_ ?_)
    · rintro i S' hi ⟨o, rfl⟩
      have il : i ≤ d := by omega
      have hm' := dom_pred hm (Nat.sub_le d i)
      have l20 := allc_len hm'
      have cap : ∀ j, j ≤ d + 1 → (((List.range j).flatMap fun f => (allc (m + 1) (d - f)).map fun l => (f : Int) :: l)).length ≤ 20 * j := by
        intro j
        induction j with
        | zero => intro _; simp
        | succ j ih =>
          intro hj
          rw [List.range_succ, List.flatMap_append, List.length_append]
          have := ih (by omega)
          have := allc_len (dom_pred hm (Nat.sub_le d j))
          simp only [List.flatMap_cons, List.flatMap_nil, List.append_nil, List.length_map]
          omega
      have ci := cap i (by omega)
      refine gd_name 3 nd rfl (sds_cons (sd_extend 2 _ rfl rfl (fd_mp (f := tI) (u := fun l => tI ((i : Int) :: l)) (l := allc (m + 1) (d - i)) 4 rfl nd (own := [("_law_rest", 4)]) (blkOk_by (by show blkC NAc (defScope (top 48)) _ _ = true; decide +kernel)) (fun _ _ _ _ _ => pg_name (i := 4) nd rfl (Or.inl rfl)) (by simp) (by omega) (.inl rfl) ?_ ?_ ?_)))
      · refine ed_call (DT (m + 1) rfl) hr hG (ad_cons (ed_bin (nm 0 (ed_int (od_sub (ad_cons (ed_bin (nm 1 (nm 3 (od_sub (ad_nil ⟨d - i, ?_, hm', rfl⟩)))))))))))
        have e1 : ((m + 2 : Nat) : Int) - 1 = ((m + 1 : Nat) : Int) := by omega
        have e2 : (d : Int) - (i : Int) = ((d - i : Nat) : Int) := by omega
        rw [e1, e2]
      · intro l hl s2 H0 C2 cl fp
        refine ed_bin (ed_tup (ad_cons (nm 3 (ad_nil ⟨[.int (i : Int)], rfl, by simp, nm 4 (od_catT (l := [.int (i : Int)]) (m := l.map D.int) ?_ rfl)⟩))))
        have := (allc_pk hm').len l hl
        rw [List.length_map, List.length_singleton]
        omega
      · refine ⟨by rw [List.length_map, List.length_map]; omega, sds_nil ⟨some (.val (.int (i : Int))), ?_⟩⟩
        rw [List.range_succ, List.flatMap_append, List.map_append]
        simp only [List.flatMap_cons, List.flatMap_nil, List.append_nil, List.map_map]
        rfl
    · rintro S' ⟨o, rfl⟩
      rw [Int.toNat_natCast]
      refine sds_frz 2 _ rfl ?_
      exact sds_cons (sd_ret (nm 2 q))
end
end K21

set_option Elab.async false
set_option linter.all false
set_option maxRecDepth 100000
set_option maxHeartbeats 8000000
/-! a tuple times an int of at least 1 -/
namespace DL
open PySem PySem.Spec PyProof.Rows L2
theorem tuple_mul1 (l : Addr) (items : Array Value) (n : Nat) (dd : Option Addr) (sl : Array (Option Value)) (u : Tok) :
    Meets (Builtin.«tuple.__mul__» ⟨[.ref l, .int 1 u], []⟩) (fun _ R s => s.heap.get? l = some { cls := .type "tuple", dict := dd, data := .seq items n, slots := sl } ∧ R (.ok (.ret (Value.ref l))) s) :=
  .of_wp fun prog w A R s h => by
    obtain ⟨hp, g, d, tk, os⟩ := s
    obtain ⟨hl, h⟩ := h
    have f1 := AutoSeq1.idx_int
    have c0 : (decide ((1 : Int) < -(2 ^ 63)) || decide ((1 : Int) ≥ 2 ^ 63)) = false := by decide
    have c1 : (items.isEmpty || (1 : Int) == 1) = true := by
      have : ((1 : Int) == 1) = true := rfl
      rw [this, Bool.or_true]
    wp_walk using wpAny_loadPart' hl
    repeat (first
      | (refine wpAny_ite_false (decide_eq_false (by rw [c0]; exact Bool.false_ne_true)) ?_; wp_walk using wpAny_loadPart' hl)
      | (refine wpAny_ite_true (decide_eq_true c1) ?_; wp_walk using wpAny_loadPart' hl))
    exact ⟨_, rfl, h⟩
section
variable {X : Cx}
theorem op_repT1 : OpR X (binaryOp .Mult) (fun x y H Q => ∃ l xs, x = .ref l ∧ y = .int 1 ∧ SqT X.K H l xs ∧ Q (.ref l) H) := by
  intro pins s σ H x y v u Q I rx ry h
  obtain ⟨l, xs, rfl, rfl, hT, q⟩ := h
  cases rx
  obtain ⟨t, rfl⟩ := ry
  obtain ⟨its, r, ⟨⟨cls, dd, data, sl⟩, ho, hc, n, hd⟩, hs⟩ := I.tuple hT
  simp only at hc hd
  subst hc hd
  exact wpAny_binaryOp_repeat_ref (T := "tuple") (U := "int") (by decide) ⟨_, ho, rfl⟩ (fun s' => typeIs_int s' 1 t) noFill_tuple_mul F.fills_int_mul F.slot_int_rmul repeat_tuple F.slot_int_index.lookup
    (call_meets F.slot_int_rmul (typeIs_int s 1 t) F.entry_int_rmul (F.args_int_rmul_2 _ _) (int_rmul_tuple 1 t l its.toArray n dd sl)
      ⟨ho, rfl, ⟨_, ho, rfl⟩, call_meets F.slot_tuple_mul ⟨_, ho, rfl⟩ F.entry_tuple_mul (F.args_tuple_mul_2 _ _) (tuple_mul1 l its.toArray n dd sl t) ⟨ho, .ref l, H, I, rfl, q⟩⟩)
variable {Q : D → Prop}
theorem od_repTup {l : List D} {k : Nat} (h1 : 1 ≤ k) (hk : k ≤ 1000) (hl : l.length ≤ 1000) (hne : l ≠ []) (q : Q (.tup (List.replicate k l).flatten)) : OD X (binaryOp .Mult) (.tup l) (.int (k : Int)) Q := by
  by_cases e : k = 1
  · subst e
    refine od_of op_repT1 fun v u W H ok a b R c => ?_
    cases b
    cases a with
    | @tup _ a xs hp m =>
      have : (List.replicate 1 l).flatten = l := by simp
      rw [this] at q
      exact ⟨a, xs, rfl, rfl, SqT.of (ok.ex _ _ hp), c.now ok (.tup hp m) q⟩
  · refine od_of op_repT fun v u W H ok a b R c => ?_
    cases b
    cases a with
    | @tup _ a xs hp m =>
      refine ⟨a, (k : Int), xs, rfl, rfl, SqT.of (ok.ex _ _ hp), fun e => hne ?_, by omega, by omega, by rw [← m.length]; exact hl, fun p hn => ?_⟩
      · subst e
        cases m
        rfl
      · rw [Int.toNat_natCast]
        have st := Stp.new (o := .tup (List.replicate k xs).flatten) ok hn
        exact c (.tup (List.replicate k l).flatten) (.ref p) _ _ st (ok.new hn) (.tup (show upd W.I p _ p = _ from upd_same) ((m.rep k).mono st.I)) q
end
end DL

set_option Elab.async false
set_option linter.all false
set_option maxRecDepth 100000
set_option maxHeartbeats 8000000
/-! sorted(set(a list of ints)) -/
namespace DL
open PySem PySem.Spec PyProof.Rows L2
section
variable {P : Program} {w : World} {A : Around} {E : Value → Shared → Prop} {s : Shared}
abbrev emptySet (w : World) : Obj := { cls := .type "set", dict := none, data := .set #[] 0 (.fresh 0 0 (!w.params.followText "set-order")) }
theorem hval_of {items : Array Value} {ns : List Int} (hit : IntsAre items.toList ns) : ∀ (i : Nat) (v : Value), items[i]? = some v → ∃ k t, ns[i]? = some k ∧ v = .int k t := fun i v hv => by
  have hl : items.size = ns.length := by have q := IntsAre.length hit; rwa [Array.length_toList] at q
  have hi : i < ns.length := by rw [← hl]; exact (Array.getElem?_eq_some_iff.mp hv).1
  obtain ⟨t, e⟩ := PyProof.Rows.IntsAre.int_at hit i v (by rw [Array.getElem?_toList]; exact hv)
  exact ⟨ns[i], t, List.getElem?_eq_getElem hi, by rw [e, List.getD_eq_getElem?_getD, List.getElem?_eq_getElem hi] <;> rfl⟩
theorem set_listI {l : Addr} {items : Array Value} (ns : List Int) {Q : Value → Shared → Prop} (hh : A.handled = none) (hl : s.heap.IsList l items) (hit : IntsAre items.toList ns) (hb : ns.length + 1 < scanBound)
    (h : ∀ (h' : Heap) (tk c : Nat), SetR w h' s.heap.objs.size (fun j => decide (j ∈ ns)) c → c ≤ ns.length → (∀ b o, s.heap.get? b = some o → h'.get? b = some o) → Q (.ref s.heap.objs.size) { s with heap := h', toks := tk }) :
    wpAny (model P w) A (call (.type "set") [.ref l]) Q E s := by
  have hn : items.size = ns.length := by have q := IntsAre.length hit; rwa [Array.length_toList] at q
  obtain ⟨c, tl, hmro⟩ := F.called_set.mro
  have hmade := F.called_set.made
  have hsub := F.called_set.sub
  refine wpAny_call (codeAny_of_tree ?_)
  show wpAny _ _ (callAny (.type "set") _) _ _ _
  refine wpAny_pure ⟨Code.quiet_builtin _ (by decide +kernel), codeAny_builtin F.entry_type_call ?_⟩
  rw [Around.under_plain (weight_type_call_type "set" [.ref l] []) rfl]
  have h1 := F.called_set.notType
  have h2 := F.called_set.canCreate
  have hct := F.typeCall_set_1 (.ref l)
  repeat (any_goals (first | assumption | wp_step))
  refine codeAny_mono (code_set_led1 (.ref l) (E := E) (Q₁ := fun obj z => obj = .ref s.heap.objs.size ∧ z = { s with heap := s.heap.push (emptySet w) }) ⟨rfl, rfl⟩) fun r z hr => ?_
  cases r with
  | error e => exact hr
  | ok fl =>
    cases fl with
    | ret obj =>
      obtain ⟨rfl, rfl⟩ := hr
      have hS : (s.heap.push (emptySet w)).get? s.heap.objs.size = some (emptySet w) := Heap.get?_push_size _ rfl
      have hT : Shared.TypeIs { s with heap := s.heap.push (emptySet w) } (.ref s.heap.objs.size) "set" := ⟨_, hS, rfl⟩
      have hli := F.called_set.init.lookup
      have hbi := F.called_set.init.bind (.ref s.heap.objs.size)
      repeat (any_goals (first | assumption | wp_step))
      refine codeAny_mono (codeAny_call_builtin (R := wants (fun r y => r = .none ∧ ∃ h' tk c, y = { s with heap := h', toks := tk } ∧ SetR w h' s.heap.objs.size (fun j => decide (j ∈ ns)) c ∧ c ≤ ns.length ∧ (∀ b o, s.heap.get? b = some o → h'.get? b = some o)) E) F.called_set.init.plain F.entry_set_init (check_set_init_1 hT ?_)) fun r y hy => ?_
      · obtain ⟨⟨ocls, odict, odata, oslots⟩, hol, hcl, nl, hdl⟩ := hl
        simp only at hcl hdl
        subst hcl; subst hdl
        have hol' : (s.heap.push (emptySet w)).get? l = some { cls := .type "list", dict := odict, data := .seq items nl, slots := oslots } := Heap.get?_push_of_some _ hol
        have hsls := F.sub_list_set
        have hslf := F.sub_list_frozenset
        have hne : (Value.type "list" == Value.type "dict") = false := by decide
        have hl1 : (s.heap.push (emptySet w)).IsList l items := ⟨_, hol', rfl, nl, rfl⟩
        unfold Builtin.«set.__init__» noKeywords Builtin.Frozenset.updateFrom
        generalize hPI : pyIter = PI
        wp_walk
        subst hPI
        refine wpAny_pyIter_list hl1 ?_
        refine wpAny_bind (wpAny_runValue ?_)
        have hlS : l < s.heap.objs.size := Heap.lt_size hol
        have hh3 : A.in1.in1.in1.handled = none := by simp [hh]
        have hz : (s.heap.push (emptySet w)).objs.size = s.heap.objs.size + 1 := Heap.size_push ..
        refine set_update_ints ((Walks.list hh3 _ l (by rw [hz]; exact Nat.ne_of_lt (Nat.lt_succ_of_lt hlS)) items).toS) s.heap.objs.size
          (by
            rw [hz]
            simp only [List.mem_cons, List.not_mem_nil, or_false, not_or]
            exact ⟨Nat.ne_of_lt (Nat.lt_succ_self _), Nat.ne_of_gt hlS⟩) ns hn hb (hval_of hit) (items.size - 0) 0 _ (by omega) (Nat.zero_le _)
          ⟨⟨_, Heap.get?_push_size _ rfl, rfl, rfl⟩, (hl1.push _)⟩ ⟨0, Nat.le_refl 0, setR_new_at (Heap.get?_push_of_some _ hS)⟩ ?_
        intro x c' hm hc' hS'
        obtain ⟨h', g2, d', tk', os'⟩ := x
        obtain rfl : g2 = s.gens := hm.gens
        obtain rfl : d' = s.drawn := hm.drawn
        obtain rfl : os' = s.os := hm.os
        show wpAny _ _ _ _ _ _
        refine wpAny_pure ?_
        show wpAny _ _ (ret Value.none) _ _ _
        rw [hn] at hc'
        refine wpAny_pure ⟨rfl, h', tk', c', rfl, hS', hc', fun b o e => ?_⟩
        have lt : b < s.heap.objs.size := Heap.lt_size e
        exact hm.heap b o (by
          rw [hz]
          simp only [List.mem_cons, List.not_mem_nil, or_false, not_or]
          exact ⟨Nat.ne_of_lt lt, Nat.ne_of_lt (Nat.lt_succ_of_lt lt)⟩) (Heap.get?_push_of_some _ (Heap.get?_push_of_some _ e))
      · cases r with
        | error e => exact hy
        | ok fl =>
          cases fl with
          | ret r =>
            obtain ⟨rfl, h', tk, c', rfl, hS', hc', hk'⟩ := hy
            repeat (any_goals (first | assumption | wp_step))
            exact h _ _ _ hS' hc' hk'
          | _ => exact hy.elim
    | _ => exact hr.elim
end
section
variable {X : Cx}
/-- set(a list of ints) -/
def rSetOfI (K : PySem.W.Frag) (w : World) : List V → Hp → VK → Prop := fun xs H Q => ∃ (l : Addr) (ns : List Int), xs = [V.ref l] ∧ SqL K H l (ns.map V.int) ∧ ns.length < 64 ∧ ∀ a c, H a = none → c ≤ ns.length → Q (.ref a) (upd H a (SetO w a (fun j => decide (j ∈ ns)) c))
theorem cr_setOfI (hc : X.calm = true) : CallR X (.type "set") (rSetOfI X.K X.w) := by
  intro pins s σ H xs us Q I r h
  obtain ⟨l, ns, rfl, hl, hf, q⟩ := h
  rw [Vals.ref1 r]
  obtain ⟨its, rv, pl, hz⟩ := I.list hl
  have hn : H s.heap.objs.size = none := I.hok.fresh (Nat.le_refl _)
  refine set_listI (P := X.prog) (w := X.w) ns (I.ok.hd hc) pl.isList (by simpa using rv.ints) (by unfold scanBound; omega) fun h' tk c R hc' k => ?_
  exact ⟨.ref s.heap.objs.size, upd H s.heap.objs.size (SetO X.w s.heap.objs.size (fun j => decide (j ∈ ns)) c), I.laid (t' := tk) k (Nat.le_refl _) (setO_new R), rfl, q _ c hn hc'⟩
variable {B : Hp} {W0 : Wd} {S : En} {p p2 pos pos2 : Pos} {e : Expr} {Q : D → Prop}
theorem dns_ints {K : PySem.W.Frag} {I : Hp} : ∀ l : List Int, Dns K I (l.map D.int) (l.map V.int)
  | [] => .nil
  | i :: l => .cons (.int i) (dns_ints l)
theorem ed_sortSetI {ns : List Int} (hm : X.mg "sorted" = none) (hm2 : X.mg "set" = none) (h64 : ns.length < 64) (h : ED X B S e fun y => y = .lst (ns.map D.int))
    (q : ∀ ls : List Int, (∀ k, k ∈ ls ↔ k ∈ ns) → ls.Pairwise (· < ·) → Q (.lst (ls.map D.int)))
    (hps : X.mg "sorted" = none → X.mg "set" = none → PE X (.Call (.Name "sorted" p) [.Call (.Name "set" p2) [e] [] pos2] [] pos) (tCB (rSortedSet X.w) (tCons (tCB (rSetOfI X.K X.w) (tCons (WE X e) tNil)) tNil)) := by
      exact fun hm hm2 => pe_callB (cr_sortedSet rfl) rfl hm (by first | rfl | decide +kernel) (pa_cons (pe_callTy (cr_setOfI rfl) rfl hm2 (by first | rfl | decide +kernel) (pa_cons DL.we_pe pa_nil)) pa_nil)) : ED X B S (.Call (.Name "sorted" p) [.Call (.Name "set" p2) [e] [] pos2] [] pos) Q := fun σ W H r R k => by
  refine PE.w (hps hm hm2) ?_
  refine h σ W H r _ fun y v W1 H1 s1 ok1 n1 q1 => ?_
  subst q1
  cases n1 with
  | @lst _ a xs hp m =>
    rw [Dns.ints m] at hp
    refine ⟨a, ns, rfl, SqL.of (ok1.ex _ _ hp), h64, fun b c hb hc => ?_⟩
    have s2 := Stp.own (W := W1) (o := SetO X.w b (fun j => decide (j ∈ ns)) c) hb
    have ok2 := ok1.own (o := SetO X.w b (fun j => decide (j ∈ ns)) c) hb
    refine ⟨b, _, c, rfl, upd_same, by omega, fun ls q1 pw mem hl hq => ?_⟩
    have s3 := Stp.new (o := .lst (ls.map V.int)) ok2 hq
    exact k _ _ _ _ ((s1.trans ok1 s2).trans ok2 s3) (ok2.new hq) (.lst (show upd W1.I q1 _ q1 = _ from upd_same) (dns_ints ls)) (q ls (fun k => by rw [mem k, decide_eq_true_eq]) pw)
end
end DL

set_option Elab.async false
set_option linter.all false
/-! lots that hang together, by joining: from nothing, and from those that stand each for itself -/
namespace M21
def Asc (l : List Nat) : Prop := l.Pairwise (· < ·)
theorem Asc.nd {l : List Nat} (h : Asc l) : l.Nodup := h.imp fun h e => by omega
theorem asc_ext {a b : List Nat} (ha : Asc a) (hb : Asc b) (h : ∀ x, x ∈ a ↔ x ∈ b) : a = b :=
  List.Perm.eq_of_pairwise (le := (· < ·)) (fun x y _ _ h1 h2 => by omega) ha hb ((List.perm_ext_iff_of_nodup ha.nd hb.nd).mpr h)
def meets (P l : List Nat) : Bool := l.any fun a => decide (a ∈ P)
theorem meets_iff {P l : List Nat} : meets P l = true ↔ ∃ a, a ∈ l ∧ a ∈ P := by simp [meets]
def near (L : List (List Nat)) (P : List Nat) : List (List Nat) := L.filter fun l => meets P l
def far (L : List (List Nat)) (P : List Nat) : List (List Nat) := L.filter fun l => !meets P l
def ss (m : Nat) (X : List Nat) : List Nat := (List.range m).filter fun a => decide (a ∈ X)
theorem mem_ss {m a : Nat} {X : List Nat} : a ∈ ss m X ↔ a < m ∧ a ∈ X := by simp [ss]
theorem asc_ss (m : Nat) (X : List Nat) : Asc (ss m X) := List.pairwise_lt_range.sublist List.filter_sublist
def stepL (m : Nat) (L : List (List Nat)) (P : List Nat) : List (List Nat) := far L P ++ if P = [] then [] else [ss m (P ++ (near L P).flatten)]
def stepT (m : Nat) (T : List (List Nat)) (P : List Nat) : List (List Nat) := if (near T P).length ≤ 1 then T else far T P ++ [ss m (near T P).flatten]
structure Gd (m : Nat) (L : List (List Nat)) : Prop where
  asc : ∀ l ∈ L, Asc l
  ne : ∀ l ∈ L, l ≠ []
  lt : ∀ l ∈ L, ∀ a ∈ l, a < m
  dj : L.Pairwise fun a b => ∀ x, x ∈ a → x ∉ b
theorem uniq_of {L : List (List Nat)} (h : L.Pairwise fun a b => ∀ x, x ∈ a → x ∉ b) {l k : List Nat} (hl : l ∈ L) (hk : k ∈ L) {x : Nat} (h1 : x ∈ l) (h2 : x ∈ k) : l = k := by
  induction L with
  | nil => cases hl
  | cons y L ih =>
    obtain ⟨p, q⟩ := List.pairwise_cons.mp h
    rcases List.mem_cons.mp hl with e1 | hl
    · rcases List.mem_cons.mp hk with e2 | hk
      · rw [e1, e2]
      · rw [e1] at h1
        exact absurd h2 (p k hk x h1)
    · rcases List.mem_cons.mp hk with e2 | hk
      · rw [e2] at h2
        exact absurd h1 (p l hl x h2)
      · exact ih q hl hk
theorem Gd.uniq {m : Nat} {L : List (List Nat)} (h : Gd m L) {l k : List Nat} (hl : l ∈ L) (hk : k ∈ L) {x : Nat} (h1 : x ∈ l) (h2 : x ∈ k) : l = k := uniq_of h.dj hl hk h1 h2
theorem Gd.nodup {m : Nat} {L : List (List Nat)} (h : Gd m L) : L.Nodup := by
  refine h.dj.imp_of_mem fun {a b} ha hb r e => ?_
  subst e
  obtain ⟨x, hx⟩ := List.exists_mem_of_ne_nil _ (h.ne _ ha)
  exact r x hx hx
theorem mem_near {L : List (List Nat)} {P l : List Nat} : l ∈ near L P ↔ l ∈ L ∧ meets P l = true := by simp [near]
theorem mem_far {L : List (List Nat)} {P l : List Nat} : l ∈ far L P ↔ l ∈ L ∧ meets P l = false := by simp [far]
theorem Gd.join {m : Nat} {L : List (List Nat)} (h : Gd m L) (P X : List Nat) (hX : ∃ a ∈ X, a < m) (hf : ∀ l ∈ far L P, ∀ x ∈ l, x ∉ X) : Gd m (far L P ++ [ss m X]) := by
  have sub : ∀ {l}, l ∈ far L P → l ∈ L := fun hl => (mem_far.mp hl).1
  have cs : ∀ {p : List Nat → Prop}, (∀ l ∈ L, p l) → p (ss m X) → ∀ l ∈ far L P ++ [ss m X], p l := by
    intro p h1 h2 l hl
    rcases List.mem_append.mp hl with hl | hl
    · exact h1 l (sub hl)
    · rw [List.mem_singleton.mp hl]
      exact h2
  refine ⟨cs h.asc (asc_ss m X), cs h.ne ?_, cs h.lt (fun a ha => (mem_ss.mp ha).1), ?_⟩
  · obtain ⟨a, ha, am⟩ := hX
    exact List.ne_nil_of_mem (mem_ss.mpr ⟨am, ha⟩)
  · refine List.pairwise_append.mpr ⟨h.dj.sublist List.filter_sublist, List.pairwise_singleton _ _, fun a ha b hb x hx hy => ?_⟩
    rw [List.mem_singleton.mp hb] at hy
    exact hf a ha x hx (mem_ss.mp hy).2
theorem meets_nil (l : List Nat) : meets [] l = false := by
  cases h : meets [] l
  · rfl
  · obtain ⟨a, _, h2⟩ := meets_iff.mp h
    cases h2
theorem near_nil (L : List (List Nat)) : near L [] = [] := by
  unfold near
  rw [List.filter_eq_nil_iff]
  intro l _
  rw [meets_nil]
  exact Bool.false_ne_true
theorem far_nil (L : List (List Nat)) : far L [] = L := by
  unfold far
  rw [List.filter_eq_self]
  intro l _
  rw [meets_nil]
  rfl
theorem mem_near_flat {L : List (List Nat)} {P : List Nat} {a : Nat} : a ∈ (near L P).flatten ↔ ∃ l ∈ L, meets P l = true ∧ a ∈ l := by
  rw [List.mem_flatten]
  constructor
  · rintro ⟨l, hl, ha⟩
    obtain ⟨h1, h2⟩ := mem_near.mp hl
    exact ⟨l, h1, h2, ha⟩
  · rintro ⟨l, h1, h2, ha⟩
    exact ⟨l, mem_near.mpr ⟨h1, h2⟩, ha⟩
/-- of all that stands: by joining, and each for itself where it was never met -/
structure Inv (m : Nat) (st : Nat → Prop) (T L : List (List Nat)) : Prop where
  gt : Gd m T
  gl : Gd m L
  mem : ∀ l, l ∈ T ↔ l ∈ L ∨ ∃ a, st a ∧ l = [a] ∧ ∀ k ∈ L, a ∉ k
theorem Gd.stepL {m : Nat} {L : List (List Nat)} (h : Gd m L) {P : List Nat} (hP : ∀ a ∈ P, a < m) : Gd m (stepL m L P) := by
  unfold M21.stepL
  by_cases hne : P = []
  · subst hne
    rw [if_pos rfl, List.append_nil, far_nil]
    exact h
  · rw [if_neg hne]
    obtain ⟨a, ha⟩ := List.exists_mem_of_ne_nil P hne
    refine h.join P _ ⟨a, List.mem_append_left _ ha, hP a ha⟩ fun l hl x hx hX => ?_
    obtain ⟨l1, l2⟩ := mem_far.mp hl
    have no : ¬ meets P l = true := by rw [l2]; exact Bool.false_ne_true
    rcases List.mem_append.mp hX with hX | hX
    · exact no (meets_iff.mpr ⟨x, hx, hX⟩)
    · obtain ⟨k, k1, k2, k3⟩ := mem_near_flat.mp hX
      rw [h.uniq l1 k1 hx k3] at no
      exact no k2
theorem Inv.step {m : Nat} {st : Nat → Prop} {T L : List (List Nat)} (h : Inv m st T L) {P : List Nat} (hP : ∀ a ∈ P, a < m ∧ st a) : Inv m st (stepT m T P) (stepL m L P) := by
  have gl := h.gl.stepL (P := P) fun a ha => (hP a ha).1
  by_cases hne : P = []
  · subst hne
    have e1 : stepT m T [] = T := by unfold stepT; rw [near_nil]; rfl
    have e2 : stepL m L [] = L := by unfold stepL; rw [far_nil, if_pos rfl, List.append_nil]
    rw [e1, e2]
    exact h
  · -- what is met
    have hold : ∀ a ∈ P, ∃ l ∈ T, a ∈ l := fun a ha => by
      by_cases q : ∃ k ∈ L, a ∈ k
      · obtain ⟨k, k1, k2⟩ := q
        exact ⟨k, (h.mem k).mpr (.inl k1), k2⟩
      · exact ⟨[a], (h.mem _).mpr (.inr ⟨a, (hP a ha).2, rfl, fun k k1 k2 => q ⟨k, k1, k2⟩⟩), List.mem_singleton.mpr rfl⟩
    obtain ⟨a0, ha0⟩ := List.exists_mem_of_ne_nil P hne
    have J : ss m (near T P).flatten = ss m (P ++ (near L P).flatten) := by
      refine asc_ext (asc_ss ..) (asc_ss ..) fun a => ?_
      rw [mem_ss, mem_ss, List.mem_append, mem_near_flat, mem_near_flat]
      constructor
      · rintro ⟨am, l, l1, l2, l3⟩
        refine ⟨am, ?_⟩
        rcases (h.mem l).mp l1 with q | ⟨b, _, rfl, _⟩
        · exact .inr ⟨l, q, l2, l3⟩
        · obtain ⟨c, c1, c2⟩ := meets_iff.mp l2
          rw [List.mem_singleton] at c1 l3
          subst c1 l3
          exact .inl c2
      · rintro ⟨am, q | ⟨k, k1, k2, k3⟩⟩
        · obtain ⟨l, l1, l2⟩ := hold a q
          exact ⟨am, l, l1, meets_iff.mpr ⟨a, l2, q⟩, l2⟩
        · exact ⟨am, k, (h.mem k).mpr (.inl k1), k2, k3⟩
    have fT : ∀ l ∈ far T P, ∀ x ∈ l, x ∉ (near T P).flatten := fun l hl x hx hX => by
      obtain ⟨l1, l2⟩ := mem_far.mp hl
      obtain ⟨k, k1, k2, k3⟩ := mem_near_flat.mp hX
      rw [h.gt.uniq l1 k1 hx k3, k2] at l2
      cases l2
    have memT : Gd m (stepT m T P) ∧ ∀ l, l ∈ stepT m T P ↔ (l ∈ T ∧ meets P l = false) ∨ l = ss m (near T P).flatten := by
      unfold stepT
      obtain ⟨l0, l1, l2⟩ := hold a0 ha0
      have ln : l0 ∈ near T P := mem_near.mpr ⟨l1, meets_iff.mpr ⟨a0, l2, ha0⟩⟩
      by_cases le : (near T P).length ≤ 1
      · rw [if_pos le]
        refine ⟨h.gt, fun l => ?_⟩
        have e : near T P = [l0] := by
          match hq : near T P, le, ln with
          | [y], _, ln => rw [List.mem_singleton.mp ln]
        have e2 : ss m (near T P).flatten = l0 := by
          rw [e]
          refine asc_ext (asc_ss ..) (h.gt.asc l0 l1) fun a => ?_
          rw [mem_ss]
          simp only [List.flatten_cons, List.flatten_nil, List.append_nil]
          exact ⟨fun q => q.2, fun q => ⟨h.gt.lt l0 l1 a q, q⟩⟩
        rw [e2]
        constructor
        · intro hl
          cases hm : meets P l
          · exact .inl ⟨hl, rfl⟩
          · have : l ∈ near T P := mem_near.mpr ⟨hl, hm⟩
            rw [e] at this
            exact .inr (List.mem_singleton.mp this)
        · rintro (q | rfl)
          · exact q.1
          · exact l1
      · rw [if_neg le]
        refine ⟨h.gt.join P _ ⟨a0, mem_near_flat.mpr ⟨l0, l1, meets_iff.mpr ⟨a0, l2, ha0⟩, l2⟩, (hP a0 ha0).1⟩ fT, fun l => ?_⟩
        rw [List.mem_append, List.mem_singleton, mem_far]
    refine ⟨memT.1, gl, fun l => ?_⟩
    rw [memT.2 l, J]
    have memL : ∀ k, k ∈ stepL m L P ↔ (k ∈ L ∧ meets P k = false) ∨ k = ss m (P ++ (near L P).flatten) := fun k => by
      unfold stepL
      rw [if_neg hne, List.mem_append, List.mem_singleton, mem_far]
    constructor
    · rintro (⟨l1, l2⟩ | q)
      · rcases (h.mem l).mp l1 with q | ⟨a, sa, rfl, na⟩
        · exact .inl ((memL l).mpr (.inl ⟨q, l2⟩))
        · refine .inr ⟨a, sa, rfl, fun k hk => ?_⟩
          rcases (memL k).mp hk with ⟨k1, _⟩ | rfl
          · exact na k k1
          · intro hs
            rcases List.mem_append.mp (mem_ss.mp hs).2 with q | q
            · have : meets P [a] = true := meets_iff.mpr ⟨a, List.mem_singleton.mpr rfl, q⟩
              rw [this] at l2
              cases l2
            · obtain ⟨k, k1, _, k3⟩ := mem_near_flat.mp q
              exact na k k1 k3
      · exact .inl ((memL l).mpr (.inr q))
    · rintro (q | ⟨a, sa, rfl, na⟩)
      · rcases (memL l).mp q with ⟨q1, q2⟩ | q
        · exact .inl ⟨(h.mem l).mpr (.inl q1), q2⟩
        · exact .inr q
      · have nP : a ∉ P := fun ha => na _ ((memL _).mpr (.inr rfl)) (mem_ss.mpr ⟨(hP a ha).1, List.mem_append_left _ ha⟩)
        have m0 : meets P [a] = false := by
          cases hm : meets P [a]
          · rfl
          · obtain ⟨c, c1, c2⟩ := meets_iff.mp hm
            rw [List.mem_singleton] at c1
            subst c1
            exact absurd c2 nP
        refine .inl ⟨(h.mem _).mpr (.inr ⟨a, sa, rfl, fun k k1 k2 => ?_⟩), m0⟩
        cases hm : meets P k
        · exact na k ((memL k).mpr (.inl ⟨k1, hm⟩)) k2
        · exact na _ ((memL _).mpr (.inr rfl)) (mem_ss.mpr ⟨h.gl.lt k k1 a k2, List.mem_append_right _ (mem_near_flat.mpr ⟨k, k1, hm, k2⟩)⟩)
def allL (m : Nat) (Ps : List (List Nat)) : List (List Nat) := Ps.foldl (stepL m) []
def allT (m : Nat) (T : List (List Nat)) (Ps : List (List Nat)) : List (List Nat) := Ps.foldl (stepT m) T
theorem Gd.nil (m : Nat) : Gd m [] := ⟨(by simp), (by simp), (by simp), .nil⟩
theorem allL_gd {m : Nat} : ∀ (Ps : List (List Nat)) {L : List (List Nat)}, Gd m L → (∀ P ∈ Ps, ∀ a ∈ P, a < m) → Gd m (Ps.foldl (stepL m) L)
  | [], _, h, _ => h
  | P :: Ps, _, h, hP => allL_gd Ps (h.stepL (hP P (List.mem_cons_self ..))) fun Q hQ => hP Q (List.mem_cons_of_mem _ hQ)
/-- a product's letters stay together -/
theorem cov_step {m : Nat} {L : List (List Nat)} (h : Gd m L) {P R : List Nat} (hc : ∃ k ∈ L, ∀ a ∈ R, a ∈ k) (hP : ∀ a ∈ P, a < m) : ∃ k ∈ stepL m L P, ∀ a ∈ R, a ∈ k := by
  obtain ⟨k, k1, k2⟩ := hc
  unfold stepL
  cases hm : meets P k
  · exact ⟨k, List.mem_append_left _ (mem_far.mpr ⟨k1, hm⟩), k2⟩
  · have hne : P ≠ [] := fun e => by rw [e, meets_nil] at hm; cases hm
    rw [if_neg hne]
    exact ⟨_, List.mem_append_right _ (List.mem_singleton.mpr rfl), fun a ha => mem_ss.mpr ⟨h.lt k k1 a (k2 a ha), List.mem_append_right _ (mem_near_flat.mpr ⟨k, k1, hm, k2 a ha⟩)⟩⟩
theorem cov_new {m : Nat} {L : List (List Nat)} {P : List Nat} (hne : P ≠ []) (hP : ∀ a ∈ P, a < m) : ∃ k ∈ stepL m L P, ∀ a ∈ P, a ∈ k := by
  unfold stepL
  rw [if_neg hne]
  exact ⟨_, List.mem_append_right _ (List.mem_singleton.mpr rfl), fun a ha => mem_ss.mpr ⟨hP a ha, List.mem_append_left _ ha⟩⟩
theorem cov_keep {m : Nat} {R : List Nat} : ∀ (Ps : List (List Nat)) {L : List (List Nat)}, Gd m L → (∀ P ∈ Ps, ∀ a ∈ P, a < m) → (∃ k ∈ L, ∀ a ∈ R, a ∈ k) → ∃ k ∈ Ps.foldl (stepL m) L, ∀ a ∈ R, a ∈ k
  | [], _, _, _, h => h
  | P :: Ps, _, g, hP, h => cov_keep Ps (g.stepL (hP P (List.mem_cons_self ..))) (fun Q hQ => hP Q (List.mem_cons_of_mem _ hQ)) (cov_step g h (hP P (List.mem_cons_self ..)))
theorem cov_all {m : Nat} {R : List Nat} (hR : R ≠ []) : ∀ (Ps : List (List Nat)) {L : List (List Nat)}, Gd m L → (∀ P ∈ Ps, ∀ a ∈ P, a < m) → R ∈ Ps → ∃ k ∈ Ps.foldl (stepL m) L, ∀ a ∈ R, a ∈ k
  | P :: Ps, L, g, hP, h => by
    have p0 := hP P (List.mem_cons_self ..)
    have pr : ∀ Q ∈ Ps, ∀ a ∈ Q, a < m := fun Q hQ => hP Q (List.mem_cons_of_mem _ hQ)
    rcases List.mem_cons.mp h with rfl | h
    · exact cov_keep Ps (g.stepL p0) pr (cov_new hR p0)
    · exact cov_all hR Ps (g.stepL p0) pr h
theorem inv_all {m : Nat} {st : Nat → Prop} : ∀ (Ps : List (List Nat)) {T L : List (List Nat)}, Inv m st T L → (∀ P ∈ Ps, ∀ a ∈ P, a < m ∧ st a) → Inv m st (Ps.foldl (stepT m) T) (Ps.foldl (stepL m) L)
  | [], _, _, h, _ => h
  | P :: Ps, _, _, h, hP => inv_all Ps (h.step (hP P (List.mem_cons_self ..))) fun Q hQ => hP Q (List.mem_cons_of_mem _ hQ)
/-- those that stand, each for itself -/
def singles (m : Nat) (Ps : List (List Nat)) : List (List Nat) := ((List.range m).filter fun a => Ps.any fun P => decide (a ∈ P)).map fun a => [a]
theorem inv0 {m : Nat} (Ps : List (List Nat)) : Inv m (fun a => a < m ∧ ∃ P ∈ Ps, a ∈ P) (singles m Ps) [] := by
  have st : ∀ a, (a < m ∧ ∃ P ∈ Ps, a ∈ P) ↔ a ∈ (List.range m).filter fun a => Ps.any fun P => decide (a ∈ P) := fun a => by simp
  refine ⟨⟨?_, ?_, ?_, ?_⟩, .nil m, fun l => ?_⟩
  · intro l hl
    obtain ⟨a, _, rfl⟩ := List.mem_map.mp hl
    exact List.pairwise_singleton _ _
  · intro l hl
    obtain ⟨a, _, rfl⟩ := List.mem_map.mp hl
    exact List.cons_ne_nil _ _
  · intro l hl x hx
    obtain ⟨a, ha, rfl⟩ := List.mem_map.mp hl
    rw [List.mem_singleton.mp hx]
    exact ((st a).mpr ha).1
  · refine List.pairwise_map.mpr (List.Pairwise.imp ?_ (List.pairwise_lt_range.sublist List.filter_sublist))
    intro a b ab x hx hy
    rw [List.mem_singleton] at hx hy
    omega
  · unfold singles
    rw [List.mem_map]
    constructor
    · rintro ⟨a, ha, rfl⟩
      exact .inr ⟨a, (st a).mpr ha, rfl, (by simp)⟩
    · rintro (h | ⟨a, ha, rfl, _⟩)
      · cases h
      · exact ⟨a, (st a).mp ha, rfl⟩
theorem same_lots {m : Nat} {Ps : List (List Nat)} (hP : ∀ P ∈ Ps, ∀ a ∈ P, a < m) : Gd m (allL m Ps) ∧ (allT m (singles m Ps) Ps).Perm (allL m Ps) := by
  have i1 := inv_all Ps (inv0 Ps) fun P hp a ha => ⟨hP P hp a ha, hP P hp a ha, P, hp, ha⟩
  refine ⟨i1.gl, (List.perm_ext_iff_of_nodup i1.gt.nodup i1.gl.nodup).mpr fun l => ?_⟩
  refine (i1.mem l).trans ?_
  refine ⟨fun q => q.elim id ?_, .inl⟩
  rintro ⟨a, ⟨_, P, hp, ha⟩, rfl, na⟩
  obtain ⟨k, k1, k2⟩ := cov_all (R := P) (List.ne_nil_of_mem ha) Ps (.nil m) hP hp
  exact absurd (k2 a ha) (na k k1)
theorem gd_upto {m : Nat} {Ps : List (List Nat)} (hP : ∀ P ∈ Ps, ∀ a ∈ P, a < m) (i : Nat) : Gd m (allT m (singles m Ps) (Ps.take i)) :=
  (inv_all (Ps.take i) (inv0 Ps) fun P hp a ha => ⟨hP P (List.mem_of_mem_take hp) a ha, hP P (List.mem_of_mem_take hp) a ha, P, List.mem_of_mem_take hp, ha⟩).gt
theorem allT_succ {m : Nat} {T : List (List Nat)} {Ps : List (List Nat)} {i : Nat} {P : List Nat} (h : Ps[i]? = some P) : allT m T (Ps.take (i + 1)) = stepT m (allT m T (Ps.take i)) P := by
  unfold allT
  rw [List.take_add_one, h, List.foldl_append]
  rfl
def hd (l : List Nat) : Nat := l.headD 0
/-- lots by their first ones -/
def byHd (L : List (List Nat)) : List (List Nat) := L.mergeSort fun a b => decide (hd a ≤ hd b)
theorem hd_mem {l : List Nat} (h : l ≠ []) : hd l ∈ l := by
  cases l with
  | nil => exact absurd rfl h
  | cons a l => exact List.mem_cons_self ..
theorem Gd.by_hd {m : Nat} {L A : List (List Nat)} (g : Gd m L) (p : A.Perm L) (h : A.Pairwise fun a b => hd a ≤ hd b) : A = byHd L := by
  have q : (byHd L).Pairwise fun a b => hd a ≤ hd b := by
    have := List.pairwise_mergeSort (le := fun a b : List Nat => decide (hd a ≤ hd b)) (fun a b c h1 h2 => by simp at *; omega) (fun a b => by simp; omega) L
    exact this.imp fun h => by simpa using h
  refine List.Perm.eq_of_pairwise (fun a b ha hb h1 h2 => ?_) h q (p.trans (List.mergeSort_perm _ _).symm)
  have ha' := p.mem_iff.mp ha
  have hb' := (List.mergeSort_perm _ _).mem_iff.mp hb
  have e : hd a = hd b := Nat.le_antisymm h1 h2
  refine g.uniq ha' hb' (hd_mem (g.ne a ha')) ?_
  rw [e]
  exact hd_mem (g.ne b hb')
/-- the first letter's lot is the product's lot -/
theorem first_in {m : Nat} {Ps : List (List Nat)} (hP : ∀ P ∈ Ps, ∀ a ∈ P, a < m) {P l : List Nat} (hp : P ∈ Ps) (hne : P ≠ []) (hl : l ∈ allL m Ps) : meets P l = true ↔ hd P ∈ l := by
  obtain ⟨k, k1, k2⟩ := cov_all hne Ps (.nil m) hP hp
  have g : Gd m (allL m Ps) := allL_gd Ps (.nil m) hP
  have h1 := k2 (hd P) (hd_mem hne)
  constructor
  · intro h
    obtain ⟨a, a1, a2⟩ := meets_iff.mp h
    rw [g.uniq hl k1 a1 (k2 a a2)]
    exact h1
  · intro h
    exact meets_iff.mpr ⟨hd P, h, hd_mem hne⟩
theorem stepT_few {m : Nat} {T : List (List Nat)} (h : T.length ≤ 1) (P : List Nat) : stepT m T P = T := by
  unfold stepT
  rw [if_pos]
  exact Nat.le_trans (List.length_filter_le _ _) h
end M21

set_option Elab.async false
set_option linter.all false
set_option maxRecDepth 100000
set_option maxHeartbeats 8000000
/-! k21: letters, forms, products, amounts, blends drawn -/
namespace K21
open PySem L2 DL
theorem perm_map_inv {α β : Type} {f : α → β} : ∀ {l : List β} {cs : List α}, l.Perm (cs.map f) → ∃ cs' : List α, l = cs'.map f ∧ cs'.Perm cs
  | [], cs, h => by
    have := h.symm.eq_nil
    cases cs with
    | nil => exact ⟨[], rfl, .nil⟩
    | cons a cs => cases this
  | b :: l, cs, h => by
    obtain ⟨a, ha, rfl⟩ := List.mem_map.mp (h.mem_iff.mp (List.mem_cons_self ..))
    obtain ⟨s, t, rfl⟩ := List.append_of_mem ha
    rw [List.map_append, List.map_cons] at h
    have h2 := (h.trans List.perm_middle).cons_inv
    rw [← List.map_append] at h2
    obtain ⟨cs', e, p⟩ := perm_map_inv h2
    exact ⟨a :: cs', by rw [e]; rfl, (p.cons a).trans List.perm_middle.symm⟩
theorem join_sg (l : List Nat) : Txt.join ("" : Str) (l.map sg) = SX.S l := by
  cases l with
  | nil => rfl
  | cons x l =>
    have e : (Txt.join ("" : Str) ((x :: l).map sg)).cps.toList = (sg x).cps.toList ++ (l.map sg).flatMap fun p => p.cps.toList := glue_fold (l.map sg) (sg x).cps
    have e2 : ∀ l : List Nat, ((l.map sg).flatMap fun p => p.cps.toList) = l := fun l => by
      induction l with
      | nil => rfl
      | cons y l ih => rw [List.map_cons, List.flatMap_cons, ih]; rfl
    rw [e2] at e
    have e3 : (Txt.join ("" : Str) ((x :: l).map sg)).cps = (x :: l).toArray := by
      rw [← Array.toArray_toList (xs := (Txt.join ("" : Str) ((x :: l).map sg)).cps), e]
      rfl
    show (⟨(Txt.join ("" : Str) ((x :: l).map sg)).cps⟩ : Str) = _
    rw [e3]
def hdS (s : Str) : Nat := s.cps.toList.headD 0
theorem ltCps_hd {a b : Str} (ha : a.cps.toList ≠ []) (hb : b.cps.toList ≠ []) (h : PySem.Spec.ltCps b.cps.toList a.cps.toList = false) : hdS a ≤ hdS b := by
  unfold hdS
  match e1 : a.cps.toList, e2 : b.cps.toList, ha, hb with
  | c :: _, d :: _, _, _ =>
    rw [e1, e2] at h
    have h : (decide (d < c) || (d == c && _)) = false := h
    rw [Bool.or_eq_false_iff, decide_eq_false_iff_not] at h
    show c ≤ d
    omega
theorem rising_hd : ∀ {l : List Str} {x : Str}, PyProof.Rows.risingS x l = true → (∀ s ∈ x :: l, s.cps.toList ≠ []) → (x :: l).Pairwise fun a b => hdS a ≤ hdS b
  | [], _, _, _ => List.pairwise_singleton _ _
  | y :: l, x, h, hn => by
    have h : (!PySem.Spec.ltCps y.cps.toList x.cps.toList && PyProof.Rows.risingS y l) = true := h
    rw [Bool.and_eq_true, Bool.not_eq_true'] at h
    have p := rising_hd h.2 fun s hs => hn s (List.mem_cons_of_mem _ hs)
    have xy := ltCps_hd (hn x (List.mem_cons_self ..)) (hn y (List.mem_cons_of_mem _ (List.mem_cons_self ..))) h.1
    refine List.pairwise_cons.mpr ⟨fun z hz => ?_, p⟩
    rcases List.mem_cons.mp hz with rfl | hz
    · exact xy
    · exact Nat.le_trans xy ((List.pairwise_cons.mp p).1 z hz)
theorem sorted_hd : ∀ {l : List Str}, PyProof.Rows.sortedS l = true → (∀ s ∈ l, s.cps.toList ≠ []) → l.Pairwise fun a b => hdS a ≤ hdS b
  | [], _, _ => .nil
  | _ :: _, h, hn => rising_hd h hn
theorem sum_ones : ∀ us : List Nat, (((us.map sg).map fun s : Str => s.length).sum) = us.length
  | [] => rfl
  | u :: us => by
    rw [List.map_cons, List.map_cons, List.sum_cons, sum_ones us, List.length_cons]
    show 1 + us.length = us.length + 1
    omega
section
variable {P : Program} {w : World} {K : PySem.W.Frag} {mg : Str → Option Value} {base : Heap} {C CB : Addr}
/-! letters -/
abbrev spLtr : SpD := fun as Q => ∃ m : Nat, as = [.pot, .val (.int (m : Int))] ∧ 1 ≤ m ∧ m ≤ 8 ∧ ∀ z, LetZ z → z.length = m → Q (.str (SX.S z))
abbrev NLt : List Str := ["_law_pot_here", "_law_many"]
theorem sc_lt : FnScope NLt ["_law_pot_here", "_law_many"] (defScope (top 47)) := ⟨rfl, rfl, rfl, by decide +kernel, rfl, by decide +kernel, by decide +kernel⟩
def cod : List Nat := [97, 98, 99, 100, 101, 109, 120, 122]
theorem cod_nd : cod.Nodup := by decide
theorem cod_in : ∀ c ∈ cod, 97 ≤ c ∧ c ≤ 122 := by decide
theorem ok_lt {f : Addr} {fd : FuncData} (F : FunS K "_law_letters" "_law_letters" (top 47) f fd) (T : Txt K mg C) (hs : mg "sorted" = none) (MX : Df P w K mg base "_law_mixed" 2 2 spMix) : GnOk P w K mg base 3 f fd ["_law_pot_here", "_law_many"] (lift K spLtr) := by
  refine gn_dl F sc_lt (fun as Q h => by obtain ⟨_, rfl, _⟩ := h; rfl) (fun cdv A outer s H hr hG W as Q h => ?_)
  obtain ⟨m, rfl, m1, m8, q⟩ := h
  refine sds_cons (sd_ret (ed_joinS (ed_str ⟨rfl, ed_callB hs (ad_cons (ed_slLT (ed_call MX (hr.mono (j := 2) (by decide)) hG (ad_pot 0 rfl rfl (ad_cons (ed_str (ad_nil ⟨.str (SX.S cod), rfl, .inr ⟨_, rfl⟩, by decide, fun l' p => nm 1 ⟨l', (m : Int), rfl, rfl, .inl ⟨m, rfl, ad_nil ?_⟩⟩⟩)))))))⟩)))
  have e : asL (.str (SX.S cod)) = (cod.map sg).map D.str := rfl
  rw [e, List.map_map] at p
  obtain ⟨ws, rfl, pw⟩ := perm_map_inv p
  have wl : ws.length = 8 := pw.length_eq
  rw [← List.map_take, show (ws.take m).map (D.str ∘ sg) = ((ws.take m).map sg).map D.str by rw [List.map_map]]
  refine cd_sortLS (by rw [List.length_map, List.length_take]; omega) fun ys p2 so => ⟨ys, rfl, ?_⟩
  obtain ⟨us, rfl, pu⟩ := perm_map_inv p2
  have ul : us.length = m := by rw [pu.length_eq, List.length_take]; omega
  rw [join_sg, sum_ones, show (Str.ofString "").length = 0 from rfl, Nat.mul_zero]
  refine ⟨by omega, q us ⟨by omega, by omega, fun c hc => ?_, ?_⟩ ul⟩
  · exact cod_in c (pw.mem_iff.mp (List.mem_of_mem_take (pu.mem_iff.mp hc)))
  · have nd : us.Nodup := pu.nodup_iff.mpr ((pw.nodup_iff.mpr cod_nd).sublist (List.take_sublist ..))
    have so2 := List.pairwise_map.mp (sorted_hd so fun s hs => by obtain ⟨c, _, rfl⟩ := List.mem_map.mp hs; exact List.cons_ne_nil _ _)
    refine (so2.and nd).imp fun {a b} h => ?_
    have h1 : a ≤ b := h.1
    have := h.2
    omega
end
end K21

set_option Elab.async false
set_option linter.all false
set_option maxRecDepth 100000
set_option maxHeartbeats 8000000
/-! k21: products of forms, drawn products -/
namespace K21
open PySem L2 DL
abbrev iN (l : List Nat) : List Int := l.map fun (a : Nat) => (a : Int)
theorem iN_D (l : List Nat) : (l.map fun (a : Nat) => D.int (a : Int)) = (iN l).map D.int := by rw [List.map_map]; rfl
theorem rep_zero : ∀ m : Nat, (List.replicate m [D.int 0]).flatten = (List.replicate m (0 : Int)).map D.int
  | 0 => rfl
  | m + 1 => by rw [List.replicate_succ, List.flatten_cons, rep_zero m, List.replicate_succ, List.map_cons]; rfl
theorem rep_sum : ∀ m : Nat, (List.replicate m (0 : Int)).sum = ((0 : Nat) : Int)
  | 0 => rfl
  | m + 1 => by rw [List.replicate_succ, List.sum_cons, rep_sum m]; rfl
theorem zero_pk (m : Nat) : Pk m 0 [List.replicate m 0] := by
  refine ⟨?_, ?_, ?_, List.pairwise_singleton _ _⟩
  · intro k hk
    rw [List.mem_singleton.mp hk, List.length_replicate]
  · intro k hk c hc
    rw [List.mem_singleton.mp hk] at hc
    rw [List.eq_of_mem_replicate hc]
    exact Int.le_refl _
  · intro k hk
    rw [List.mem_singleton.mp hk]
    exact rep_sum m
theorem inc_len (a : Nat) (k : List Int) : (inc a k).length = k.length := List.length_set
theorem inc_sum : ∀ {a : Nat} {k : List Int}, a < k.length → (inc a k).sum = k.sum + 1
  | 0, c :: k, _ => by
    show (c + 1 + k.sum : Int) = c + k.sum + 1
    omega
  | a + 1, c :: k, h => by
    have := inc_sum (a := a) (k := k) (Nat.lt_of_succ_lt_succ h)
    show c + (inc a k).sum = c + k.sum + 1
    omega
theorem flat_len {α β : Type} (g : α → List β) (n : Nat) : ∀ l : List α, (∀ a ∈ l, (g a).length ≤ n) → (l.flatMap g).length ≤ l.length * n
  | [], _ => by simp
  | a :: l, h => by
    have h1 := h a (List.mem_cons_self ..)
    have h2 := flat_len g n l fun b hb => h b (List.mem_cons_of_mem _ hb)
    rw [List.flatMap_cons, List.length_append, List.length_cons, Nat.succ_mul]
    omega
section
variable {P : Program} {w : World} {K : PySem.W.Frag} {mg : Str → Option Value} {base : Heap} {C CB : Addr}
abbrev spFo : SpD := fun as Q => ∃ m d : Nat, as = [.pot, .val (.int (m : Int)), .val (.int (d : Int))] ∧ dom m d = true ∧ ∀ ps, Pk m d ps → ps ≠ [] → Q (.lst (ps.map tI))
abbrev NFo : List Str := ["_law_pot_here", "_law_many", "_law_degree", "_law_found", "_law_turn", "_law_lot", "_law_more", "_law_counts_here", "_law_at"]
theorem sc_fo : FnScope NFo ["_law_pot_here", "_law_many", "_law_degree"] (defScope (top 49)) := ⟨rfl, rfl, rfl, by decide +kernel, rfl, by decide +kernel, by decide +kernel⟩
theorem ok_fo {f : Addr} {fd : FuncData} (F : FunS K "_law_forms" "_law_forms" (top 49) f fd) (T : Txt K mg C) (hs : mg "sorted" = none) (hset : mg "set" = none) (G : Df P w K mg base "_law_draw" 1 2 spDraw) : GnOk P w K mg base 2 f fd ["_law_pot_here", "_law_many", "_law_degree"] (lift K spFo) := by
  refine gn_dl F sc_fo (fun as Q h => by obtain ⟨_, _, rfl, _⟩ := h; rfl) (fun cdv A outer s H hr hG W as Q h => ?_)
  obtain ⟨m, d, rfl, hm, q⟩ := h
  have nd := sc_fo.nd
  obtain ⟨m1, m4, d8⟩ := dom_le hm
  refine sds_cons (sd_set 3 nd rfl (ed_lst (ad_cons (ed_bin (ed_tup (ad_cons (ed_int (ad_nil ⟨[.int 0], rfl, by simp, nm 1 (od_repTup m1 (by omega) (by simp) (by simp) (ad_nil ⟨[tI (List.replicate m 0)], by rw [rep_zero]; rfl, by simp, ?_⟩))⟩))))))))
  refine sds_cons (sd_forR (n := (d : Int)) PassesOwn.never rfl T.range (fun i S' => ∃ ps : List (List Int), ∃ o4 o5 o6 o7, S' = [some .pot, some (.val (.int (m : Int))), some (.val (.int (d : Int))), some (.val (.lst (ps.map tI))), o4, o5, o6, o7, none] ∧ Pk m i ps ∧ ps ≠ []) (ad_cons (nm 2 (ad_nil ⟨rfl, by omega, by omega, [List.replicate m 0], none, none, none, none, rfl, zero_pk m, List.cons_ne_nil _ _⟩))) ?_ ?_)
  · rintro i S' hi ⟨ps, o4, o5, o6, o7, rfl, pk, pn⟩
    have hid : i < d := by omega
    have few : ps.length * m < 64 := Nat.lt_of_le_of_lt (Nat.mul_le_mul_right m (pk.few m1)) (allc_few hm hid)
    refine gd_name 4 nd rfl (sds_cons (sd_subR (n := m) 5 rfl rfl 8 rfl nd T.range (own := [("_law_at", 8)]) (blkOk_by (by show blkC NFo (defScope (top 49)) _ _ = true; decide +kernel)) (fun _ _ _ _ _ => pg_name (i := 8) nd rfl (Or.inl rfl)) (by simp) (by omega) (ad_cons (nm 1 (ad_nil rfl))) ?_ ?_ ?_))
    · intro a ha s2 H0 C2 cl fp
      exact td_cmp (ed_call G (hr.mono (j := 1) (by decide)) hG (ad_pot 0 rfl rfl (ad_cons (ed_int (ad_nil ⟨2, rfl, by decide, by decide, fun k hk => ed_int (od_eqi (kB trivial))⟩)))))
    · intro a ha s2 H0 C2 cl fp
      exact nm 8 rfl
    · intro ls sb
      have lsm : ∀ a ∈ ls, a < m := fun a ha => List.mem_range.mp (sb.subset ha)
      have lsl : ls.length ≤ m := by have := sb.length_le; rwa [List.length_range] at this
      refine sds_frz 5 _ rfl ?_
      refine sds_cons (sd_set 5 nd rfl (ed_imp (Q := fun dd => ∃ lt : List Nat, dd = .lst ((iN lt).map D.int) ∧ lt ≠ [] ∧ (∀ a ∈ lt, a < m) ∧ lt.length ≤ m) ?_ fun dd ⟨lt, e, l1, l2, l3⟩ => ?_))
      · refine ed_ifx (td_cmp (nm 5 (ed_lst (ad_nil ⟨[], rfl, by simp, ?_⟩))))
        rw [iN_D]
        refine od_neNilI (un64 hr) (kB ?_)
        cases ls with
        | nil =>
          show ED _ _ _ _ _
          exact ed_lst (ad_cons (ed_call G (hr.mono (j := 1) (by decide)) hG (ad_pot 0 rfl rfl (ad_cons (nm 1 (ad_nil ⟨(m : Int), rfl, by omega, by omega, fun k hk => ad_nil ⟨[.int (k : Int)], rfl, by simp, [k], rfl, by simp, fun a ha => by rw [List.mem_singleton.mp ha]; omega, m1⟩⟩))))))
        | cons a ls =>
          show ED _ _ _ _ _
          exact nm 5 ⟨a :: ls, rfl, List.cons_ne_nil _ _, lsm, lsl⟩
      · subst e
        refine sds_cons (sd_own 6 nd rfl (fd_lst (ad_nil ⟨[], rfl, by simp, ?_⟩)))
        refine sds_cons (sd_forL (l := ps.map tI) PassesOwn.never rfl (fun j S' => ∃ o7, S' = [some .pot, some (.val (.int (m : Int))), some (.val (.int (d : Int))), some (.val (.lst (ps.map tI))), some (.val (.int (i : Int))), some (.val (.lst ((iN lt).map D.int))), some (.own (((ps.take j).flatMap fun k => lt.map fun a => inc a k).map tI)), o7, none]) (nm 3 ⟨rfl, o7, rfl⟩) ?_ ?_)
        · rintro j dk S' hj ⟨o7, rfl⟩
          rw [List.getElem?_map] at hj
          obtain ⟨k, hk, rfl⟩ := Option.map_eq_some_iff.mp hj
          have km := List.mem_of_getElem? hk
          have kl := pk.len k km
          refine gd_name 7 nd rfl (sds_cons (sd_extend 6 _ rfl rfl (fd_mp (f := fun a : Nat => D.int (a : Int)) (u := fun a => tI (inc a k)) (l := lt) 8 rfl nd (own := [("_law_at", 8)]) (blkOk_by (by show blkC NFo (defScope (top 49)) _ _ = true; decide +kernel)) (fun _ _ _ _ _ => pg_name (i := 8) nd rfl (Or.inl rfl)) (by simp) (by omega) (.inl (by rw [iN_D])) (nm 5 rfl) ?_ ?_)))
          · intro a ha s2 H0 C2 cl fp
            have ak : a < k.length := by rw [kl]; exact l2 a ha
            refine ed_bin (ed_bin (ed_slTo (nm 7 (nm 8 ⟨_, a, rfl, rfl, by rw [List.length_map]; omega, ed_tup (ad_cons (ed_bin (ed_ix (nm 7 (nm 8 ⟨_, (a : Int), .int (k.getD a 0), .inr rfl, rfl, atI_nat (by rw [List.getElem?_map, List.getD_eq_getElem?_getD, List.getElem?_eq_getElem ak]; rfl), ed_int (od_add (ad_nil ⟨[.int (k.getD a 0 + 1)], rfl, by simp, od_catT (l := (k.map D.int).take a) (m := [.int (k.getD a 0 + 1)]) (by rw [List.length_take, List.length_map, List.length_singleton]; omega) (ed_slFrA (nm 7 (ed_bin (nm 8 (ed_int (od_add ⟨_, a + 1, rfl, by rw [Int.natCast_add]; rfl, od_catT ?_ ?_⟩))))))⟩))⟩)))))⟩))))
            · rw [List.length_append, List.length_take, List.length_drop, List.length_map, List.length_singleton]
              omega
            · rw [inc_parts ak]
          · have cap : ((ps.take j).flatMap fun k => lt.map fun a => inc a k).length ≤ 64 := by
              have := flat_len (fun k : List Int => lt.map fun a => inc a k) m (ps.take j) fun k _ => by rw [List.length_map]; exact l3
              have h2 : (ps.take j).length * m ≤ ps.length * m := Nat.mul_le_mul_right _ (by rw [List.length_take]; omega)
              omega
            refine ⟨by rw [List.length_map, List.length_map]; omega, sds_nil ⟨some (.val (tI k)), ?_⟩⟩
            rw [List.take_add_one, hk, List.flatMap_append, List.map_append]
            simp only [Option.toList_some, List.flatMap_cons, List.flatMap_nil, List.append_nil, List.map_map]
            rfl
        · rintro S' ⟨o7, rfl⟩
          rw [List.length_map, List.take_length]
          have cap : (ps.flatMap fun k => lt.map fun a => inc a k).length < 64 := by
            have := flat_len (fun k : List Int => lt.map fun a => inc a k) m ps fun k _ => by rw [List.length_map]; exact l3
            omega
          have mem : ∀ x, x ∈ (ps.flatMap fun k => lt.map fun a => inc a k) ↔ ∃ k ∈ ps, ∃ a ∈ lt, inc a k = x := fun x => by simp
          have f1 : ∀ x ∈ (ps.flatMap fun k => lt.map fun a => inc a k), x.length = m := fun x hx => by
            obtain ⟨k, hk, a, ha, rfl⟩ := (mem x).mp hx
            rw [inc_len, pk.len k hk]
          have f2 : ∀ x ∈ (ps.flatMap fun k => lt.map fun a => inc a k), ∀ c ∈ x, (0 : Int) ≤ c := fun x hx => by
            obtain ⟨k, hk, a, ha, rfl⟩ := (mem x).mp hx
            exact inc_nn (pk.nn k hk)
          have f3 : ∀ x ∈ (ps.flatMap fun k => lt.map fun a => inc a k), x.sum = ((i + 1 : Nat) : Int) := fun x hx => by
            obtain ⟨k, hk, a, ha, rfl⟩ := (mem x).mp hx
            rw [inc_sum (by rw [pk.len k hk]; exact l2 a ha), pk.sum k hk]
            rfl
          refine sds_frz 6 _ rfl ?_
          refine sds_cons (sd_set 3 nd rfl (ed_sortSetT (ls := ps.flatMap fun k => lt.map fun a => inc a k) (d := m) (Bb := 9) rfl (un64 hr) hs hset m1 cap (fun x hx => ⟨f1 x hx, fun c hc => ?_⟩) (nm 6 rfl) fun ls' mem' nd' pw' => ?_))
          · have n := f2 x hx
            have := (le_sum n).2 c hc
            rw [f3 x hx] at this
            have := n c hc
            omega
          · refine sds_nil ⟨ls', some (.val (.int (i : Int))), _, _, _, rfl, pk_of (by omega) f1 f2 f3 mem' nd' pw', fun e => ?_⟩
            obtain ⟨k, hk⟩ := List.exists_mem_of_ne_nil _ pn
            obtain ⟨a, ha⟩ := List.exists_mem_of_ne_nil _ l1
            have := (mem' _).mpr ((mem _).mpr ⟨k, hk, a, ha, rfl⟩)
            rw [e] at this
            cases this
  · rintro S' ⟨ps, o4, o5, o6, o7, rfl, pk, pn⟩
    rw [Int.toNat_natCast] at pk
    exact sds_cons (sd_ret (nm 3 (q ps pk pn)))
end
end K21

set_option Elab.async false
set_option linter.all false
set_option maxRecDepth 100000
set_option maxHeartbeats 8000000
/-! what a range brings, as ints that lie somewhere -/
namespace DL
open PySem PySem.Spec PyProof.Rows L2
theorem outs_ints {G : Int → Prop} : ∀ {out : List D}, (∀ y ∈ out, ∃ i : Int, y = .int i ∧ G i) → ∃ bs : List Int, out = bs.map D.int ∧ ∀ b ∈ bs, G b
  | [], _ => ⟨[], rfl, nofun⟩
  | y :: out, h => by
    obtain ⟨i, rfl, g⟩ := h y (List.mem_cons_self ..)
    obtain ⟨bs, rfl, gs⟩ := outs_ints fun x hx => h x (List.mem_cons_of_mem _ hx)
    refine ⟨i :: bs, rfl, fun c hc => ?_⟩
    rcases List.mem_cons.mp hc with rfl | z
    · exact g
    · exact gs c z
theorem outs_bools : ∀ {out : List D}, (∀ y ∈ out, ∃ b : Bool, y = .bl b) → ∃ bs : List Bool, out = bs.map D.bl
  | [], _ => ⟨[], rfl⟩
  | y :: out, h => by
    obtain ⟨b, rfl⟩ := h y (List.mem_cons_self ..)
    obtain ⟨bs, rfl⟩ := outs_bools fun x hx => h x (List.mem_cons_of_mem _ hx)
    exact ⟨b :: bs, rfl⟩
theorem outs_each {G : D → Prop} {n : Nat} {out : List D} (h : Outs (fun _ y => G y) n out) : ∀ y ∈ out, G y := fun y hy => by
  obtain ⟨i, hi, e⟩ := List.getElem_of_mem hy
  obtain ⟨z, e2, g⟩ := h.2 i (by rw [← h.1]; exact hi)
  rw [List.getElem?_eq_getElem hi, e] at e2
  cases e2
  exact g
theorem relab {c : Str → NameKind → Bool} {x : Str} {k : NameKind} : ∀ {l : List (Str × NameKind)}, l.lookup x = some k → (l.map fun (n, k) => if c n k = true then (n, NameKind.cell) else (n, k)).lookup x = some k ∨ (l.map fun (n, k) => if c n k = true then (n, NameKind.cell) else (n, k)).lookup x = some .cell
  | [], h => by simp at h
  | (n, k') :: l, h => by
    rw [List.map_cons]
    by_cases e : x == n
    · rw [List.lookup_cons, e] at h
      cases h
      by_cases cc : c n k = true
      · simp only [cc, if_true]
        right
        rw [List.lookup_cons, e]
      · simp only [cc]
        left
        show List.lookup x ((n, k) :: _) = _
        rw [List.lookup_cons, e]
    · have e' : (x == n) = false := by simpa using e
      rw [List.lookup_cons, e'] at h
      have := relab (c := c) (l := l) h
      by_cases cc : c n k' = true
      · simp only [cc, if_true]
        rw [List.lookup_cons, e']
        exact this
      · simp only [cc]
        show List.lookup x ((n, k') :: _) = _ ∨ List.lookup x ((n, k') :: _) = _
        rw [List.lookup_cons, e']
        exact this
theorem blkOk_in {N : List Str} {scope scope' : Scope} {own : List (Str × Nat)} {cl : List (Str × Addr)} {a : Addr} {env : Env} (h : BlkOk N scope scope' own) : BlkOk N (compEnvC scope cl a env).scope scope' own :=
  ⟨h.kind, h.uniq, h.ix, fun y hy e => by
    rcases h.free y hy e with k | k
    · rcases relab (c := fun n k => k == NameKind.free && env.scope.kind == .function && env.kindOf n == some .cell) k with z | z
      · exact .inl z
      · exact .inl z
    · rcases relab (c := fun n k => k == NameKind.free && env.scope.kind == .function && env.kindOf n == some .cell) k with z | z
      · exact .inr z
      · exact .inl z, h.own⟩
end DL

set_option Elab.async false
set_option linter.all false
set_option maxRecDepth 100000
set_option maxHeartbeats 8000000
/-! k21: drawn products -/
namespace K21
open PySem L2 DL
def forms4 (st : Stmt) : Expr := match (defBody st).getD 1 (.Pass ⟨0, 0, 0, 0⟩) with
  | .If _ _ [.If _ [_, _, .Assign _ e _] _ _] _ => e
  | _ => .Name "" ⟨0, 0, 0, 0⟩
section
variable {P : Program} {w : World} {K : PySem.W.Frag} {mg : Str → Option Value} {base : Heap} {C CB : Addr}
abbrev spPr : SpD := fun as Q => ∃ m d : Nat, as = [.pot, .val (.int (m : Int)), .val (.int (d : Int))] ∧ dom m d = true ∧ ∀ ps, Pk m d ps → ps.length ≤ 12 → Q (.lst (ps.map tI))
abbrev NPd : List Str := ["_law_pot_here", "_law_many", "_law_degree", "_law_every", "_law_way", "_law_found", "_law_at", "_law_cut", "_law_bounds", "_law_counts_here", "_law_count", "_law_bound"]
theorem sc_pd : FnScope NPd ["_law_pot_here", "_law_many", "_law_degree"] (defScope (top 50)) := ⟨rfl, rfl, rfl, by decide +kernel, rfl, by decide +kernel, by decide +kernel⟩
theorem ok_pd {f : Addr} {fd : FuncData} (F : FunS K "_law_products" "_law_products" (top 50) f fd) (T : Txt K mg C) (hall : mg "all" = none) (hzip : mg "zip" = none) (hsum : mg "sum" = none) (G : Df P w K mg base "_law_draw" 1 2 spDraw) (FO : Df P w K mg base "_law_forms" 2 3 spFo) (AC : ∀ m, m ≤ 4 → Df P w K mg base "_law_counts" (m + 1) 2 (spAc m)) : GnOk P w K mg base 7 f fd ["_law_pot_here", "_law_many", "_law_degree"] (lift K spPr) := by
  refine gn_dl F sc_pd (fun as Q h => by obtain ⟨_, _, rfl, _⟩ := h; rfl) (fun cdv A outer s H hr hG W as Q h => ?_)
  obtain ⟨m, d, rfl, hm, q⟩ := h
  have nd := sc_pd.nd
  obtain ⟨m1, m4, d8⟩ := dom_le hm
  have pk := allc_pk hm
  have l20 := allc_len hm
  refine sds_cons (sd_par 3 4 rfl nd rfl rfl (by decide) rfl rfl (ad_cons (ed_call (AC m m4) (hr.mono (by omega)) hG (ad_cons (nm 1 (ad_cons (nm 2 (ad_nil ⟨d, rfl, hm, ad_cons (ed_call G (hr.mono (j := 1) (by decide)) hG (ad_pot 0 rfl rfl (ad_cons (ed_int (ad_nil ⟨8, rfl, by decide, by decide, fun k hk => ad_nil ⟨_, _, rfl, ?_⟩⟩)))))⟩))))))))
  have fin : ∀ {ps : List (List Int)} {o6 o7 o8 : Option Sl}, Pk m d ps → ∀ E : Ends', E.rt = Q → SDs (Bx P w K mg base NPd "_law_products" (top 50) f cdv A outer s H) H W [some .pot, some (.val (.int (m : Int))), some (.val (.int (d : Int))), some (.val (.lst ((allc m d).map tI))), some (.val (.int (k : Int))), some (.val (.lst (ps.map tI))), o6, o7, o8, none, none, none] ((defBody (top 50)).drop 2) E := by
    rintro ps o6 o7 o8 p E rfl
    refine sds_cons (sd_ret (ed_slLT (nm 5 (ed_int ⟨_, 12, rfl, rfl, .inl ⟨12, rfl, ?_⟩⟩))))
    rw [← List.map_take]
    exact q _ (p.sub (List.take_sublist ..)) (by rw [List.length_take]; omega)
  refine sds_cons (sd_ifAny (fun _ => True) (td_cmp (nm 4 (ed_int (od_eqi (kB trivial))))) (fun _ => ?_) (fun _ => ?_))
  · refine sds_cons (sd_sub (f := tI) (l := allc m d) 5 rfl rfl 9 rfl nd (own := [("_law_counts_here", 9)]) (blkOk_by (by show blkC NPd (defScope (top 50)) _ _ = true; decide +kernel)) (fun _ _ _ _ _ => pg_name (i := 9) nd rfl (Or.inl rfl)) (by simp) (by omega) (nm 3 rfl) ?_ ?_ ?_)
    · intro a ha s2 H0 C2 cl fp
      exact td_cmp (ed_call G (hr.mono (j := 1) (by decide)) hG (ad_pot 0 rfl rfl (ad_cons (ed_int (ad_nil ⟨3, rfl, by decide, by decide, fun k hk => ed_int (od_eqi (kB trivial))⟩)))))
    · intro a ha s2 H0 C2 cl fp
      exact nm 9 rfl
    · intro ls sb
      refine sds_frz 5 _ rfl ?_
      exact sds_nil (fin (pk.sub sb) _ rfl)
  refine sds_cons (sd_ifAny (fun _ => True) (td_of (tw_or (td_cmp (nm 4 (ed_int (od_lt (kB ?_))))))) (fun _ => ?_) (fun _ => ?_))
  · split
    · trivial
    · refine tw_or1 (td_of (tw_and (td_chain (ed_int (nm 4 (od_lt (kB ?_)))))))
      split
      · refine ed_int (od_lt (kB ?_))
        split
        · exact tw_and1 (td_cmp (nm 2 (nm 1 (od_gt (kB trivial)))))
        · trivial
      · simp
  · refine sds_cons (sd_set 5 nd rfl (ed_call FO (hr.mono (j := 2) (by decide)) hG (ad_pot 0 rfl rfl (ad_cons (nm 1 (ad_cons (nm 2 (ad_nil ⟨m, d, rfl, hm, fun ps p pn => ?_⟩))))))))
    have pl : ps.length ≤ 20 := Nat.le_trans (p.few m1) l20
    have pp := List.length_pos_iff.mpr pn
    refine sds_cons (sd_set 6 nd rfl (ed_call G (hr.mono (j := 1) (by decide)) hG (ad_pot 0 rfl rfl (ad_cons (ed_callB T.len (ad_cons (nm 5 (ad_nil (cd_len (l := ps.map tI) (.inl rfl) (ad_nil ⟨_, rfl, by rw [List.length_map]; omega, by rw [List.length_map]; omega, fun a ha => ?_⟩))))))))))
    refine sds_cons (sd_set 5 nd rfl (ed_imp (Q := fun dd => ∃ ls : List (List Int), dd = .lst (ls.map tI) ∧ ls.Sublist ps) ?_ fun dd ⟨ls, e, sb⟩ => ?_))
    · rw [List.length_map] at ha
      have el : ED (Bx P w K mg base NPd "_law_products" (top 50) f cdv A outer s H) H [some .pot, some (.val (.int (m : Int))), some (.val (.int (d : Int))), some (.val (.lst ((allc m d).map tI))), some (.val (.int (k : Int))), some (.val (.lst (ps.map tI))), some (.val (.int (a : Int))), none, none, none, none, none] (match (forms4 (top 50)) with | .IfExp _ _ e _ => e | _ => .Name "" ⟨0, 0, 0, 0⟩) fun dd => ∃ ls : List (List Int), dd = .lst (ls.map tI) ∧ ls.Sublist ps := by
        refine ed_bin (ed_slLT (nm 5 (nm 6 ⟨ps.map tI, (a : Int), rfl, rfl, .inl ⟨a, rfl, ed_slLF (nm 5 (ed_bin (nm 6 (ed_int (od_add ⟨ps.map tI, a + 1, rfl, by rw [Int.natCast_add]; rfl, by rw [List.length_map]; omega, od_catL (by rw [List.length_take, List.length_drop, List.length_map]; omega) ⟨ps.eraseIdx a, ?_, List.eraseIdx_sublist ..⟩⟩)))))⟩⟩)))
        rw [List.eraseIdx_eq_take_drop_succ, List.map_append, List.map_take, List.map_drop]
      refine ed_ifx (td_of (tw_or (td_cmp (nm 4 (ed_int (od_eqi (kB ?_)))))))
      split
      · show ED _ _ _ _ _
        exact nm 5 ⟨ps, rfl, .refl _⟩
      · refine tw_or1 (td_cmp (ed_callB T.len (ad_cons (nm 5 (ad_nil (cd_len (l := ps.map tI) (.inl rfl) (ed_int (od_eqi (kB ?_)))))))))
        split
        · exact nm 5 ⟨ps, rfl, .refl _⟩
        · exact el
    · subst e
      exact sds_nil (sds_nil (fin (p.sub sb) _ rfl))
  refine sds_cons (sd_ifAny (fun _ => True) (td_cmp (nm 4 (ed_int (od_eqi (kB trivial))))) (fun _ => ?_) (fun _ => ?_))
  · refine sds_cons (sd_set 7 nd rfl (ed_call G (hr.mono (j := 1) (by decide)) hG (ad_pot 0 rfl rfl (ad_cons (nm 1 (ad_nil ⟨(m : Int), rfl, by omega, by omega, fun cut hc => ?_⟩))))))
    refine sds_cons (sd_sub (f := tI) (l := allc m d) 5 rfl rfl 9 rfl nd (own := [("_law_counts_here", 9)]) (blkOk_by (by show blkC NPd (defScope (top 50)) _ _ = true; decide +kernel)) (fun _ _ _ _ _ => pg_name (i := 9) nd rfl (Or.inl rfl)) (by simp) (by omega) (nm 3 rfl) ?_ ?_ ?_)
    · intro a ha s2 H0 C2 cl fp
      refine td_of (tw_and (td_cmp (ed_callB hsum (ad_cons (ed_slTo (nm 9 (nm 7 ⟨a.map D.int, cut, rfl, rfl, by rw [List.length_map, pk.len a ha]; omega, ad_nil ?_⟩)))))))
      rw [← List.map_take]
      refine cd_sumT rfl (ed_tup (ad_cons (ed_int (ad_cons (nm 2 (ad_nil ⟨[.int 0, .int (d : Int)], rfl, by simp, od_inI (l := [0, (d : Int)]) (.inr rfl) (kB ?_)⟩))))))
      split
      · exact tw_and1 (td_cmp (ed_call G (hr.mono (j := 1) (by decide)) hG (ad_pot 0 rfl rfl (ad_cons (ed_int (ad_nil ⟨4, rfl, by decide, by decide, fun k hk => ed_int (od_gt (kB trivial))⟩))))))
      · trivial
    · intro a ha s2 H0 C2 cl fp
      exact nm 9 rfl
    · intro ls sb
      refine sds_frz 5 _ rfl ?_
      exact sds_nil (sds_nil (sds_nil (fin (pk.sub sb) _ rfl)))
  refine sds_cons (sd_ifAny (fun _ => True) (td_cmp (nm 4 (ed_int (od_lt (kB trivial))))) (fun _ => ?_) (fun _ => ?_))
  · refine sds_cons (sd_sub (f := tI) (l := allc m d) 5 rfl rfl 9 rfl nd (own := [("_law_counts_here", 9)]) (blkOk_by (by show blkC NPd (defScope (top 50)) _ _ = true; decide +kernel)) (fun _ _ _ _ _ => pg_name (i := 9) nd rfl (Or.inl rfl)) (by simp) (by omega) (nm 3 rfl) ?_ ?_ ?_)
    · intro a ha s2 H0 C2 cl fp
      refine td_of (tw_and (td_cmp (ed_callB T.max (ad_cons (nm 9 (ad_nil (cd_maxT rfl (by rw [pk.len a ha]; omega) fun M _ _ => ed_int (od_lt (kB ?_)))))))))
      split
      · exact tw_and1 (td_cmp (ed_call G (hr.mono (j := 1) (by decide)) hG (ad_pot 0 rfl rfl (ad_cons (ed_int (ad_nil ⟨2, rfl, by decide, by decide, fun k hk => ed_int (od_eqi (kB trivial))⟩))))))
      · trivial
    · intro a ha s2 H0 C2 cl fp
      exact nm 9 rfl
    · intro ls sb
      refine sds_frz 5 _ rfl ?_
      exact sds_nil (sds_nil (sds_nil (sds_nil (fin (pk.sub sb) _ rfl))))
  refine sds_cons (sd_set 8 nd rfl (ed_fd (fd_relR (n := m) (fun _ y => ∃ i : Int, y = .int i ∧ True) 6 (own := [("_law_at", 6)]) rfl nd T.range (blkOk_by (by show blkC NPd (defScope (top 50)) _ _ = true; decide +kernel)) (fun _ _ _ _ _ => pg_name (i := 6) nd rfl (Or.inl rfl)) (by omega) (ad_cons (nm 1 (ad_nil rfl))) (by simp) ?_ fun out ho => ?_)))
  · intro i hi s2 H0 C2 cl fp
    exact ed_call G (hr.mono (j := 1) (by decide)) hG (ad_pot 0 rfl rfl (ad_cons (ed_bin (nm 2 (ed_int (od_add (ad_nil ⟨(d : Int) + 2, rfl, by omega, by omega, fun k hk => ⟨_, rfl, trivial⟩⟩)))))))
  have ol := ho.1
  obtain ⟨bs, rfl, _⟩ := outs_ints (G := fun _ => True) (outs_each ho)
  rw [List.length_map] at ol
  refine sds_cons (sd_sub (f := tI) (l := allc m d) 5 rfl rfl 9 rfl nd (own := [("_law_counts_here", 9)]) (blkOk_by (by show blkC NPd (defScope (top 50)) _ _ = true; decide +kernel)) (fun _ _ _ _ _ => pg_name (i := 9) nd rfl (Or.inl rfl)) (by simp) (by omega) (nm 3 rfl) ?_ ?_ ?_)
  · intro a ha s2 H0 C2 cl fp
    have al := pk.len a ha
    refine td_val (ed_callB hall (ad_cons (ed_fd (fd_relZ (l := a.map D.int) (l' := bs.map D.int) (fun x y z => ∃ b, z = .bl b) 10 11 (own := [("_law_count", 10), ("_law_bound", 11)]) rfl nd hzip (blkOk_in (N := NPd) (blkOk_by (by decide +kernel))) (fun _ _ _ _ _ => pg_tup rfl (pgs_cons (pg_name (i := 10) nd rfl (Or.inl rfl)) (pgs_cons (pg_name (i := 11) nd rfl (Or.inl rfl)) pgs_nil rfl) rfl)) (by rw [List.length_map, List.length_map]; omega) (by rw [List.length_map]; omega) (.inr rfl) (.inl rfl) (ad_cons (nm 9 (ad_cons (nm 8 (ad_nil rfl))))) (by simp) (by simp) ?_ ?_))))
    · intro n x y hx hy s3 H3 C3 cl3 fp3
      rw [List.getElem?_map] at hx hy
      obtain ⟨i, _, rfl⟩ := Option.map_eq_some_iff.mp hx
      obtain ⟨j, _, rfl⟩ := Option.map_eq_some_iff.mp hy
      exact ed_cmp (nm 10 (nm 11 (od_le ⟨_, rfl⟩)))
    · intro out o1 o2
      obtain ⟨cs, rfl⟩ := outs_bools (out := out) fun z hz => by
        obtain ⟨n, hn, e⟩ := List.getElem_of_mem hz
        have n1 : n < a.length := by rw [o1, List.length_map] at hn; exact hn
        exact o2 n _ _ z (by rw [List.getElem?_map, List.getElem?_eq_getElem n1]; rfl) (by rw [List.getElem?_map, List.getElem?_eq_getElem (by omega : n < bs.length)]; rfl) (by rw [List.getElem?_eq_getElem hn, e])
      exact ad_nil (cd_all rfl (kB trivial))
  · intro a ha s2 H0 C2 cl fp
    exact nm 9 rfl
  · intro ls sb
    refine sds_frz 5 _ rfl ?_
    exact sds_nil (sds_nil (sds_nil (sds_nil (fin (pk.sub sb) _ rfl))))
end
end K21

set_option Elab.async false
set_option linter.all false
set_option maxRecDepth 100000
set_option maxHeartbeats 8000000
/-! k21: sizes, amounts, blends drawn -/
namespace K21
open PySem L2 DL
section
variable {P : Program} {w : World} {K : PySem.W.Frag} {mg : Str → Option Value} {base : Heap} {C CB : Addr}
/-! a size -/
abbrev spSz : SpD := fun as Q => as = [.pot] ∧ ∀ m d : Nat, dom m d = true → Q (.tup [.int (m : Int), .int (d : Int)])
abbrev NSz : List Str := ["_law_pot_here", "_law_many"]
theorem sc_sz : FnScope NSz ["_law_pot_here"] (defScope (top 51)) := ⟨rfl, rfl, rfl, by decide +kernel, rfl, by decide +kernel, by decide +kernel⟩
theorem ok_sz {f : Addr} {fd : FuncData} (F : FunS K "_law_size" "_law_size" (top 51) f fd) (T : Txt K mg C) (G : Df P w K mg base "_law_draw" 1 2 spDraw) (PI : Df P w K mg base "_law_pick" 2 2 spPick) : GnOk P w K mg base 3 f fd ["_law_pot_here"] (lift K spSz) := by
  refine gn_dl F sc_sz (fun as Q h => by obtain ⟨rfl, _⟩ := h; rfl) (fun cdv A outer s H hr hG W as Q h => ?_)
  obtain ⟨rfl, q⟩ := h
  have nd := sc_sz.nd
  refine sds_cons (sd_set 1 nd rfl (ed_call PI (hr.mono (j := 2) (by decide)) hG (ad_pot 0 rfl rfl (ad_cons (ed_lst ?_)))))
  refine ad_cons (ed_int ?_)
  refine ad_cons (ed_int ?_)
  refine ad_cons (ed_int ?_)
  refine ad_cons (ed_int ?_)
  refine ad_cons (ed_int ?_)
  refine ad_cons (ed_int ?_)
  refine ad_cons (ed_int ?_)
  refine ad_cons (ed_int ?_)
  refine ad_nil ⟨([1, 2, 2, 3, 3, 3, 4, 4] : List Int).map D.int, rfl, by decide, ad_nil ⟨_, rfl, by decide, by decide, fun dd hd => ?_⟩⟩
  obtain ⟨mi, hmi, rfl⟩ := List.mem_map.mp hd
  have fin : ∀ (m b : Nat), (∀ d, d < b → dom m d = true) → ([9, 7, 5, 4] : List Int)[m - 1]? = some (b : Int) → 1 ≤ m → 0 < b → b < 100 → SDs (Bx P w K mg base NSz "_law_size" (top 51) f cdv A outer s H) H W [some .pot, some (.val (.int (m : Int)))] ((defBody (top 51)).drop 1) { nx := fun _ => Q .non, rt := Q } := by
    intro m b hb ha m1 b0 b1
    refine sds_cons (sd_ret (ed_tup (ad_cons (nm 1 (ad_cons (ed_call G (hr.mono (j := 1) (by decide)) hG (ad_pot 0 rfl rfl (ad_cons (ed_ix (ed_lst ?_))))))))))
    refine ad_cons (ed_int ?_)
    refine ad_cons (ed_int ?_)
    refine ad_cons (ed_int ?_)
    refine ad_cons (ed_int ?_)
    refine ad_nil ⟨([9, 7, 5, 4] : List Int).map D.int, rfl, by decide, ed_bin (nm 1 (ed_int (od_sub ⟨([9, 7, 5, 4] : List Int).map D.int, ((m - 1 : Nat) : Int), .int (b : Int), .inl rfl, (show D.int ((m : Int) - 1) = D.int ((m - 1 : Nat) : Int) by congr 1; omega), atI_nat (by rw [List.getElem?_map, ha]; rfl), ad_nil ⟨(b : Int), rfl, by omega, by omega, fun d hd => ad_nil ⟨[.int (m : Int), .int (d : Int)], rfl, by simp, q m d (hb d (by omega))⟩⟩⟩)))⟩
  have mm : mi = 1 ∨ mi = 2 ∨ mi = 3 ∨ mi = 4 := by
    simp only [List.mem_cons, List.not_mem_nil, or_false] at hmi
    omega
  rcases mm with rfl | rfl | rfl | rfl
  · exact fin 1 9 (by decide) rfl (by decide) (by decide) (by decide)
  · exact fin 2 7 (by decide) rfl (by decide) (by decide) (by decide)
  · exact fin 3 5 (by decide) rfl (by decide) (by decide) (by decide)
  · exact fin 4 4 (by decide) rfl (by decide) (by decide) (by decide)
/-! an amount -/
abbrev spAmD (C : Addr) : SpD := fun as Q => as = [.pot] ∧ ∀ d r, Nq C 10 d r → 0 < r → Q d
abbrev NAm : List Str := ["_law_pot_here", "_law_top", "_law_bottom"]
theorem sc_amt : FnScope NAm ["_law_pot_here"] (defScope (top 52)) := ⟨rfl, rfl, rfl, by decide +kernel, rfl, by decide +kernel, by decide +kernel⟩
theorem ok_amt {f : Addr} {fd : FuncData} (F : FunS K "_law_amount" "_law_amount" (top 52) f fd) (V : Rt P w K mg base C) (G : Df P w K mg base "_law_draw" 1 2 spDraw) : GnOk P w K mg base 4 f fd ["_law_pot_here"] (lift K (spAmD C)) := by
  refine gn_dl F sc_amt (fun as Q h => by obtain ⟨rfl, _⟩ := h; rfl) (fun cdv A outer s H hr hG W as Q h => ?_)
  obtain ⟨rfl, q⟩ := h
  have nd := sc_amt.nd
  refine sds_cons (sd_par 1 2 rfl nd rfl rfl (by decide) rfl rfl (ad_cons (ed_bin (ed_int (ed_call G (hr.mono (j := 1) (by decide)) hG (ad_pot 0 rfl rfl (ad_cons (ed_int (ad_nil ⟨30, rfl, by decide, by decide, fun t ht => od_add (ad_cons (ed_bin (ed_int (ed_call G (hr.mono (j := 1) (by decide)) hG (ad_pot 0 rfl rfl (ad_cons (ed_int (ad_nil ⟨9, rfl, by decide, by decide, fun b hb => od_add (ad_nil ⟨_, _, rfl, ?_⟩)⟩))))))))⟩)))))))))
  refine sds_cons (sd_ret (ed_ifx (td_cmp (ed_call G (hr.mono (j := 1) (by decide)) hG (ad_pot 0 rfl rfl (ad_cons (ed_int (ad_nil ⟨3, rfl, by decide, by decide, fun d2 hd2 => ed_int (od_gt (kB ?_))⟩))))))))
  split
  · exact nm 1 (q _ _ (.int (1 + (t : Int)) (Bq.int (by show _ < 1024; omega) (by decide))) (Rat.intCast_pos.mpr (by omega)))
  · refine ed_makeA V.mk2 (hr.mono (j := 3) (by decide)) hG (ad_cons (nm 1 (ad_cons (nm 2 (ad_nil (mk_ok (n := 10) (t := 1 + (t : Int)) (b := 1 + (b : Int)) (by omega) (by show _ < 1024; omega) (by show _ < 1024; omega) (by decide) ?_))))))
    have b0 : (1 : Int) + (b : Int) ≠ 0 := by omega
    have bd := low_bd (t := 1 + (t : Int)) b0 (n := 10) (by show _ < 1024; omega) (by show _ < 1024; omega)
    have e := low_fr (t := 1 + (t : Int)) b0
    rw [e] at bd ⊢
    exact q _ _ (.rat _ bd) (dv_pos (by omega) (by omega))
/-! a blend -/
abbrev spBlD (C CB : Addr) : SpD := fun as Q => ∃ z, ∃ m d : Nat, ∃ ps, as = [.pot, .val (.str (SX.S z)), .val (.lst (ps.map tI))] ∧ LetZ z ∧ z.length = m ∧ d ≤ 8 ∧ Pk m d ps ∧ ps.length ≤ 12 ∧ ∀ es, GE m d 10 es → es.map (·.1) = ps → srt es = es → Q (Bo C CB z d es)
abbrev NBl : List Str := ["_law_pot_here", "_law_letters_here", "_law_products_here", "_law_entries", "_law_counts_here"]
theorem sc_bld : FnScope NBl ["_law_pot_here", "_law_letters_here", "_law_products_here"] (defScope (top 53)) := ⟨rfl, rfl, rfl, by decide +kernel, rfl, by decide +kernel, by decide +kernel⟩
theorem ok_bld {f : Addr} {fd : FuncData} (F : FunS K "_law_blend" "_law_blend" (top 53) f fd) (V : Bt P w K mg base C CB) (MK : KlK P w K mg base "Blend" CB 7 ["entries", "letters"] List.reverse (spBl K C)) (G : Df P w K mg base "_law_draw" 1 2 spDraw) (MX : Df P w K mg base "_law_mixed" 2 2 spMix) (AM : Df P w K mg base "_law_amount" 4 1 (spAmD C)) : GnOk P w K mg base 9 f fd ["_law_pot_here", "_law_letters_here", "_law_products_here"] (lift K (spBlD C CB)) := by
  refine gn_dl F sc_bld (fun as Q h => by obtain ⟨_, _, _, _, rfl, _⟩ := h; rfl) (fun cdv A outer s H hr hG W as Q h => ?_)
  obtain ⟨z, m, d, ps, rfl, hz, hm, d8, pk, p12, q⟩ := h
  have nd := sc_bld.nd
  have T := V.L.V.T
  refine sds_cons (sd_own 3 nd rfl (fd_lst (ad_nil ⟨[], rfl, by simp, ?_⟩)))
  refine sds_cons (sd_forLG PassesOwn.never rfl (fun l j S' => ∃ qs : List (List Int), ∃ acc es o4, l = qs.map tI ∧ qs.Perm ps ∧ S' = [some .pot, some (.val (.str (SX.S z))), some (.val (.lst (ps.map tI))), some (.own acc), o4] ∧ Paired (EntD C 10) acc es ∧ es.map (·.1) = qs.take j ∧ ∀ e ∈ es, 0 < e.2 ∧ Bq 10 e.2) (ed_call MX (hr.mono (j := 2) (by decide)) hG (ad_pot 0 rfl rfl (ad_cons (nm 2 (ad_nil ⟨_, rfl, .inl ⟨_, rfl⟩, ?_, fun l' p => ?_⟩))))) ?_ ?_)
  · show (ps.map tI).length ≤ 1000
    rw [List.length_map]
    omega
  · obtain ⟨qs, rfl, pq⟩ := perm_map_inv (f := tI) p
    exact ⟨_, rfl, qs, [], [], none, rfl, pq, rfl, .nil, rfl, nofun⟩
  · rintro l j dk S' hj ⟨qs, acc, es, o4, rfl, pq, rfl, pe, ek, ep⟩
    rw [List.getElem?_map] at hj
    obtain ⟨k, hk, rfl⟩ := Option.map_eq_some_iff.mp hj
    have al : acc.length ≤ 12 := by
      rw [Paired.length pe, ← List.length_map (f := fun e : Ent => e.1), ek, List.length_take, pq.length_eq]
      omega
    refine gd_name 4 nd rfl (sds_cons (sd_append 3 _ rfl rfl (by omega) (ed_tup (ad_cons (ed_imp (Q := fun kd => SeqD kd (k.map D.int)) ?_ fun kd hkd => ?_)))))
    · refine ed_ifx (td_cmp (ed_call G (hr.mono (j := 1) (by decide)) hG (ad_pot 0 rfl rfl (ad_cons (ed_int (ad_nil ⟨2, rfl, by decide, by decide, fun d2 hd2 => ed_int (od_eqi (kB ?_))⟩))))))
      split
      · exact nm 4 (.inr rfl)
      · exact ed_fd (fd_list T.list (nm 4 ⟨k.map D.int, .inr rfl, .inl rfl⟩))
    · refine ad_cons (ed_call AM (hr.mono (j := 4) (by decide)) hG (ad_pot 0 rfl rfl (ad_nil ⟨rfl, fun ad r nq r0 => ad_nil ⟨[kd, ad], rfl, by simp, ?_⟩⟩)))
      refine sds_nil ⟨qs, acc ++ [.tup [kd, ad]], es ++ [(k, r)], some (.val (tI k)), rfl, pq, rfl, paired_snoc ⟨kd, ad, rfl, hkd, nq⟩ pe, ?_, fun e he => ?_⟩
      · rw [List.map_append, ek, List.take_add_one, hk]
        rfl
      · rcases List.mem_append.mp he with h | h
        · exact ep e h
        · rw [List.mem_singleton.mp h]
          exact ⟨r0, nq.b⟩
  · rintro l S' ⟨qs, acc, es, o4, rfl, pq, rfl, pe, ek, ep⟩
    rw [List.length_map, List.take_length] at ek
    have km : ∀ e ∈ es, e.1 ∈ ps := fun e he => pq.mem_iff.mp (by rw [← ek]; exact List.mem_map_of_mem he)
    have ge : GE m d 10 es := ⟨fun e he => pk.len _ (km e he), fun e he => pk.nn _ (km e he), fun e he => pk.sum _ (km e he), fun e he => (ep e he).1, fun e he => (ep e he).2, by rw [ek]; exact pq.nodup_iff.mpr pk.nd, by
      have : es.length = ps.length := by rw [← List.length_map (f := fun e : Ent => e.1), ek, pq.length_eq]
      omega⟩
    have ks : ps = (srt es).map (·.1) := keys_srt ge d8 (by rw [ek]; exact pq.symm) (pk.so.imp fun h => Int.le_of_lt h)
    have fin := q (srt es) (srt_ge ge) ks.symm (srt_srt ge d8)
    refine sds_frz 3 _ rfl ?_
    refine sds_cons (sd_ret (ed_ifx (td_cmp (ed_call G (hr.mono (j := 1) (by decide)) hG (ad_pot 0 rfl rfl (ad_cons (ed_int (ad_nil ⟨2, rfl, by decide, by decide, fun d2 hd2 => ed_int (od_eqi (kB ?_))⟩))))))))
    split
    · exact ed_makeA V.mkA (hr.mono (j := 8) (by decide)) hG (ad_cons (nm 1 (ad_cons (nm 3 (ad_nil (.inl ⟨z, m, d, 10, es, acc, _, rfl, .inl rfl, hz, hm, d8, by decide, ge, pe, fin⟩))))))
    · exact ed_makeK0 MK (hr.mono (j := 8) (by decide)) hG (kd_cons (ed_callTy T.tuple (ad_cons (nm 3 (ad_nil (cd_tuple (kd_cons (nm 1 (kd_nil ⟨rfl, .inl ⟨z, m, d, 10, es, acc, _, rfl, .inr rfl, hz, hm, d8, by decide, ge, pe, fin⟩⟩)))))))))
/-! all that is drawn -/
abbrev spDr (C CB : Addr) : SpD := fun as Q => as = [.pot] ∧ ∀ (z : List Nat) (m d : Nat) (es : List Ent), dom m d = true → LetZ z → z.length = m → GE m d 10 es → Pk m d (es.map (·.1)) → es.length ≤ 12 → srt es = es → Q (.tup [.str (SX.S z), .lst ((es.map (·.1)).map tI), Bo C CB z d es])
abbrev NDw : List Str := ["_law_pot_here", "_law_many", "_law_degree", "_law_letters_here", "_law_products_here"]
theorem sc_dw : FnScope NDw ["_law_pot_here"] (defScope (top 54)) := ⟨rfl, rfl, rfl, by decide +kernel, rfl, by decide +kernel, by decide +kernel⟩
theorem ok_dw {f : Addr} {fd : FuncData} (F : FunS K "_law_drawn" "_law_drawn" (top 54) f fd) (SZ : Df P w K mg base "_law_size" 3 1 spSz) (LT : Df P w K mg base "_law_letters" 3 2 spLtr) (PD : Df P w K mg base "_law_products" 7 3 spPr) (BL : Df P w K mg base "_law_blend" 9 3 (spBlD C CB)) : GnOk P w K mg base 10 f fd ["_law_pot_here"] (lift K (spDr C CB)) := by
  refine gn_dl F sc_dw (fun as Q h => by obtain ⟨rfl, _⟩ := h; rfl) (fun cdv A outer s H hr hG W as Q h => ?_)
  obtain ⟨rfl, q⟩ := h
  have nd := sc_dw.nd
  refine sds_cons (sd_asg (ed_call SZ (hr.mono (j := 3) (by decide)) hG (ad_pot 0 rfl rfl (ad_nil ⟨rfl, fun m d hd => gd_tup rfl (gds_cons (gd_name 1 nd rfl (gds_cons (gd_name 2 nd rfl (gds_nil ?_))))) rfl⟩))))
  obtain ⟨m1, m4, d8⟩ := dom_le hd
  refine sds_cons (sd_par 3 4 rfl nd rfl rfl (by decide) rfl rfl (ad_cons (ed_call LT (hr.mono (j := 3) (by decide)) hG (ad_pot 0 rfl rfl (ad_cons (nm 1 (ad_nil ⟨m, rfl, m1, by omega, fun z hz hm => ad_cons (ed_call PD (hr.mono (j := 7) (by decide)) hG (ad_pot 0 rfl rfl (ad_cons (nm 1 (ad_cons (nm 2 (ad_nil ⟨m, d, rfl, hd, fun ps pk p12 => ad_nil ⟨_, _, rfl, ?_⟩⟩)))))))⟩)))))))
  refine sds_cons (sd_ret (ed_tup (ad_cons (nm 3 (ad_cons (nm 4 (ad_cons (ed_call BL (hr.mono (j := 9) (by decide)) hG (ad_pot 0 rfl rfl (ad_cons (nm 3 (ad_cons (nm 4 (ad_nil ⟨z, m, d, ps, rfl, hz, hm, d8, pk, p12, fun es ge ek so => ad_nil ⟨[.str (SX.S z), .lst (ps.map tI), Bo C CB z d es], rfl, by simp, ?_⟩⟩))))))))))))))
  subst ek
  exact q z m d es hd hz hm ge pk (by rw [List.length_map] at p12; exact p12) so
end
end K21

set_option Elab.async false
set_option linter.all false
set_option maxRecDepth 100000
set_option maxHeartbeats 8000000
/-! [.. for x, y in zip(a text, a tuple) if ..] -/
namespace TZT
open PySem PySem.Spec PyProof.Rows TZ
abbrev ti (b : Addr) : Obj := { cls := .type "tuple_iterator", data := .fields #[.ref b, .int 0 0] }
abbrev n2 (h : Heap) (x : Str) (t : Tok) (b : Addr) : Heap := (m1 h x t).push (ti b)
abbrev n3 (h : Heap) (x : Str) (t : Tok) (b : Addr) : Heap := (n2 h x t b).push { cls := .type "tuple", data := .seq #[.ref h.objs.size, .ref (m1 h x t).objs.size] }
abbrev n4 (h : Heap) (x : Str) (t : Tok) (b : Addr) : Heap := (n3 h x t b).push { cls := .type "tuple", data := .seq #[.none, .none] }
abbrev n5 (h : Heap) (x : Str) (t : Tok) (b : Addr) : Heap := (n4 h x t b).push { cls := .type "zip", data := .fields #[.none, .bool false, .bool false, .ref (n2 h x t b).objs.size, .ref (n3 h x t b).objs.size] }
theorem new_st (x : Str) (t : Tok) (b : Addr) (items : Array Value) (hx : x.cps.all (· < 128) = true) : Meets (Builtin.«zip.__new__» ⟨[.type "zip", .str x t, .ref b], []⟩) (fun _ R s => s.heap.IsTuple b items ∧ R (.ok (.ret (.ref (n4 s.heap x t b).objs.size))) { s with heap := n5 s.heap x t b }) :=
  .of_wp fun prog w A R s h => by
    obtain ⟨hp, g, d, tk, os⟩ := s
    obtain ⟨hl, h⟩ := h
    have hl1 : (hp.push (tio x t)).IsTuple b items := hl.push _
    have hsub := sub_zip
    wp_walk using wpAny_pyIter_ascii hx, wpAny_pyIter_tuple hl1
    exact ⟨_, rfl, h⟩
section
variable {p : Program} {w : World} {A : Around} {E : Value → Shared → Prop} {s : Shared}
structure St (x : Str) (t : Tok) (b z TI TO i1 i2 : Addr) (i : Nat) (h : Heap) : Prop where
  z : IsZip h z TI TO .none
  ti : IsTupOf2 h TI (.ref i1) (.ref i2)
  to : ∃ a b, IsTupOf2 h TO a b
  f : h.IsStrIter i1 "str_ascii_iterator" x t i
  g : h.IsTupleIter i2 b i
theorem zip_st {x : Str} {t : Tok} {b : Addr} {items : Array Value} (hx : x.cps.all (· < 128) = true) (hl : s.heap.IsTuple b items) {Q : Value → Shared → Prop}
    (h : ∀ h', St x t b (s.heap.objs.size + 4) (s.heap.objs.size + 2) (s.heap.objs.size + 3) s.heap.objs.size (s.heap.objs.size + 1) 0 h' → (∀ c o, s.heap.get? c = some o → h'.get? c = some o) → Q (.ref (s.heap.objs.size + 4)) { s with heap := h' }) :
    wpAny (model p w) A (call (.type "zip") [.str x t, .ref b]) Q E s := by
  refine callType_new F.called_zip (by decide) (F.typeCall_zip_2 _ _) (F.newCall_zip_2 _ _) (fun obj => F.args_object_init_3 obj _ _) F.entry_zip_new (new_st x t b items hx) ⟨hl, ?_⟩
  have c1 : (m1 s.heap x t).objs.size = s.heap.objs.size + 1 := Heap.size_push ..
  have c2 : (n2 s.heap x t b).objs.size = s.heap.objs.size + 2 := by rw [Heap.size_push, c1]
  have c3 : (n3 s.heap x t b).objs.size = s.heap.objs.size + 3 := by rw [Heap.size_push, c2]
  have c4 : (n4 s.heap x t b).objs.size = s.heap.objs.size + 4 := by rw [Heap.size_push, c3]
  have d5 : (n5 s.heap x t b).get? (n4 s.heap x t b).objs.size = some _ := Heap.get?_push_size _ rfl
  have d4 : (n5 s.heap x t b).get? (n3 s.heap x t b).objs.size = some _ := Heap.get?_push_of_some _ (Heap.get?_push_size _ rfl)
  have d3 : (n5 s.heap x t b).get? (n2 s.heap x t b).objs.size = some _ := Heap.get?_push_of_some _ (Heap.get?_push_of_some _ (Heap.get?_push_size _ rfl))
  have d2 : (n5 s.heap x t b).get? (m1 s.heap x t).objs.size = some _ := Heap.get?_push_of_some _ (Heap.get?_push_of_some _ (Heap.get?_push_of_some _ (Heap.get?_push_size _ rfl)))
  have d1 : (n5 s.heap x t b).get? s.heap.objs.size = some _ := Heap.get?_push_of_some _ (Heap.get?_push_of_some _ (Heap.get?_push_of_some _ (Heap.get?_push_of_some _ (Heap.get?_push_size _ rfl))))
  show _ ∧ _
  rw [c2, c3, c4] at d5
  rw [c1, c2] at d3
  rw [c3] at d4
  rw [c1] at d2
  rw [c4]
  exact ⟨⟨_, d5, rfl⟩, h _ ⟨d5, d3, ⟨_, _, d4⟩, ⟨_, d1, rfl, rfl⟩, ⟨_, d2, rfl, rfl⟩⟩ fun c o e => Heap.get?_push_of_some _ (Heap.get?_push_of_some _ (Heap.get?_push_of_some _ (Heap.get?_push_of_some _ (Heap.get?_push_of_some _ e))))⟩
end
end TZT
namespace DL
open PySem PySem.Spec PyProof.Rows L2 TZT
/-- a text's signs and a tuple's items, two by two -/
def Itst (K : PySem.W.Frag) (x : Str) (b : Addr) : It := ⟨fun i H => i < x.cps.size ∧ ∃ ys y, SqT K H b ys ∧ ys[i]? = some y, fun i H v H' => ∃ T c y, x.cps[i]? = some c ∧ v = .ref T ∧ H T = none ∧ H' = upd H T (.tup [.str ⟨#[c]⟩, y]) ∧ ∀ ys, SqT K H b ys → ys[i]? = some y,
  fun i H => ∃ ys, SqT K H b ys ∧ i ≤ x.cps.size ∧ i ≤ ys.length ∧ (i = x.cps.size ∨ i = ys.length)⟩
theorem turn_st {P : Program} {w : World} {K : PySem.W.Frag} {elts : List Expr} {kk : Nat} {tpos : Pos} {x : Str} {t : Tok} {b z TI TO i1 i2 : Addr} (D : ZipSep2 z TI TO i1 i2 [i1] [i2, b]) (hb : b ≠ i2) : Turn P w K (.Tuple elts kk tpos) (Itst K x b) [z, TI, TO, i1, i2] z (St x t b z TI TO i1 i2) where
  mem := by simp
  obj := fun i h st c hc => by
    obtain ⟨a, b', hTO⟩ := st.to
    have e : c = z ∨ c = TI ∨ c = TO ∨ c = i1 ∨ c = i2 := by simpa using hc
    rcases e with q | q | q | q | q <;> subst q
    · exact ⟨_, st.z, fun v q => nomatch q⟩
    · exact ⟨_, st.ti, fun v q => nomatch q⟩
    · exact ⟨_, hTO, fun v q => nomatch q⟩
    · obtain ⟨o, e, _, d⟩ := st.f
      exact ⟨o, e, fun v q => by rw [d] at q; cases q⟩
    · obtain ⟨o, e, _, d⟩ := st.g
      exact ⟨o, e, fun v q => by rw [d] at q; cases q⟩
  keep := fun i h h' st k => by
    obtain ⟨a, b', hTO⟩ := st.to
    obtain ⟨o1, e1, r1⟩ := st.f
    obtain ⟨o2, e2, r2⟩ := st.g
    exact ⟨k z (by simp) _ st.z, k TI (by simp) _ st.ti, ⟨a, b', k TO (by simp) _ hTO⟩, ⟨o1, k i1 (by simp) _ e1, r1⟩, ⟨o2, k i2 (by simp) _ e2, r2⟩⟩
  item := by
    intro X hP hw hK hc i pins s σ H E J hf st hg
    subst hP hw hK
    obtain ⟨a, b', hTO⟩ := st.to
    obtain ⟨hi, ys, y, hys, hy⟩ := hg
    obtain ⟨its, rv, pl, _⟩ := J.tuple hys
    obtain ⟨vy, ey, rvy⟩ := rv.get hy
    have zlt : z < s.heap.objs.size := Heap.lt_size st.z
    have hd : X.A.in1.handled = none := J.ok.hd hc
    have il : i < its.toArray.size := by rw [List.size_toArray]; exact (List.getElem?_eq_some_iff.mp ey).1
    refine wpAny_pyNext_zipD2_item D (Draws.strAscii hd i1 x t) (Draws.tuple hd i2 b hb its.toArray) st.z st.ti hTO st.f ⟨st.g, pl⟩ hi il fun v1 v2 h' tk y1 y2 z' t' f' g' T' size' keep => ?_
    obtain ⟨c1, u1, hc1, rfl⟩ := y1
    have e2 : v2 = vy := by
      have : its[i]? = some v2 := by simpa using y2
      rw [ey] at this
      exact (Option.some.inj this).symm
    subst e2
    refine ⟨_, rfl, wpAny_letOwnedTupleGo_zip (s := { s with heap := h', toks := tk }) z' fun h'' z'' sb => ?_⟩
    have T2 : h''.get? s.heap.objs.size = some { cls := .type "tuple", data := .seq #[.str ⟨#[c1]⟩ u1, v2] } := (sb.2 _ (Nat.ne_of_gt zlt)).trans T'
    have new : ObjOk X.prog X.w (upd H s.heap.objs.size (.tup [.str ⟨#[c1]⟩, y])) h'' s.heap.objs.size (.tup [.str ⟨#[c1]⟩, y]) := ⟨by show 2 ≤ sizeLine; decide, [_, _], .cons ⟨u1, rfl⟩ (.cons rvy .nil), ⟨_, T2, rfl, _, rfl⟩⟩
    have far : ∀ c, c ∉ [z, TI, TO, i1, i2] → c ≠ z ∧ c ≠ TO ∧ c ≠ i1 ∧ c ≠ i2 := fun c hb => ⟨fun q => hb (by simp [q]), fun q => hb (by simp [q]), fun q => hb (by simp [q]), fun q => hb (by simp [q])⟩
    have J1 : Inv X pins σ (upd H s.heap.objs.size (.tup [.str ⟨#[c1]⟩, y])) { s with heap := h'', toks := tk } :=
      J.turnedNew (t' := tk) (ch := [z, TI, TO, i1, i2]) (fun c o hb q => let ⟨q1, q2, q3, q4⟩ := far c hb; (sb.2 c q1).trans (keep c o q1 q2 q3 q4 q)) hf (Nat.le_refl _) new
    have s1 : ∀ k, k ≠ z → ∀ o, h'.get? k = some o → h''.get? k = some o := fun k n o e => (sb.2 _ n).trans e
    refine ⟨.ref s.heap.objs.size, _, J1, rfl, ⟨_, c1, y, hc1, rfl, J.hok.fresh (Nat.le_refl _), rfl, fun l hl => by rw [J.tuple_inj hl hys]; exact hy⟩, ⟨z'', s1 _ D.TIz _ (keep _ _ D.TIz D.TITO D.TIi1 D.TIi2 st.ti), ⟨_, _, s1 _ D.TOz _ t'⟩, ?_, ?_⟩, fun c hcm => ?_⟩
    · obtain ⟨o1, e1, r1⟩ := f'
      exact ⟨o1, s1 _ (fun q => D.zf1 (by rw [← q]; exact D.mem1)) _ e1, r1⟩
    · obtain ⟨o1, e1, r1⟩ := g'.1
      exact ⟨o1, s1 _ (fun q => D.zf2 (by rw [← q]; exact D.mem2)) _ e1, r1⟩
    · have lt : c < s.heap.objs.size := by
        have e' : c = z ∨ c = TI ∨ c = TO ∨ c = i1 ∨ c = i2 := by simpa using hcm
        rcases e' with q | q | q | q | q <;> rw [q]
        · exact zlt
        · exact Heap.lt_size st.ti
        · exact Heap.lt_size hTO
        · exact Heap.lt_size st.f.choose_spec.1
        · exact Heap.lt_size st.g.choose_spec.1
      rw [upd_ne (Nat.ne_of_lt lt)]
      exact (hf c hcm).1
  done := by
    intro X hP hw hK hc i pins s σ H E J hf st hg
    subst hP hw hK
    obtain ⟨a, b', hTO⟩ := st.to
    obtain ⟨ys, hys, l1, l2, l3⟩ := hg
    obtain ⟨its, rv, pl, _⟩ := J.tuple hys
    have il : its.toArray.size = ys.length := by rw [List.size_toArray, rv.length]
    have hd : X.A.in1.handled = none := J.ok.hd hc
    exact wpAny_pyNext_zipD2_end D (Draws.strAscii hd i1 x t) (Draws.tuple hd i2 b hb its.toArray) st.z st.ti hTO st.f ⟨st.g, pl⟩ l1 (by omega) (by rw [il]; exact l3) fun h' tk keep =>
      ⟨rfl, J.turnedL (t' := tk) (ch := [z, TI, TO, i1, i2]) (fun c o hb q => keep c o (fun q' => hb (by simp [q'])) (fun q' => hb (by simp [q'])) (fun q' => hb (by simp [q'])) (fun q' => hb (by simp [q'])) q) hf⟩
  self := fun A i s Q E st h => wpAny_pyIter_zip st.z h
theorem sep_st (n b : Nat) (h : b < n) : ZipSep2 (n + 4) (n + 2) (n + 3) n (n + 1) [n] [n + 1, b] := by
  have h0 : n ≠ b := fun e => by rw [e] at h; exact Nat.lt_irrefl _ h
  have h4 : n + 4 ≠ b := fun e => by rw [← e] at h; omega
  have h3 : n + 3 ≠ b := fun e => by rw [← e] at h; omega
  constructor <;> simp [h0, h4, h3]
def iZst (K : PySem.W.Frag) (ta : TA) : TI := fun σ H R => ta σ H fun vs H1 => ∃ x b ys, vs = [.str x, .ref b] ∧ x.cps.all (· < 128) = true ∧ SqT K H1 b ys ∧ R (Itst K x b) H1
theorem pi_st {X : Cx} {e e2 : Expr} {ta : TA} {p pos tpos : Pos} {elts : List Expr} {kk : Nat} (hg : Gl X "zip") (hm : X.mg "zip" = none) (ha : PA X [e, e2] ta)
    (hs : starEach [e, e2] X.env = (false, eval e X.env) :: starEach [e2] X.env) (hpl : (backTo pos (starEach [e2] X.env)).any (·.1) = false) : PI X (.Tuple elts kk tpos) (.Call (.Name "zip" p) [e, e2] [] pos) (iZst X.K ta) := by
  refine ⟨fun pins s σ H R J h => Call_ (ld_blt J hg hm PyProof.Rows.boot_zip (PyProof.Rows.callWith_type1 (thn (ha.run pos pins s σ H _ J h) fun us s1 ⟨vs, H1, J1, rv, q1⟩ => ?_) hs hpl))⟩
  obtain ⟨x, b, ys, rfl, hx, hys, q⟩ := q1
  obtain ⟨v1, v2, rfl, r1, r2⟩ := (show ∃ v1 v2, us = [v1, v2] ∧ RelV (.str x) v1 ∧ RelV (.ref b) v2 from by
    cases rv with
    | cons r rr => cases rr with
      | cons r' rr => cases rr; exact ⟨_, _, rfl, r, r'⟩)
  obtain ⟨t, rfl⟩ := r1
  cases r2
  obtain ⟨its, rv2, pl, _⟩ := J1.tuple hys
  have blt : b < s1.heap.objs.size := by obtain ⟨_, g, _⟩ := id pl; exact Heap.lt_size g
  refine zip_st hx pl fun h' st hk => wpAny_pyIter_zip st.z ?_
  have J2 : Inv X pins σ H1 { s1 with heap := h' } := J1.kept (t' := s1.toks) hk
  refine ⟨s1.heap.objs.size + 4, [s1.heap.objs.size + 4, s1.heap.objs.size + 2, s1.heap.objs.size + 3, s1.heap.objs.size, s1.heap.objs.size + 1], _, _, H1, rfl, J2, turn_st (sep_st _ b blt) (fun e => Nat.lt_irrefl _ (Nat.lt_trans blt (by rw [e]; exact Nat.lt_succ_self _))), st, fun c hc => ?_, q⟩
  have le : s1.heap.objs.size ≤ c := by
    have e : c = s1.heap.objs.size + 4 ∨ c = s1.heap.objs.size + 2 ∨ c = s1.heap.objs.size + 3 ∨ c = s1.heap.objs.size ∨ c = s1.heap.objs.size + 1 := by simpa using hc
    rcases e with q | q | q | q | q <;> rw [q]
    · exact Nat.le_add_right _ _
    · exact Nat.le_add_right _ _
    · exact Nat.le_add_right _ _
    · exact Nat.le_refl _
    · exact Nat.le_add_right _ _
  exact J1.fpOk le (J1.hok.fresh le)
section
variable {X : Cx} {B : Hp} {S : En} {p1 pos px : Pos} {e e2 elt c : Expr} {x : Str}
/-- [elt for x, y in zip(a text, a tuple as long) if c] -/
theorem fd_ftST {s : Str} {l : List D} {y : Str} {py tpos pos1 : Pos} {kk : Nat} {scope : Scope} {own : List (Str × Nat)} {Q : List D → Prop} (t : Nat → Bool) (u : Nat → D) (i j : Nat) (hc : X.calm = true) (hN : X.N.Nodup) (hm : X.mg "zip" = none) (ok : BlkOk X.N X.env.scope scope own) (hg : AllBlk X scope fun Y => PG Y (.Tuple [.Name x px, .Name y py] kk tpos) (gTup X.K 2 (gCons (gName i) (gCons (gName j) gNil))))
    (hs : s.cps.all (· < 128) = true) (hl : s.cps.size ≤ 50000) (hll : s.cps.size = l.length) (h : AD X B S [e, e2] fun as => as = [.val (.str s), .val (.tup l)]) (hi : i ∈ own.map (·.2)) (hj : j ∈ own.map (·.2))
    (ht : ∀ (n c0 : Nat) (d : D), s.cps[n]? = some c0 → l[n]? = some d → AllBlk X scope fun Y => TD Y B ((itE S own i (.str (sg c0))).set j (some (.val d))) c fun b => b = t n)
    (he : ∀ (n c0 : Nat) (d : D), s.cps[n]? = some c0 → l[n]? = some d → AllBlk X scope fun Y => ED Y B ((itE S own i (.str (sg c0))).set j (some (.val d))) elt fun y => y = u n)
    (q : Q (((List.range s.cps.size).filter t).map u)) (hgl : Gl X "zip" := by rfl)
    (hst : starEach [e, e2] X.env = (false, eval e X.env) :: starEach [e2] X.env := by rfl) (hpl : (backTo pos1 (starEach [e2] X.env)).any (·.1) = false := by rfl)
    (hsf : ∀ x, foldedSetIterable (.Call (.Name "zip" p1) [e, e2] [] pos1) X.env x = pure x := by intro _; rfl) : FD X B S (.ListComp elt [⟨.Tuple [.Name x px, .Name y py] kk tpos, .Call (.Name "zip" p1) [e, e2] [] pos1, [c], 0⟩] scope pos) Q := fun σ W H r R k => by
  refine PE.w (pe_lc (te := WEb X scope elt) (tt := WTb X scope c) hc hN (pi_st hgl hm wa_pa hst hpl) ok hg (fun s H C cl fp => pts_one (wtb_pt s H C cl fp)) web_pe hsf) ?_
  refine h σ W H r _ fun as vs W1 H1 s1 ok1 n1 q1 => ?_
  subst q1
  obtain ⟨v1, v2, rfl, m1, m2⟩ := two_args n1
  cases m1
  cases m2 with
  | @tup _ a xs ha m =>
    have hx := SqT.of (K := X.K) (ok1.ex _ _ ha)
    refine ⟨s, a, xs, rfl, hs, hx, fun p hp0 => ?_⟩
    have r1 := r.step s1 ok1
    have ml := m.length
    have wk : Walk (Itst X.K s a) s.cps.size (fun H => SqT X.K H a xs) (fun n H v H' => ∃ T c y, s.cps[n]? = some c ∧ v = .ref T ∧ H T = none ∧ H' = upd H T (.tup [.str ⟨#[c]⟩, y]) ∧ ∀ ys, SqT X.K H a ys → ys[n]? = some y) :=
      ⟨fun i H hi hq => ⟨hi, xs, xs[i]'(by omega), hq, List.getElem?_eq_getElem _⟩, fun H hq => ⟨xs, hq, Nat.le_refl _, by omega, .inl rfl⟩, fun i H x H' _ _ y => y⟩
    refine lc_it wk (fun n H' => ∃ acc W', Mid X.K (gOf X) W1 H1 p acc W' H' ∧ acc.length ≤ n ∧ acc = ((List.range n).filter t).map u) ⟨[], W1, ⟨Stp.own hp0, ok1.own hp0, ok1.notP hp0, ok1.free hp0, [], upd_same, .nil⟩, Nat.le_refl _, rfl⟩ (fun i H' _ ⟨acc, W', mm, _⟩ => SqT.of (mm.ok.ex _ _ (mm.st.I _ _ ha))) ?_ ?_
    · rintro n v H' H2 hn ⟨acc, W', mm, hl2, ea⟩ ⟨T, c0, y, hc', rfl, hT, rfl, hy⟩
      have hxn := hy xs (SqT.of (mm.ok.ex _ _ (mm.st.I _ _ ha)))
      obtain ⟨d, hd', nd⟩ := m.get hxn
      have st := Stp.new (o := .tup [.str ⟨#[c0]⟩, y]) mm.ok hT
      have ok2 := mm.ok.new (o := .tup [.str ⟨#[c0]⟩, y]) hT
      have mm2 := mm.step st ok2
      have r2 := r1.step mm2.st mm2.ok
      refine pat_two i j hi hj (gOf X) B σ _ _ (.ref T) r2 (d := .str (sg c0)) (d' := d) (.tup (show upd W'.I T _ T = _ from upd_same) (.cons (.str _) (.cons ((nd.mono mm.st.I).mono st.I) .nil))) _ fun σ2 e2 r3 => ⟨e2, ?_⟩
      show WTb X scope c σ2 _ _
      intro s' H0 C cl fp
      refine ht n c0 d hc' hd' s' H0 C cl fp σ2 _ _ r3 _ fun b W2 H2 s2 ok2 q2 => ?_
      have er : ((List.range (n + 1)).filter t).map u = acc ++ if t n = true then [u n] else [] := by
        rw [List.range_succ, List.filter_append, List.map_append, ← ea]
        congr 1
        cases hb : t n <;> simp [hb]
      subst q2
      cases hb : t n with
      | false =>
        rw [hb] at er
        exact iteF ⟨acc, W2, mm2.step s2 ok2, Nat.le_succ_of_le hl2, by rw [er]; simp⟩
      | true =>
        rw [hb] at er
        refine iteT ?_
        show WEb X scope elt σ2 _ _
        intro s' H0 C cl fp
        refine he n c0 d hc' hd' s' H0 C cl fp σ2 _ _ (r3.step s2 ok2) _ fun y W3v W3 H3 s3 ok3 n3 q3 => ?_
        obtain ⟨xs', e1, e3, m3⟩ := ((mm2.step s2 ok2).step s3 ok3).more hp0 n3 (by omega)
        exact ⟨xs', e1, e3, _, W3, m3, by simp only [List.length_append, List.length_singleton]; omega, by rw [er, q3]; simp⟩
    · rintro H' ⟨acc, W', mm, hl2, ea⟩
      obtain ⟨ys, hH, ds⟩ := mm.h
      exact k acc p ys W' H' (s1.trans ok1 mm.st) mm.ok (s1.free ok1 hp0) mm.n mm.i hH ds (by rw [ea]; exact q)
end
end DL

set_option Elab.async false
set_option linter.all false
set_option maxRecDepth 100000
set_option maxHeartbeats 8000000
/-! a text in a list of texts; a sorted list of texts that is new -/
namespace DL
open PySem PySem.Spec PyProof.Rows L2
section
variable {X : Cx} {B : Hp} {S : En} {e : Expr} {p pos : Pos}
theorem inV_strs {i : Str} : ∀ l : List Str, inV (.str i) (l.map V.str) = decide (i ∈ l)
  | [] => by simp [inV]
  | j :: l => by
    have := inV_strs (i := i) l
    unfold inV at this ⊢
    rw [List.map_cons, List.any_cons, this]
    by_cases h : j = i
    · subst h; simp [eqV]
    · have h' : ¬ i = j := fun z => h z.symm
      simp [eqV, h, h']
theorem od_ninStr {Q : D → Prop} {i : Str} {l : List Str} (q : Q (.bl (!decide (i ∈ l)))) : OD X (compareOp .NotIn) (.str i) (.lst (l.map D.str)) Q := od_of op_notIn_seq fun v u W H ok h1 h2 R c => by
  cases h1
  have hf : (l.map V.str).all flatV = true := by rw [List.all_map, List.all_eq_true]; intros; rfl
  cases h2 with
  | lst h m =>
    rw [dns_txts m] at h
    exact ⟨_, _, rfl, .inl (SqL.of (ok.ex _ _ h)), rfl, hf, by rw [inV_strs]; exact c.now ok (.bl _) q⟩
theorem fd_sortLS {Q : List D → Prop} {xs : List Str} (hm : X.mg "sorted" = none) (h64 : xs.length < 64) (h : ED X B S e fun y => y = .lst (xs.map D.str)) (q : ∀ ys : List Str, ys.Perm xs → sortedS ys = true → Q (ys.map D.str))
    (hps : X.mg "sorted" = none → PE X (.Call (.Name "sorted" p) [e] [] pos) (tCB (rSortedS X.K) (tCons (WE X e) tNil)) := by
      exact fun hm => pe_callB cr_sortedS rfl hm (by first | rfl | decide +kernel) (pa_cons DL.we_pe pa_nil)) : FD X B S (.Call (.Name "sorted" p) [e] [] pos) Q := fun σ W H r R k => by
  refine PE.w (hps hm) ?_
  refine h σ W H r _ fun y v W1 H1 s1 ok1 n1 q1 => ?_
  subst q1
  cases n1 with
  | @lst _ a ws hp m =>
    rw [dns_txts m] at hp
    refine ⟨a, xs, rfl, SqL.of (ok1.ex _ _ hp), h64, fun ys p p1 p2 hn => ?_⟩
    exact k _ p _ W1 _ (s1.trans ok1 (Stp.own hn)) (ok1.own hn) (s1.free ok1 hn) (ok1.notP hn) (ok1.free hn) upd_same (strs_dns _) (q ys p1 p2)
end
end DL

set_option Elab.async false
set_option linter.all false
set_option maxRecDepth 100000
set_option maxHeartbeats 8000000
/-! k21: the letters of a product, lots tied -/
namespace K21
open PySem L2 DL M21
def pl (k : List Int) : List Nat := (List.range k.length).filter fun a => decide (0 < k.getD a 0)
def tx (z l : List Nat) : Str := SX.S (l.map fun a => z.getD a 0)
theorem mem_pl {k : List Int} {a : Nat} : a ∈ pl k ↔ a < k.length ∧ 0 < k.getD a 0 := by simp [pl]
theorem tx_cps (z l : List Nat) : (tx z l).cps.toList = l.map fun a => z.getD a 0 := by simp [tx]
theorem zg_lt {z : List Nat} (hz : LetZ z) {a b : Nat} (h : a < b) (hb : b < z.length) : z.getD a 0 < z.getD b 0 := by
  rw [List.getD_eq_getElem?_getD, List.getD_eq_getElem?_getD, List.getElem?_eq_getElem hb, List.getElem?_eq_getElem (Nat.lt_trans h hb)]
  exact List.pairwise_iff_getElem.mp hz.up a b _ _ h
theorem zg_inj {z : List Nat} (hz : LetZ z) {a b : Nat} (ha : a < z.length) (hb : b < z.length) (h : z.getD a 0 = z.getD b 0) : a = b := by
  rcases Nat.lt_trichotomy a b with q | q | q
  · have := zg_lt hz q hb
    omega
  · exact q
  · have := zg_lt hz q ha
    omega
theorem zg_mem {z : List Nat} (hz : LetZ z) {l : List Nat} (hl : ∀ a ∈ l, a < z.length) {a : Nat} (ha : a < z.length) : z.getD a 0 ∈ l.map (fun a => z.getD a 0) ↔ a ∈ l := by
  rw [List.mem_map]
  constructor
  · rintro ⟨b, hb, e⟩
    rw [zg_inj hz ha (hl b hb) e.symm]
    exact hb
  · exact fun h => ⟨a, h, rfl⟩
theorem map_inj_on {α β : Type} {f : α → β} {P : α → Prop} (hf : ∀ a b, P a → P b → f a = f b → a = b) : ∀ {l m : List α}, (∀ a ∈ l, P a) → (∀ a ∈ m, P a) → l.map f = m.map f → l = m
  | [], [], _, _, _ => rfl
  | [], b :: m, _, _, h => by cases h
  | a :: l, [], _, _, h => by cases h
  | a :: l, b :: m, h1, h2, h => by
    rw [List.map_cons, List.map_cons] at h
    obtain ⟨e1, e2⟩ := List.cons.inj h
    rw [hf a b (h1 a (List.mem_cons_self ..)) (h2 b (List.mem_cons_self ..)) e1, map_inj_on hf (fun x hx => h1 x (List.mem_cons_of_mem _ hx)) (fun x hx => h2 x (List.mem_cons_of_mem _ hx)) e2]
theorem tx_inj {z : List Nat} (hz : LetZ z) {l m : List Nat} (hl : ∀ a ∈ l, a < z.length) (hm : ∀ a ∈ m, a < z.length) (h : tx z l = tx z m) : l = m := by
  have : l.map (fun a => z.getD a 0) = m.map fun a => z.getD a 0 := by rw [← tx_cps, ← tx_cps, h]
  exact map_inj_on (P := fun a => a < z.length) (fun a b ha hb e => zg_inj hz ha hb e) hl hm this
end K21
namespace M21
open K21
theorem Gd.few {m : Nat} {L : List (List Nat)} (g : Gd m L) : L.length ≤ m := by
  have nd : (L.map M21.hd).Nodup := by
    refine List.pairwise_map.mpr (g.dj.imp_of_mem fun {a b} ha hb h e => ?_)
    exact h _ (hd_mem (g.ne a ha)) (by rw [e]; exact hd_mem (g.ne b hb))
  have := subset_len (m := List.range m) nd fun x hx => by
    obtain ⟨l, hl, rfl⟩ := List.mem_map.mp hx
    exact List.mem_range.mpr (g.lt l hl _ (hd_mem (g.ne l hl)))
  rwa [List.length_map, List.length_range] at this
theorem Gd.sub {m : Nat} {L L' : List (List Nat)} (g : Gd m L) (s : L'.Sublist L) : Gd m L' := ⟨fun l h => g.asc l (s.subset h), fun l h => g.ne l (s.subset h), fun l h => g.lt l (s.subset h), g.dj.sublist s⟩
end M21
namespace K21
open PySem L2 DL M21
section
variable {P : Program} {w : World} {K : PySem.W.Frag} {mg : Str → Option Value} {base : Heap} {C CB : Addr}
/-! the letters of a product -/
abbrev spLo (C CB : Addr) : SpD := fun as Q => ∃ z n es, ∃ k : List Int, as = [.val (Bo C CB z n es), .val (tI k)] ∧ LetZ z ∧ k.length = z.length ∧ Q (.str (tx z (pl k)))
abbrev NLo : List Str := ["blend", "counts", "letter", "count"]
theorem sc_lo : FnScope NLo ["blend", "counts"] (defScope (top 40)) := ⟨rfl, rfl, rfl, by decide +kernel, rfl, by decide +kernel, by decide +kernel⟩
theorem ok_lo {f : Addr} {fd : FuncData} (F : FunS K "_letters_of" "_letters_of" (top 40) f fd) (V : Bt P w K mg base C CB) (hzip : mg "zip" = none) : GnOk P w K mg base 3 f fd ["blend", "counts"] (lift K (spLo C CB)) := by
  refine gn_dl F sc_lo (fun as Q h => by obtain ⟨_, _, _, _, rfl, _⟩ := h; rfl) (fun cdv A outer s H hr hG W as Q h => ?_)
  obtain ⟨z, n, es, k, rfl, hz, hk, q⟩ := h
  have nd := sc_lo.nd
  have hk' : (SX.S z).cps.size = (k.map D.int).length := by rw [List.length_map, hk]; simp
  refine sds_cons (sd_ret (ed_joinS (ed_str ⟨rfl, ed_fd (fd_ftST (s := SX.S z) (l := k.map D.int) (fun a => decide (0 < k.getD a 0)) (fun a => .str (sg (z.getD a 0))) 2 3 (own := [("letter", 2), ("count", 3)]) rfl nd hzip (blkOk_by (by show blkC NLo (defScope (top 40)) _ _ = true; decide +kernel)) (fun _ _ _ _ _ => pg_tup rfl (pgs_cons (pg_name (i := 2) nd rfl (Or.inl rfl)) (pgs_cons (pg_name (i := 3) nd rfl (Or.inl rfl)) pgs_nil rfl) rfl)) hz.asc (by have := hz.l8; simp; omega) hk' (ad_cons (pL V (hr.mono (j := 2) (by decide)) hG (nm 0 ⟨rfl, ad_cons (nm 1 (ad_nil rfl))⟩))) (by simp) (by simp) ?_ ?_ ?_)⟩)))
  · intro a c d hc hd s2 H0 C2 cl fp
    rw [List.getElem?_map] at hd
    obtain ⟨i, hi, rfl⟩ := Option.map_eq_some_iff.mp hd
    refine td_cmp (nm 3 (ed_int (od_gt (kB ?_))))
    rw [List.getD_eq_getElem?_getD, hi]
    rfl
  · intro a c d hc hd s2 H0 C2 cl fp
    refine nm 2 ?_
    have : z[a]? = some c := by simpa using hc
    rw [List.getD_eq_getElem?_getD, this]
    rfl
  · have e : (List.range (SX.S z).cps.size).filter (fun a => decide (0 < k.getD a 0)) = pl k := by
      unfold pl
      rw [hk]
      simp
    refine ⟨((pl k).map fun a => z.getD a 0).map sg, ?_, ?_, ?_⟩
    · rw [e, List.map_map, List.map_map]
      rfl
    · rw [sum_ones, show (Str.ofString "").length = 0 from rfl, Nat.mul_zero]
      have : (pl k).length ≤ k.length := by
        have := List.length_filter_le (fun a => decide (0 < k.getD a 0)) (List.range k.length)
        rw [List.length_range] at this
        exact this
      have := hz.l8
      rw [List.length_map]
      omega
    · rw [join_sg]
      exact q
/-! lots tied -/
theorem any_meets {z : List Nat} (hz : LetZ z) {R l : List Nat} (hR : ∀ a ∈ R, a < z.length) (hl : ∀ a ∈ l, a < z.length) : ((tx z R).cps.toList.map fun c => decide (c ∈ (tx z l).cps.toList)).any id = meets R l := by
  rw [tx_cps, tx_cps, List.map_map, Bool.eq_iff_iff, meets_iff]
  simp only [List.any_map, List.any_eq_true, Function.comp_apply, id_eq, decide_eq_true_eq]
  constructor
  · rintro ⟨a, ha, h⟩
    exact ⟨a, (zg_mem hz hl (hR a ha)).mp h, ha⟩
  · rintro ⟨a, h1, h2⟩
    exact ⟨a, h2, (zg_mem hz hl (hl a h1)).mpr h1⟩
theorem paired_bl {g : Nat → Bool} : ∀ {cs : List Nat} {out : List D}, Paired (fun c y => y = .bl (g c)) cs out → out = (cs.map g).map D.bl
  | _, _, .nil => rfl
  | _, _, .cons h t => by
    rw [h, paired_bl t]
    rfl
theorem join_all : ∀ (ls : List Str), (Txt.join ("" : Str) ls).cps.toList = ls.flatMap fun s => s.cps.toList
  | [] => rfl
  | x :: l => glue_fold l x.cps
theorem flat_nd {m : Nat} {L : List (List Nat)} (g : Gd m L) : L.flatten.Nodup := by
  refine List.pairwise_flatten.mpr ⟨fun l hl => (g.asc l hl).nd, g.dj.imp fun h x hx y hy e => h x hx (by rw [e]; exact hy)⟩
/-- the met lots' letters, sorted -/
theorem tied_text {z : List Nat} (hz : LetZ z) {N : List (List Nat)} (g : Gd z.length N) {ys : List Str} (p : ys.Perm ((Txt.join ("" : Str) (N.map (tx z))).cps.toList.map sg)) (so : PyProof.Rows.sortedS ys = true) : ys = ((ss z.length N.flatten).map fun a => z.getD a 0).map sg := by
  have e : (Txt.join ("" : Str) (N.map (tx z))).cps.toList = N.flatten.map fun a => z.getD a 0 := by
    rw [join_all, List.flatMap_map]
    have : ∀ N : List (List Nat), (N.flatMap fun l => (tx z l).cps.toList) = N.flatten.map fun a => z.getD a 0 := fun N => by
      induction N with
      | nil => rfl
      | cons l N ih => rw [List.flatMap_cons, ih, tx_cps, List.flatten_cons, List.map_append]
    exact this N
  rw [e] at p
  obtain ⟨us, rfl, pu⟩ := perm_map_inv p
  have lt : ∀ a ∈ N.flatten, a < z.length := fun a ha => by
    obtain ⟨l, hl, ha⟩ := List.mem_flatten.mp ha
    exact g.lt l hl a ha
  have nd : (N.flatten.map fun a => z.getD a 0).Nodup := by
    refine List.pairwise_map.mpr ((flat_nd g).imp_of_mem fun {a b} ha hb ne e => ne (zg_inj hz (lt a ha) (lt b hb) e))
  have s2 := List.pairwise_map.mp (sorted_hd so fun s hs => by obtain ⟨c, _, rfl⟩ := List.mem_map.mp hs; exact List.cons_ne_nil _ _)
  have s3 : us.Pairwise (· < ·) := (s2.and (pu.nodup_iff.mpr nd)).imp fun {a b} h => by
    have h1 : a ≤ b := h.1
    have := h.2
    omega
  have s4 : ((ss z.length N.flatten).map fun a => z.getD a 0).Pairwise (· < ·) := List.pairwise_map.mpr ((asc_ss z.length N.flatten).imp_of_mem fun {a b} ha hb h => zg_lt hz h (mem_ss.mp hb).1)
  congr 1
  refine asc_ext s3 s4 fun c => ?_
  rw [pu.mem_iff, List.mem_map, List.mem_map]
  constructor
  · rintro ⟨a, ha, rfl⟩
    exact ⟨a, mem_ss.mpr ⟨lt a ha, ha⟩, rfl⟩
  · rintro ⟨a, ha, rfl⟩
    exact ⟨a, (mem_ss.mp ha).2, rfl⟩
abbrev spTi : SpD := fun as Q => ∃ z T R, as = [.val (.lst ((T.map (tx z)).map D.str)), .val (.str (tx z R))] ∧ LetZ z ∧ Gd z.length T ∧ R.length ≤ 8 ∧ (∀ a ∈ R, a < z.length) ∧ Q (.lst (((stepT z.length T R).map (tx z)).map D.str))
abbrev NTi : List Str := ["lots", "letters", "met", "lot", "letter"]
theorem sc_ti : FnScope NTi ["lots", "letters"] (defScope (top 41)) := ⟨rfl, rfl, rfl, by decide +kernel, rfl, by decide +kernel, by decide +kernel⟩
theorem ok_ti {f : Addr} {fd : FuncData} (F : FunS K "_tied" "_tied" (top 41) f fd) (T0 : Txt K mg C) (hany : mg "any" = none) (hs : mg "sorted" = none) : GnOk P w K mg base 1 f fd ["lots", "letters"] (lift K spTi) := by
  refine gn_dl F sc_ti (fun as Q h => by obtain ⟨_, _, _, rfl, _⟩ := h; rfl) (fun cdv A outer s H hr hG W as Q h => ?_)
  obtain ⟨z, T, R, rfl, hz, g, r8, hR, q⟩ := h
  have nd := sc_ti.nd
  have few := g.few
  have z8 := hz.l8
  refine sds_cons (sd_set 2 nd rfl (ed_fd (fd_ft (d0 := .lst ((T.map (tx z)).map D.str)) (f := fun l => D.str (tx z l)) (u := fun l => D.str (tx z l)) (t := fun l => meets R l) (l := T) 3 rfl nd (own := [("lot", 3)]) (blkOk_by (by show blkC NTi (defScope (top 41)) _ _ = true; decide +kernel)) (fun _ _ _ _ _ => pg_name (i := 3) nd rfl (Or.inr rfl)) (by simp) (by omega) (.inl (by rw [List.map_map]; rfl)) (nm 0 rfl) ?_ ?_ ?_)))
  · intro l hl s2 H0 C2 cl fp
    refine td_val (ed_callB hany (ad_cons (ed_fd (fd_relC (s := tx z R) (fun c y => y = .bl (decide (c ∈ (tx z l).cps.toList))) 4 (own := [("letter", 4)]) rfl nd (blkOk_in (N := NTi) (blkOk_by (by decide +kernel))) (fun _ _ _ _ _ => pg_name (i := 4) nd rfl (Or.inl rfl)) (by simp [tx]; omega) (nm 1 rfl) (by simp) ?_ fun out ho => ?_))))
    · intro i c hc s3 H3 C3 cl3 fp3
      exact ed_cmp (nm 4 (nm 3 (od_inS rfl)))
    · rw [paired_bl ho]
      refine ad_nil (cd_any rfl (kB ?_))
      rw [any_meets hz hR (g.lt l hl)]
  · intro l hl _ s2 H0 C2 cl fp
    exact nm 3 rfl
  have en : (T.filter fun l => meets R l) = near T R := rfl
  rw [en]
  have gn : Gd z.length (near T R) := g.sub List.filter_sublist
  have fn := gn.few
  refine sds_cons (sd_if (td_cmp (ed_callB T0.len (ad_cons (nm 2 (ad_nil (cd_len (l := (near T R).map fun l => D.str (tx z l)) (.inl rfl) (ed_int (od_le (kB ?_))))))))))
  rw [List.length_map]
  by_cases c : (near T R).length ≤ 1
  · rw [decide_eq_true (by omega)]
    show SDs _ _ _ _ _ _
    refine sds_cons (sd_ret (nm 0 ?_))
    have e : stepT z.length T R = T := by unfold stepT; rw [if_pos c]
    rw [e] at q
    exact q
  · rw [decide_eq_false (by omega)]
    show SDs _ _ _ _ _ _
    have e : stepT z.length T R = far T R ++ [ss z.length (near T R).flatten] := by unfold stepT; rw [if_neg c]
    rw [e] at q
    refine sds_nil (sds_cons (sd_ret (ed_bin (ed_fd (fd_ft (d0 := .lst ((T.map (tx z)).map D.str)) (f := fun l => D.str (tx z l)) (u := fun l => D.str (tx z l)) (t := fun l => !meets R l) (l := T) 3 rfl nd (own := [("lot", 3)]) (blkOk_by (by show blkC NTi (defScope (top 41)) _ _ = true; decide +kernel)) (fun _ _ _ _ _ => pg_name (i := 3) nd rfl (Or.inl rfl)) (by simp) (by omega) (.inl (by rw [List.map_map]; rfl)) (nm 0 rfl) ?_ ?_ (ed_lst ?_))))))
    · intro l hl s2 H0 C2 cl fp
      refine td_cmp (nm 3 (nm 2 ?_))
      rw [show ((near T R).map fun l => D.str (tx z l)) = ((near T R).map (tx z)).map D.str by rw [List.map_map]; rfl]
      refine od_ninStr (kB ?_)
      congr 1
      rw [Bool.eq_iff_iff, decide_eq_true_eq, List.mem_map]
      constructor
      · rintro ⟨k, hk, ek⟩
        rw [tx_inj hz (gn.lt k hk) (g.lt l hl) ek] at hk
        exact (mem_near.mp hk).2
      · exact fun h => ⟨l, mem_near.mpr ⟨hl, h⟩, rfl⟩
    · intro l hl _ s2 H0 C2 cl fp
      exact nm 3 rfl
    · have fl : (near T R).flatten.length ≤ z.length := by
        have := subset_len (m := List.range z.length) (flat_nd gn) fun x hx => by
          obtain ⟨l, hl, hx⟩ := List.mem_flatten.mp hx
          exact List.mem_range.mpr (gn.lt l hl x hx)
        rwa [List.length_range] at this
      have jl : (Txt.join ("" : Str) ((near T R).map (tx z))).cps.toList.length = (near T R).flatten.length := by
        rw [join_all, List.flatMap_map, List.length_flatten, List.length_flatMap]
        congr 1
        refine List.map_congr_left fun l _ => ?_
        rw [tx_cps, List.length_map]
      have sl : (((near T R).map (tx z)).map fun s : Str => s.length).sum = (near T R).flatten.length := by
        rw [List.length_flatten, List.map_map]
        congr 1
        refine List.map_congr_left fun l _ => ?_
        show (tx z l).cps.size = l.length
        simp [tx]
      refine ad_cons (ed_joinS (ed_str ⟨rfl, ed_callB hs (ad_cons (ed_joinS (ed_str ⟨rfl, nm 2 ⟨(near T R).map (tx z), by rw [List.map_map], by rw [sl, show (Str.ofString "").length = 0 from rfl, Nat.mul_zero]; omega, ad_nil (cd_sortS rfl (by rw [← Array.length_toList, jl]; omega) fun ys p so => ⟨ys, rfl, ?_⟩)⟩⟩)))⟩))
      rw [tied_text hz gn p so, sum_ones, join_sg, show (Str.ofString "").length = 0 from rfl, Nat.mul_zero]
      refine ⟨?_, ad_nil ⟨[.str (tx z (ss z.length (near T R).flatten))], rfl, by simp, od_catL ?_ ?_⟩⟩
      · have := List.length_filter_le (fun a => decide (a ∈ (near T R).flatten)) (List.range z.length)
        rw [List.length_range] at this
        rw [List.length_map]
        show (ss z.length (near T R).flatten).length + 0 ≤ _
        unfold ss
        omega
      · have := List.length_filter_le (fun l => !meets R l) T
        rw [List.length_map, List.length_singleton]
        omega
      · rw [List.map_append, List.map_append, List.map_map] at q
        exact q
end
end K21

set_option Elab.async false
set_option linter.all false
set_option maxRecDepth 100000
set_option maxHeartbeats 8000000
/-! k21: pieces, is_whole, halves -/
namespace K21
open PySem L2 DL M21
abbrev plE (es : List Ent) : List (List Nat) := es.map fun e => pl e.1
def pcs (z : List Nat) (es : List Ent) : List Str := (byHd (allL z.length (plE es))).map (tx z)
theorem pl_lt {m n b : Nat} {es : List Ent} (ge : GE m n b es) : ∀ P ∈ plE es, ∀ a ∈ P, a < m := fun P hP a ha => by
  obtain ⟨e, he, rfl⟩ := List.mem_map.mp hP
  rw [← ge.len e he]
  exact (mem_pl.mp ha).1
theorem bears_singles {z : List Nat} {m n b : Nat} {es : List Ent} (hm : z.length = m) (ge : GE m n b es) : (bzN z es m).map sg = (singles m (plE es)).map (tx z) := by
  have e1 : bzN z es m = ((List.range m).filter fun a => stb es a).map fun a => z.getD a 0 := by
    unfold bzN
    have : ∀ l : List Nat, (l.flatMap fun a => if stb es a = true then [z.getD a 0] else []) = (l.filter fun a => stb es a).map fun a => z.getD a 0 := fun l => by
      induction l with
      | nil => rfl
      | cons x l ih =>
        rw [List.flatMap_cons, ih]
        cases h : stb es x <;> simp [List.filter_cons, h]
    exact this _
  have e2 : (List.range m).filter (fun a => stb es a) = (List.range m).filter fun a => (plE es).any fun P => decide (a ∈ P) := by
    refine List.filter_congr fun a ha => ?_
    have am := List.mem_range.mp ha
    unfold stb
    rw [Bool.eq_iff_iff]
    simp only [List.any_map, List.any_eq_true, Function.comp_apply, id_eq, decide_eq_true_eq]
    constructor
    · rintro ⟨e, he, h⟩
      exact ⟨e, he, mem_pl.mpr ⟨by rw [ge.len e he]; exact am, h⟩⟩
    · rintro ⟨e, he, h⟩
      exact ⟨e, he, (mem_pl.mp h).2⟩
  rw [e1, e2, singles, List.map_map, List.map_map]
  rfl
theorem hdS_tx {z l : List Nat} (h : l ≠ []) : hdS (tx z l) = z.getD (M21.hd l) 0 := by
  unfold hdS
  rw [tx_cps]
  cases l with
  | nil => exact absurd rfl h
  | cons a l => rfl
theorem pcs_of {z : List Nat} (hz : LetZ z) {L T : List (List Nat)} (g : Gd z.length L) (pT : T.Perm L) {ys : List Str} (p : ys.Perm (T.map (tx z))) (so : PyProof.Rows.sortedS ys = true) : ys = (byHd L).map (tx z) := by
  obtain ⟨A, rfl, pA⟩ := perm_map_inv p
  have pL := pA.trans pT
  have s2 := List.pairwise_map.mp (sorted_hd so fun s hs => by
    obtain ⟨l, hl, rfl⟩ := List.mem_map.mp hs
    rw [tx_cps]
    intro e
    exact g.ne l (pL.mem_iff.mp hl) (List.map_eq_nil_iff.mp e))
  rw [g.by_hd pL (s2.imp_of_mem fun {a b} ha hb h => ?_)]
  have na := g.ne a (pL.mem_iff.mp ha)
  have nb := g.ne b (pL.mem_iff.mp hb)
  rw [hdS_tx na, hdS_tx nb] at h
  rcases Nat.lt_or_ge (M21.hd b) (M21.hd a) with q | q
  · have := zg_lt hz q (g.lt a (pL.mem_iff.mp ha) _ (hd_mem na))
    omega
  · exact q
theorem pcs_len {z : List Nat} {m n b : Nat} {es : List Ent} (hm : z.length = m) (ge : GE m n b es) : (pcs z es).length ≤ m := by
  subst hm
  unfold pcs byHd
  rw [List.length_map, List.length_mergeSort]
  exact (same_lots (pl_lt ge)).1.few
section
variable {P : Program} {w : World} {K : PySem.W.Frag} {mg : Str → Option Value} {base : Heap} {C CB : Addr}
/-- what the pieces are told of -/
structure OPi (P : Program) (w : World) (K : PySem.W.Frag) (mg : Str → Option Value) (base : Heap) (C CB : Addr) : Prop where
  V : Bt P w K mg base C CB
  lo : Df P w K mg base "_letters_of" 3 2 (spLo C CB)
  ti : Df P w K mg base "_tied" 1 2 spTi
  br : Mt P w K mg base CB "bears" 2 (spBrs C CB)
  srt : mg "sorted" = none
abbrev spPi (C CB : Addr) : SpD := fun as Q => ∃ z, ∃ m n b : Nat, ∃ es, as = [.val (Bo C CB z n es)] ∧ LetZ z ∧ z.length = m ∧ n ≤ 8 ∧ b ≤ 1000 ∧ GE m n b es ∧ Q (.lst ((pcs z es).map D.str))
abbrev spPiN (C CB : Addr) : SpN := fun as Q => ∃ z, ∃ m n b : Nat, ∃ es, as = [.val (Bo C CB z n es)] ∧ LetZ z ∧ z.length = m ∧ n ≤ 8 ∧ b ≤ 1000 ∧ GE m n b es ∧ Q ((pcs z es).map D.str)
abbrev NPi : List Str := ["blend", "lots", "counts", "_"]
theorem sc_pi : FnScope NPi ["blend"] (defScope (top 37)) := ⟨rfl, rfl, rfl, by decide +kernel, rfl, by decide +kernel, by decide +kernel⟩
def stN (st : Stmt) (i : Nat) : Stmt := (defBody st).getD i (.Pass ⟨0, 0, 0, 0⟩)
section
variable {f : Addr} {cdv : Value} {A : Around} {outer : List Env} {s : Shared} {H : Hp} {W : Wd} {z : List Nat} {m n b : Nat} {es : List Ent}
abbrev XPi (P : Program) (w : World) (K : PySem.W.Frag) (mg : Str → Option Value) (base : Heap) (f : Addr) (cdv : Value) (A : Around) (outer : List Env) (s : Shared) (H : Hp) := Bx P w K mg base NPi "pieces" (top 37) f cdv A outer s H
theorem pi0 (O : OPi P w K mg base C CB) (hr : Room 3 (XPi P w K mg base f cdv A outer s H).A) (hG : (XPi P w K mg base f cdv A outer s H).A.guards = some (gOf (XPi P w K mg base f cdv A outer s H))) {E : Ends'} (q : E.nx [some (.val (Bo C CB z n es)), none, none, none]) : SD (XPi P w K mg base f cdv A outer s H) H W [some (.val (Bo C CB z n es)), none, none, none] (stN (top 37) 0) E :=
  sd_expr (ed_call O.V.ck (hr.mono (j := 1) (by decide)) hG (ad_cons (nm 0 (ad_nil ⟨z, n, es, rfl, q⟩))))
theorem pi1 (O : OPi P w K mg base C CB) (hr : Room 3 (XPi P w K mg base f cdv A outer s H).A) (hG : (XPi P w K mg base f cdv A outer s H).A.guards = some (gOf (XPi P w K mg base f cdv A outer s H))) (hz : LetZ z) (hm : z.length = m) (ge : GE m n b es) {E : Ends'} (q : E.nx [some (.val (Bo C CB z n es)), some (.val (.lst (((singles m (plE es)).map (tx z)).map D.str))), none, none]) : SD (XPi P w K mg base f cdv A outer s H) H W [some (.val (Bo C CB z n es)), none, none, none] (stN (top 37) 1) E := by
  have nd := sc_pi.nd
  refine sd_set 1 nd rfl (ed_fd (fd_listS O.V.L.V.T.list (ed_meth0 O.V.T.nu.cl O.br (hr.mono (j := 2) (by decide)) hG (nm 0 ⟨bf C z n es, rfl, lkN (by decide +kernel) (by decide +kernel) (by decide +kernel), z, m, n, b, es, rfl, hz, hm, ge, _, rfl, ?_, ?_⟩))))
  · rw [join_sg]
    have := bzN_len z es m
    have := hz.l8
    simp
    omega
  · rw [join_sg]
    have e : (SX.S (bzN z es m)).cps.toList = bzN z es m := by simp
    rw [e, bears_singles hm ge]
    exact q
theorem pi2 (O : OPi P w K mg base C CB) (hr : Room 3 (XPi P w K mg base f cdv A outer s H).A) (hG : (XPi P w K mg base f cdv A outer s H).A.guards = some (gOf (XPi P w K mg base f cdv A outer s H))) (hz : LetZ z) (hm : z.length = m) (ge : GE m n b es) {E : Ends'} (q : ∀ o2 o3, E.nx [some (.val (Bo C CB z n es)), some (.val (.lst (((allT m (singles m (plE es)) (plE es)).map (tx z)).map D.str))), o2, o3]) : SD (XPi P w K mg base f cdv A outer s H) H W [some (.val (Bo C CB z n es)), some (.val (.lst (((singles m (plE es)).map (tx z)).map D.str))), none, none] (stN (top 37) 2) E := by
  have nd := sc_pi.nd
  have T := O.V.L.V.T
  refine sd_forL (l := enD C es) PassesOwn.never rfl (fun i S' => ∃ o2 o3, S' = [some (.val (Bo C CB z n es)), some (.val (.lst (((allT m (singles m (plE es)) ((plE es).take i)).map (tx z)).map D.str))), o2, o3]) (mE O.V ge (hr.mono (j := 1) (by decide)) hG (nm 0 ⟨rfl, rfl, none, none, rfl⟩)) ?_ ?_
  · rintro i dk S' hi ⟨o2, o3, rfl⟩
    have hi' : (es.map fun e => D.tup [tI e.1, Ra C (fr e.2)])[i]? = some dk := hi
    rw [List.getElem?_map] at hi'
    obtain ⟨e, he, rfl⟩ := Option.map_eq_some_iff.mp hi'
    have em := List.mem_of_getElem? he
    have hP : (plE es)[i]? = some (pl e.1) := by rw [List.getElem?_map, he]; rfl
    have g := gd_upto (pl_lt ge) i
    have few := g.few
    have l8 := hz.l8
    have es1 := allT_succ (m := m) (T := singles m (plE es)) hP
    have le := ge.len e em
    have pll : (pl e.1).length ≤ 8 := by
      have := List.length_filter_le (fun a => decide (0 < e.1.getD a 0)) (List.range e.1.length)
      rw [List.length_range] at this
      show ((List.range e.1.length).filter fun a => decide (0 < e.1.getD a 0)).length ≤ 8
      omega
    refine gd_tup rfl (gds_cons (gd_name 2 nd rfl (gds_cons (gd_name 3 nd rfl (gds_nil ?_))))) rfl
    refine sds_cons (sd_if (td_cmp (ed_callB T.len (ad_cons (nm 1 (ad_nil (cd_len (.inl rfl) (ed_int (od_gt (kB ?_))))))))))
    rw [List.length_map, List.length_map]
    by_cases c : 1 < (allT m (singles m (plE es)) ((plE es).take i)).length
    · rw [decide_eq_true (by omega)]
      show SDs _ _ _ _ _ _
      subst hm
      refine sds_cons (sd_set 1 nd rfl (ed_call O.ti (hr.mono (j := 1) (by decide)) hG (ad_cons (nm 1 (ad_cons (ed_call O.lo (hr.mono (j := 3) (by decide)) hG (ad_cons (nm 0 (ad_cons (nm 2 (ad_nil ⟨z, n, es, e.1, rfl, hz, le, ad_nil ⟨z, _, pl e.1, rfl, hz, g, pll, fun a ha => by rw [← le]; exact (mem_pl.mp ha).1, ?_⟩⟩)))))))))))
      rw [← es1]
      exact sds_nil (sds_nil ⟨_, _, rfl⟩)
    · rw [decide_eq_false (by omega)]
      show SDs _ _ _ _ _ _
      rw [stepT_few (by omega)] at es1
      refine sds_nil (sds_nil ⟨some (.val (tI e.1)), some (.val (Ra C (fr e.2))), ?_⟩)
      rw [es1]
      rfl
  · rintro S' ⟨o2, o3, rfl⟩
    have e : (plE es).take (enD C es).length = plE es := List.take_of_length_le (by rw [enD_len, List.length_map]; exact Nat.le_refl _)
    rw [e]
    exact q o2 o3
theorem pi3 (O : OPi P w K mg base C CB) (hz : LetZ z) (hm : z.length = m) (ge : GE m n b es) {o2 o3 : Option Sl} {Q : List D → Prop} (q : Q ((pcs z es).map D.str)) : FD (XPi P w K mg base f cdv A outer s H) H [some (.val (Bo C CB z n es)), some (.val (.lst (((allT m (singles m (plE es)) (plE es)).map (tx z)).map D.str))), o2, o3] (match stN (top 37) 3 with | .Return (some e) _ => e | _ => .Name "" ⟨0, 0, 0, 0⟩) Q := by
  subst hm
  obtain ⟨g, p⟩ := same_lots (pl_lt ge)
  have few := g.few
  have l8 := hz.l8
  refine fd_sortLS (xs := (allT z.length (singles z.length (plE es)) (plE es)).map (tx z)) O.srt (by rw [List.length_map, p.length_eq]; omega) (nm 1 rfl) fun ys py so => ?_
  rw [pcs_of hz g p py so]
  exact q
end
theorem ok_pi {f : Addr} {fd : FuncData} (F : FunS K "pieces" "pieces" (top 37) f fd) (O : OPi P w K mg base C CB) : GnOk P w K mg base 4 f fd ["blend"] (lift K (spPi C CB)) := by
  refine gn_dl F sc_pi (fun as Q h => by obtain ⟨_, _, _, _, _, rfl, _⟩ := h; rfl) (fun cdv A outer s H hr hG W as Q h => ?_)
  obtain ⟨z, m, n, b, es, rfl, hz, hm, hn, hb, ge, q⟩ := h
  exact sds_cons (pi0 O hr hG (sds_cons (pi1 O hr hG hz hm ge (sds_cons (pi2 O hr hG hz hm ge fun o2 o3 => sds_cons (sd_ret (ed_fd (pi3 O hz hm ge q))))))))
theorem ok_piN {f : Addr} {fd : FuncData} (F : FunS K "pieces" "pieces" (top 37) f fd) (O : OPi P w K mg base C CB) : GnOk P w K mg base 4 f fd ["blend"] (liftN K (spPiN C CB)) := by
  refine gn_new F sc_pi (fun as Q h => by obtain ⟨_, _, _, _, _, rfl, _⟩ := h; rfl) (fun cdv A outer s H hr hG W as Q h => ?_)
  obtain ⟨z, m, n, b, es, rfl, hz, hm, hn, hb, ge, q⟩ := h
  exact sn_cons (pi0 O hr hG (sn_cons (pi1 O hr hG hz hm ge (sn_cons (pi2 O hr hG hz hm ge fun o2 o3 => sn_ret (pi3 O hz hm ge q))))))
/-! is_whole -/
abbrev spWh (C CB : Addr) : SpD := fun as Q => ∃ z, ∃ m n b : Nat, ∃ es, as = [.val (Bo C CB z n es)] ∧ LetZ z ∧ z.length = m ∧ n ≤ 8 ∧ b ≤ 1000 ∧ GE m n b es ∧ Q (.bl (decide ((pcs z es).length ≤ 1)))
theorem sc_wh : FnScope ["blend"] ["blend"] (defScope (top 38)) := ⟨rfl, rfl, rfl, by decide +kernel, rfl, by decide +kernel, by decide +kernel⟩
theorem ok_wh {f : Addr} {fd : FuncData} (F : FunS K "is_whole" "is_whole" (top 38) f fd) (T : Txt K mg C) (PI : Df P w K mg base "pieces" 4 1 (spPi C CB)) : GnOk P w K mg base 5 f fd ["blend"] (lift K (spWh C CB)) := by
  refine gn_dl F sc_wh (fun as Q h => by obtain ⟨_, _, _, _, _, rfl, _⟩ := h; rfl) (fun cdv A outer s H hr hG W as Q h => ?_)
  obtain ⟨z, m, n, b, es, rfl, hz, hm, hn, hb, ge, q⟩ := h
  refine sds_cons (sd_ret (ed_cmp (ed_callB T.len (ad_cons (ed_call PI (hr.mono (j := 4) (by decide)) hG (ad_cons (nm 0 (ad_nil ⟨z, m, n, b, es, rfl, hz, hm, hn, hb, ge, ad_nil (cd_len (.inl rfl) (ed_int (od_le ?_)))⟩))))))))
  have e : decide ((((pcs z es).map D.str).length : Int) ≤ 1) = decide ((pcs z es).length ≤ 1) := by
    rw [List.length_map]
    exact decide_eq_decide.mpr (by omega)
  rw [e]
  exact q
end
end K21

set_option Elab.async false
set_option linter.all false
set_option maxRecDepth 100000
set_option maxHeartbeats 8000000
/-! k21: halves -/
namespace K21
open PySem L2 DL M21
theorem GE.subl {m n b : Nat} {es fs : List Ent} (h : GE m n b es) (s : fs.Sublist es) : GE m n b fs :=
  ⟨fun e he => h.len e (s.subset he), fun e he => h.nn e (s.subset he), fun e he => h.sum e (s.subset he), fun e he => h.pos e (s.subset he), fun e he => h.bq e (s.subset he), h.nd.sublist (s.map _), Nat.le_trans s.length_le h.ln⟩
theorem srt_sub {m n b : Nat} {es fs : List Ent} (h : GE m n b es) (hn : n ≤ 8) (so : srt es = es) (s : fs.Sublist es) : srt fs = fs := by
  have p := srt_pair es
  rw [so] at p
  exact (srt_eq (h.subl s) hn (.refl _) (p.sublist s)).symm
def lot0 (z : List Nat) (es : List Ent) : List Nat := (byHd (allL z.length (plE es))).headD []
def nearE (z : List Nat) (es : List Ent) : List Ent := es.filter fun e => meets (pl e.1) (lot0 z es)
def farE (z : List Nat) (es : List Ent) : List Ent := es.filter fun e => !meets (pl e.1) (lot0 z es)
theorem sum_zero : ∀ {k : List Int}, (∀ c ∈ k, 0 ≤ c) → (∀ a, ¬ 0 < k.getD a 0) → k.sum = 0
  | [], _, _ => rfl
  | c :: k, h, g => by
    have h0 : (0 : Int) ≤ c := h c (List.mem_cons_self ..)
    have g0 : ¬ 0 < c := g 0
    rw [List.sum_cons, sum_zero (fun x hx => h x (List.mem_cons_of_mem _ hx)) fun a => g (a + 1)]
    omega
theorem pl_ne {k : List Int} (h : ∀ c ∈ k, 0 ≤ c) (hs : 0 < k.sum) : pl k ≠ [] := fun e => by
  have : k.sum = 0 := sum_zero h fun a ha => by
    have : a ∈ pl k := mem_pl.mpr ⟨by
      rcases Nat.lt_or_ge a k.length with q | q
      · exact q
      · rw [List.getD_eq_getElem?_getD, List.getElem?_eq_none q] at ha
        exact absurd ha (by decide), ha⟩
    rw [e] at this
    cases this
  omega
theorem pl_zero {k : List Int} (h : ∀ c ∈ k, 0 ≤ c) (hs : k.sum = 0) : pl k = [] := by
  refine List.filter_eq_nil_iff.mpr fun a ha => ?_
  rw [decide_eq_true_eq]
  intro hp
  have : k.getD a 0 ∈ k := by
    have la := List.mem_range.mp ha
    rw [List.getD_eq_getElem?_getD, List.getElem?_eq_getElem la]
    exact List.getElem_mem la
  have := (le_sum h).2 _ this
  omega
theorem allL_nils (m : Nat) : ∀ {Ps : List (List Nat)}, (∀ P ∈ Ps, P = []) → ∀ L, Ps.foldl (stepL m) L = L
  | [], _, _ => rfl
  | P :: Ps, h, L => by
    have e : stepL m L P = L := by
      rw [h P (List.mem_cons_self ..)]
      unfold stepL
      rw [far_nil, if_pos rfl, List.append_nil]
    rw [List.foldl_cons, e]
    exact allL_nils m (fun Q hQ => h Q (List.mem_cons_of_mem _ hQ)) L
theorem apart_pos {z : List Nat} {m n b : Nat} {es : List Ent} (ge : GE m n b es) (h : 1 < (pcs z es).length) : ∀ e ∈ es, pl e.1 ≠ [] := fun e he => by
  rcases Nat.eq_zero_or_pos n with q | q
  · subst q
    have : allL z.length (plE es) = [] := allL_nils _ (fun P hP => by
      obtain ⟨x, hx, rfl⟩ := List.mem_map.mp hP
      exact pl_zero (ge.nn x hx) (ge.sum x hx)) []
    unfold pcs byHd at h
    rw [this, List.length_map, List.length_mergeSort] at h
    simp at h
  · refine pl_ne (ge.nn e he) ?_
    rw [ge.sum e he]
    omega
theorem lot0_mem {z : List Nat} {es : List Ent} (h : 1 < (pcs z es).length) : lot0 z es ∈ byHd (allL z.length (plE es)) ∧ (byHd (allL z.length (plE es)))[0]? = some (lot0 z es) := by
  unfold lot0
  unfold pcs at h
  rw [List.length_map] at h
  match hq : byHd (allL z.length (plE es)), h with
  | l :: L, _ => exact ⟨List.mem_cons_self .., rfl⟩
section
variable {P : Program} {w : World} {K : PySem.W.Frag} {mg : Str → Option Value} {base : Heap} {C CB : Addr}
abbrev spHv (C CB : Addr) : SpD := fun as Q => ∃ z, ∃ m n b : Nat, ∃ es, as = [.val (Bo C CB z n es)] ∧ LetZ z ∧ z.length = m ∧ n ≤ 8 ∧ b ≤ 1000 ∧ GE m n b es ∧ srt es = es ∧ Q (if (pcs z es).length ≤ 1 then .non else .tup [Bo C CB z n (nearE z es), Bo C CB z n (farE z es)])
abbrev NHv : List Str := ["blend", "lots", "first", "others", "entry"]
theorem sc_hv : FnScope NHv ["blend"] (defScope (top 39)) := ⟨rfl, rfl, rfl, by decide +kernel, rfl, by decide +kernel, by decide +kernel⟩
theorem ok_hv {f : Addr} {fd : FuncData} (F : FunS K "halves" "halves" (top 39) f fd) (V : Bt P w K mg base C CB) (LO : Df P w K mg base "_letters_of" 3 2 (spLo C CB)) (PI : Df P w K mg base "pieces" 4 1 (spPi C CB)) : GnOk P w K mg base 9 f fd ["blend"] (lift K (spHv C CB)) := by
  refine gn_dl F sc_hv (fun as Q h => by obtain ⟨_, _, _, _, _, rfl, _⟩ := h; rfl) (fun cdv A outer s H hr hG W as Q h => ?_)
  obtain ⟨z, m, n, b, es, rfl, hz, hm, hn, hb, ge, so, q⟩ := h
  have nd := sc_hv.nd
  have T := V.L.V.T
  have pcl := pcs_len hm ge
  have l8 := hz.l8
  refine sds_cons (sd_set 1 nd rfl (ed_call PI (hr.mono (j := 4) (by decide)) hG (ad_cons (nm 0 (ad_nil ⟨z, m, n, b, es, rfl, hz, hm, hn, hb, ge, ?_⟩)))))
  refine sds_cons (sd_if (td_cmp (ed_callB T.len (ad_cons (nm 1 (ad_nil (cd_len (.inl rfl) (ed_int (od_le (kB ?_))))))))))
  rw [List.length_map]
  by_cases c : (pcs z es).length ≤ 1
  · rw [if_pos c] at q
    rw [decide_eq_true (by omega)]
    show SDs _ _ _ _ _ _
    exact sds_cons (sd_ret (ed_non q))
  · rw [if_neg c] at q
    rw [decide_eq_false (by omega)]
    show SDs _ _ _ _ _ _
    have c' : 1 < (pcs z es).length := by omega
    have pne := apart_pos ge c'
    obtain ⟨lm, l0⟩ := lot0_mem c'
    have gl := (same_lots (Ps := plE es) (m := z.length) (by rw [hm]; exact pl_lt ge)).1
    have lL : lot0 z es ∈ allL z.length (plE es) := (List.mergeSort_perm _ _).mem_iff.mp lm
    refine sds_nil (sds_cons (sd_parOwn 2 3 (by decide) (fd_lst (ad_nil ⟨[], rfl, by simp, fd_lst (ad_nil ⟨[], rfl, by simp, ?_⟩)⟩)) (ps_par rfl nd rfl rfl (by decide) rfl rfl (pa_cons we_pe (pa_cons we_pe pa_nil)) (by rfl))))
    refine sds_cons (sd_forL (l := enD C es) PassesOwn.never rfl (fun i S' => ∃ o4, S' = [some (.val (Bo C CB z n es)), some (.val (.lst ((pcs z es).map D.str))), some (.own (enD C ((es.take i).filter fun e => meets (pl e.1) (lot0 z es)))), some (.own (enD C ((es.take i).filter fun e => !meets (pl e.1) (lot0 z es)))), o4]) (mE V ge (hr.mono (j := 1) (by decide)) hG (nm 0 ⟨rfl, rfl, none, rfl⟩)) ?_ ?_)
    · rintro i dk S' hi ⟨o4, rfl⟩
      have hi' : (es.map fun e => D.tup [tI e.1, Ra C (fr e.2)])[i]? = some dk := hi
      rw [List.getElem?_map] at hi'
      obtain ⟨e, he, rfl⟩ := Option.map_eq_some_iff.mp hi'
      have em := List.mem_of_getElem? he
      have le := ge.len e em
      have pe := pne e em
      have pm : pl e.1 ∈ plE es := List.mem_map_of_mem em
      have hdl : M21.hd (pl e.1) < z.length := by rw [hm, ← le]; exact (mem_pl.mp (hd_mem pe)).1
      have lz : ∀ a ∈ lot0 z es, a < z.length := gl.lt _ lL
      have iff1 : (decide (z.getD (M21.hd (pl e.1)) 0 ∈ (tx z (lot0 z es)).cps.toList)) = meets (pl e.1) (lot0 z es) := by
        rw [Bool.eq_iff_iff, decide_eq_true_eq, tx_cps, zg_mem hz lz hdl]
        exact (first_in (Ps := plE es) (m := z.length) (by rw [hm]; exact pl_lt ge) pm pe lL).symm
      have lens : ∀ t : Ent → Bool, (enD C ((es.take i).filter t)).length ≤ 200 := fun t => by
        rw [enD_len]
        have := List.length_filter_le t (es.take i)
        rw [List.length_take] at this
        have := ge.ln
        omega
      have tk : ∀ t : Ent → Bool, (es.take (i + 1)).filter t = (es.take i).filter t ++ if t e = true then [e] else [] := fun t => by
        rw [List.take_add_one, he, List.filter_append]
        cases ht : t e <;> simp [List.filter_cons, ht]
      refine gd_name 4 nd rfl (sds_cons (sd_if (td_cmp (ed_ixS (ed_call LO (hr.mono (j := 3) (by decide)) hG (ad_cons (nm 0 (ad_cons (ed_ix (nm 4 (ed_int ⟨[tI e.1, Ra C (fr e.2)], 0, tI e.1, .inr rfl, rfl, atI_nat (j := 0) rfl, ad_nil ⟨z, n, es, e.1, rfl, hz, by rw [hm]; exact le, ed_int ⟨tx z (pl e.1), 0, z.getD (M21.hd (pl e.1)) 0, rfl, rfl, by decide, ?_, ed_ix (nm 1 (ed_int ⟨(pcs z es).map D.str, 0, .str (tx z (lot0 z es)), .inl rfl, rfl, atI_nat (j := 0) ?_, od_inS (kB ?_)⟩))⟩⟩⟩)))))))))))
      · rw [← Array.getElem?_toList, tx_cps, List.getElem?_map]
        cases hq : pl e.1 with
        | nil => exact absurd hq pe
        | cons a l => rfl
      · unfold pcs
        rw [List.getElem?_map, List.getElem?_map, l0]
        rfl
      rw [iff1]
      cases hme : meets (pl e.1) (lot0 z es) with
      | true =>
        show SDs _ _ _ _ _ _
        refine sds_cons (sd_append 2 _ rfl rfl (by have := lens fun e => meets (pl e.1) (lot0 z es); omega) (nm 4 (sds_nil (sds_nil ⟨some (.val (.tup [tI e.1, Ra C (fr e.2)])), ?_⟩))))
        rw [tk, tk, hme]
        simp only [if_true, Bool.not_true, Bool.false_eq_true, if_false, List.append_nil]
        unfold enD
        rw [List.map_append]
        rfl
      | false =>
        show SDs _ _ _ _ _ _
        refine sds_cons (sd_append 3 _ rfl rfl (by have := lens fun e => !meets (pl e.1) (lot0 z es); omega) (nm 4 (sds_nil (sds_nil ⟨some (.val (.tup [tI e.1, Ra C (fr e.2)])), ?_⟩))))
        rw [tk, tk, hme]
        simp only [if_true, Bool.not_false, Bool.false_eq_true, if_false, List.append_nil]
        unfold enD
        rw [List.map_append]
        rfl
    · rintro S' ⟨o4, rfl⟩
      have tk : es.take (enD C es).length = es := List.take_of_length_le (by rw [enD_len]; exact Nat.le_refl _)
      rw [tk]
      refine sds_frz 2 _ rfl (sds_frz 3 _ rfl ?_)
      have s1 : (nearE z es).Sublist es := List.filter_sublist
      have s2 : (farE z es).Sublist es := List.filter_sublist
      have g1 := ge.subl s1
      have g2 := ge.subl s2
      have so1 := srt_sub ge hn so s1
      have so2 := srt_sub ge hn so s2
      refine sds_cons (sd_ret (ed_tup (ad_cons (ed_makeA V.mkA (hr.mono (j := 8) (by decide)) hG (ad_cons (pL V (hr.mono (j := 2) (by decide)) hG (nm 0 ⟨rfl, ad_cons (nm 2 (ad_nil (.inl ⟨z, m, n, b, nearE z es, enD C (nearE z es), _, rfl, .inl rfl, hz, hm, hn, hb, g1, pe_en g1.bq, ?_⟩)))⟩)))))))
      rw [so1]
      refine ad_cons (ed_makeA V.mkA (hr.mono (j := 8) (by decide)) hG (ad_cons (pL V (hr.mono (j := 2) (by decide)) hG (nm 0 ⟨rfl, ad_cons (nm 3 (ad_nil (.inl ⟨z, m, n, b, farE z es, enD C (farE z es), _, rfl, .inl rfl, hz, hm, hn, hb, g2, pe_en g2.bq, ?_⟩)))⟩))))
      rw [so2]
      exact ad_nil ⟨[Bo C CB z n (nearE z es), Bo C CB z n (farE z es)], rfl, by simp, q⟩
end
end K21

set_option Elab.async false
set_option linter.all false
set_option maxRecDepth 100000
set_option maxHeartbeats 8000000
/-! [elt for i, x in enumerate(a list)] -/
namespace DL
open PySem PySem.Spec PyProof.Rows L2
section
variable {X : Cx} {B : Hp} {W0 : Wd} {S : En} {pos px p p1 tpos py : Pos} {e elt : Expr} {x y : Str} {kk : Nat} {scope : Scope} {own : List (Str × Nat)} {α : Type} {f : α → D} {l : List α} {u : Nat → α → D} {Q : List D → Prop}
end
end DL

set_option Elab.async false
set_option linter.all false
set_option maxRecDepth 100000
set_option maxHeartbeats 8000000
/-! [elt for i, x in enumerate(a tuple) if ..]; lists of ints in lists of such; such lists sorted -/
namespace DL
open PySem PySem.Spec PySem.W PyProof.Rows L2
section
variable {X : Cx} {B : Hp} {W0 : Wd} {S : En} {pos px p p1 tpos py : Pos} {e elt c : Expr} {x y : Str} {kk : Nat} {scope : Scope} {own : List (Str × Nat)} {l : List D} {u : Nat → D} {t : Nat → Bool} {Q : List D → Prop}
theorem fd_ftE (t : Nat → Bool) (u : Nat → D) (i j : Nat) (hc : X.calm = true) (hN : X.N.Nodup) (hm : X.mg "enumerate" = none) (ok : BlkOk X.N X.env.scope scope own) (hg : AllBlk X scope fun Y => PG Y (.Tuple [.Name x px, .Name y py] kk tpos) (gTup X.K 2 (gCons (gName i) (gCons (gName j) gNil))))
    (h : AD X B S [e] fun as => as = [.val (.tup l)]) (hl : l.length ≤ 50000) (hi : i ∈ own.map (·.2)) (hj : j ∈ own.map (·.2))
    (ht : ∀ (n : Nat) d, l[n]? = some d → AllBlk X scope fun Y => TD Y B ((itE S own i (.int (n : Int))).set j (some (.val d))) c fun b => b = t n)
    (he : ∀ (n : Nat) d, l[n]? = some d → AllBlk X scope fun Y => ED Y B ((itE S own i (.int (n : Int))).set j (some (.val d))) elt fun z => z = u n)
    (q : Q (((List.range l.length).filter t).map u)) (hgl : Gl X "enumerate" := by rfl) (hst : starEach [e] X.env = [(false, eval e X.env)] := by rfl)
    (hs : ∀ x, foldedSetIterable (.Call (.Name "enumerate" p) [e] [] p1) X.env x = pure x := by intro _; rfl) : FD X B S (.ListComp elt [⟨.Tuple [.Name x px, .Name y py] kk tpos, .Call (.Name "enumerate" p) [e] [] p1, [c], 0⟩] scope pos) Q := fun σ W H r R k => by
  refine PE.w (pe_lc (te := WEb X scope elt) (tt := WTb X scope c) hc hN (pi_enumT hgl hm wa_pa hst) ok hg (fun s H C cl fp => pts_one (wtb_pt s H C cl fp)) web_pe hs) ?_
  refine h σ W H r _ fun as vs W1 H1 s1 ok1 n1 q1 => ?_
  subst q1
  obtain ⟨v, rfl, m⟩ := one_arg n1
  cases m with
  | @tup _ a xs ha m =>
    have hlw := m.length
    refine ⟨a, xs, rfl, SqT.of (ok1.ex _ _ ha), fun p hp0 => ?_⟩
    have r1 := r.step s1 ok1
    refine lc_it walk_enumT (fun i H' => ∃ acc W', Mid X.K (gOf X) W1 H1 p acc W' H' ∧ acc.length ≤ i ∧ acc = ((List.range i).filter t).map u) ⟨[], W1, ⟨Stp.own hp0, ok1.own hp0, ok1.notP hp0, ok1.free hp0, [], upd_same, .nil⟩, Nat.le_refl _, rfl⟩
      (fun i H' _ ⟨acc, W', mm, _⟩ => SqT.of (mm.ok.ex _ _ (mm.st.I _ _ ha))) ?_ ?_
    · rintro n y H' H2 hn ⟨acc, W', mm, hl2, j2⟩ ⟨T, x1, x2, rfl, hT, rfl, ex1, ex2⟩
      obtain ⟨d, hd', nd⟩ := m.get ex2
      cases ex1
      have sn := Stp.new (o := .tup [.int (n : Nat), x2]) mm.ok hT
      have okn := mm.ok.new (o := .tup [.int (n : Nat), x2]) hT
      have mn := mm.step sn okn
      have nt : Dn X.K (W'.new T (.tup [.int (n : Nat), x2])).I (.tup [.int (n : Int), d]) (.ref T) := .tup upd_same (.cons (.int _) (.cons ((nd.mono mm.st.I).mono sn.I) .nil))
      refine pat_two i j hi hj (gOf X) B σ _ _ _ ((r1.step mm.st mm.ok).step sn okn) nt _ fun σ2 e3 r3 => ⟨e3, ?_⟩
      show WTb X scope c σ2 _ _
      intro s H0 C cl fp
      refine ht n d hd' s H0 C cl fp σ2 _ _ r3 _ fun b W2 H2 s2 ok2 q2 => ?_
      have er : ((List.range (n + 1)).filter t).map u = acc ++ if t n = true then [u n] else [] := by
        rw [List.range_succ, List.filter_append, List.map_append, ← j2]
        congr 1
        cases hb : t n <;> simp [hb]
      have li : n < l.length := (List.getElem?_eq_some_iff.mp hd').1
      subst q2
      cases hb : t n with
      | false =>
        rw [hb] at er
        exact iteF ⟨acc, W2, mn.step s2 ok2, Nat.le_succ_of_le hl2, by rw [er]; simp⟩
      | true =>
        rw [hb] at er
        refine iteT ?_
        show WEb X scope elt σ2 _ _
        intro s H0 C cl fp
        refine he n d hd' s H0 C cl fp σ2 _ _ (r3.step s2 ok2) _ fun y v W3 H3 s3 ok3 n3 q3 => ?_
        obtain ⟨xs', g1, g3, m3⟩ := ((mn.step s2 ok2).step s3 ok3).more hp0 n3 (by omega)
        exact ⟨xs', g1, g3, _, W3, m3, by simp only [List.length_append, List.length_singleton]; omega, by rw [er, q3]; simp⟩
    · rintro H' ⟨acc, W', mm, hl2, j2⟩
      obtain ⟨ys, hH, ds⟩ := mm.h
      rw [← hlw] at j2
      exact k acc p ys W' H' (s1.trans ok1 mm.st) mm.ok (s1.free ok1 hp0) mm.n mm.i hH ds (by rw [j2]; exact q)
end
/-- a list of ints -/
abbrev lI (l : List Int) : D := .lst (l.map D.int)
abbrev rI (l : List Int) : PyData := .list (l.map .int)
theorem pyd_lI (l : List Int) : PyD (lI l) (rI l) := .lst (pyd_ints l)
theorem pyd_lIs : ∀ ls : List (List Int), PyDs (ls.map lI) (ls.map rI)
  | [] => .nil
  | l :: ls => .cons (pyd_lI l) (pyd_lIs ls)
theorem eqv_rI (a b : List Int) : PyData.eqv (rI a) (rI b) = decide (a = b) := by
  show PyData.eqvAll _ _ = _
  exact eqvA_ints a b
theorem any_rI (l : List Int) : ∀ ls : List (List Int), ((ls.map rI).any fun z => PyData.eqv z (rI l)) = decide (l ∈ ls)
  | [] => by simp
  | m :: ls => by
    rw [List.map_cons, List.any_cons, any_rI l ls, eqv_rI]
    by_cases h : m = l
    · subst h; simp
    · have h' : ¬ l = m := fun z => h z.symm
      simp [h, h']
theorem can_rIs : ∀ ls : List (List Int), PyData.canLayAll0 (ls.map rI) = true
  | [] => rfl
  | l :: ls => by
    show (PyData.canLayAll0 (l.map .int) && PyData.canLayAll0 (ls.map rI)) = true
    rw [can_ints, can_rIs ls]
    rfl
theorem dep_rIs : ∀ ls : List (List Int), PyData.depthAll (ls.map rI) ≤ 1
  | [] => by decide
  | l :: ls => by
    have := dep_rIs ls
    have h : PyData.depthAll (l.map .int) = 0 := PySem.W.depth_ints l
    show max (PyData.depthAll (l.map .int) + 1) (PyData.depthAll (ls.map rI)) ≤ 1
    rw [h]
    omega
theorem shaped_rI (l : List Int) : SeqAt.shaped (rI l) = true := by
  unfold SeqAt.shaped
  rw [Bool.and_eq_true, decide_eq_true_eq]
  refine ⟨can_ints l, ?_⟩
  show PyData.depthAll _ + 1 ≤ 64
  rw [PySem.W.depth_ints]
  decide
theorem shaped_rIs (ls : List (List Int)) : SeqAt.shaped (.list (ls.map rI)) = true := by
  unfold SeqAt.shaped
  rw [Bool.and_eq_true, decide_eq_true_eq]
  refine ⟨can_rIs ls, ?_⟩
  show PyData.depthAll _ + 1 ≤ 64
  have := dep_rIs ls
  omega
section
variable {X : Cx} {Q : D → Prop}
theorem od_ninLI {l : List Int} {ls : List (List Int)} (hu : X.A.units + 65 < cLine) (q : Q (.bl (!decide (l ∈ ls)))) : OD X (compareOp .NotIn) (lI l) (.lst (ls.map lI)) Q := od_of (op_notInD hu) fun v u W H ok h1 h2 R c =>
  ⟨rI l, ls.map rI, (pyd_lI l).dp ok h1, (PyD.lst (pyd_lIs ls)).dp ok h2, shaped_rI l, shaped_rIs ls, by rw [any_rI]; exact c.now ok (.bl _) q⟩
theorem cd_sortRows {ls : List (List Int)} (hu : X.A.units + 100 < cLine) (hl : ls.length ≤ 50000) (q : ∀ ls' : List (List Int), ls'.Perm ls → ls'.Pairwise (· ≤ ·) → Q (.lst (ls'.map lI))) : CD X (.builtin "sorted") [.val (.lst (ls.map lI))] Q :=
  cd_sortD (f := lI) (enc := rI) hu (.inl rfl) (fun b _ => pyd_lI b) (PySem.W.AllAlike.of fun a b => by simp [PySem.W.alike, PySem.W.alike_ints]) (.inr fun d hd => by obtain ⟨i, _, rfl⟩ := List.mem_map.mp hd; exact ⟨fun h => (by cases h), fun xs h => (by cases h)⟩) (fun b _ => by
    show PyData.depthAll (b.map .int) + 1 ≤ 4
    rw [PySem.W.depth_ints]
    decide) hl (by
    rw [show PySem.W.dataLe false rI = fun p q : List Int => decide (p ≤ q) from PySem.W.dataLe_rows (fun b : List Int => b)]
    refine q _ (List.mergeSort_perm _ _) ?_
    have := List.pairwise_mergeSort (le := fun p q : List Int => decide (p ≤ q)) (fun a b c h1 h2 => by simp only [decide_eq_true_eq] at *; exact List.le_trans h1 h2) (fun a b => by simp only [Bool.or_eq_true, decide_eq_true_eq]; exact List.le_total a b) ls
    exact this.imp fun h => by simpa using h)
end
end DL

set_option Elab.async false
set_option linter.all false
set_option maxRecDepth 100000
set_option maxHeartbeats 8000000
/-! the text of an owned list of plain data -/
namespace DL
open PySem PySem.Spec PyProof.Rows L2
section
variable {X : Cx} {B : Hp} {S : En} {x : Str} {p p2 pos : Pos} {Q : D → Prop}
def rReprAt (K : PySem.W.Frag) (g : List Code) : List V → Hp → VK → Prop := fun vs H Q => ∃ (W : Wd) (d : D) (q : PyData) (v : V), vs = [v] ∧ Ok g W H ∧ PyD d q ∧ Dn K W.I d v ∧ q.showable = true ∧ q.shown.length ≤ sizeLine ∧ q.depth ≤ 4 ∧ Q (.str q.shown) H
theorem cr_reprAt (hG : X.A.guards = some (gOf X)) (hu : X.A.units + 16 < cLine) : CallR X (.builtin "repr") (rReprAt X.K (gOf X)) := by
  intro pins s σ H vs us Q I r h
  obtain ⟨W, d, q, v, rfl, ok, hp, n, hs, hz, h4, k⟩ := h
  cases r with
  | cons r1 r2 =>
    cases r2
    exact repr_pl I ok hG (by omega) hp n r1 hs hz fun h' t tk kp => ⟨.str _, H, I.kept kp, ⟨t, rfl⟩, k⟩
theorem ed_reprOwn (i : Nat) (l : List D) {q : PyData} (hm : X.mg "repr" = none) (hG : X.A.guards = some (gOf X)) (hu : X.A.units + 16 < cLine) (hN : X.N[i]? = some x) (h : S[i]? = some (some (.own l))) (hp : PyD (.lst l) q) (hs : q.showable = true) (hz : q.shown.length ≤ sizeLine) (h4 : q.depth ≤ 4) (k : Q (.str q.shown))
    (hps : X.A.guards = some (gOf X) → X.A.units + 16 < cLine → X.mg "repr" = none → PE X (.Call (.Name "repr" p) [.Name x p2] [] pos) (tCB (rReprAt X.K (gOf X)) (tCons (tVar i) tNil)) := by exact fun hG hu hm => pe_callB (cr_reprAt hG hu) rfl hm (by first | rfl | decide +kernel) (pa_cons (pe_var (by rfl) (by first | exact Or.inl rfl | exact Or.inr (Or.inl rfl) | exact Or.inr (Or.inr rfl))) pa_nil)) : ED X B S (.Call (.Name "repr" p) [.Name x p2] [] pos) Q := fun σ W H r R k0 => by
  refine PE.w (hps hG hu hm) ?_
  obtain ⟨v, e1, p1, xs, rfl, hB, n, hI, hH, d0⟩ := r.sl i _ h
  refine ⟨_, e1, W.new p1 (.lst xs), .lst l, q, .ref p1, rfl, r.ok.frz hH n (fun z => r.gb _ z hB), hp, .lst (show upd W.I p1 _ p1 = _ from upd_same) (d0.mono (Ex.new hI)), hs, hz, h4, ?_⟩
  exact k0.now r.ok (.str _) k
end
end DL

set_option Elab.async false
set_option linter.all false
set_option maxRecDepth 100000
set_option maxHeartbeats 8000000
/-! k21: the law's own lots and pieces -/
namespace K21
open PySem L2 DL M21
abbrev LD (l : List Nat) : D := lI (iN l)
theorem LD_app (a b : List Nat) : D.lst ((iN a).map D.int ++ (iN b).map D.int) = LD (a ++ b) := by
  show D.lst _ = D.lst _
  rw [← List.map_append, ← List.map_append]
theorem mem_iN {a : Nat} {l : List Nat} : (a : Int) ∈ iN l ↔ a ∈ l := by
  rw [List.mem_map]
  constructor
  · rintro ⟨b, hb, e⟩
    have : b = a := by omega
    rw [← this]
    exact hb
  · exact fun h => ⟨a, h, rfl⟩
theorem u65 {X : Cx} {k : Nat} (hr : Room k X.A) : X.A.units + 65 < cLine := by have := hr.un; omega
theorem u100 {X : Cx} {k : Nat} (hr : Room k X.A) : X.A.units + 100 < cLine := by have := hr.un; omega
theorem iN_inj {a b : List Nat} (h : iN a = iN b) : a = b := (List.map_inj_right (f := fun a : Nat => (a : Int)) fun x y e => by omega).mp h
theorem rows_of {m : Nat} {L : List (List Nat)} (g : Gd m L) {ls : List (List Int)} (p : ls.Perm (L.map iN)) (so : ls.Pairwise (· ≤ ·)) : ls = (byHd L).map iN := by
  obtain ⟨A, rfl, pA⟩ := perm_map_inv p
  rw [g.by_hd pA ((List.pairwise_map.mp so).imp_of_mem fun {a b} ha hb h => ?_)]
  have na := g.ne a (pA.mem_iff.mp ha)
  have nb := g.ne b (pA.mem_iff.mp hb)
  match a, b, na, nb with
  | x :: a, y :: b, _, _ =>
    rcases Nat.lt_or_ge y x with q | q
    · exact absurd h (List.not_le.mpr (List.cons_lt_cons_iff.mpr (.inl (by show (y : Int) < (x : Int); omega))))
    · exact q
theorem asc_int {a b : List Int} (ha : a.Pairwise (· < ·)) (hb : b.Pairwise (· < ·)) (h : ∀ x, x ∈ a ↔ x ∈ b) : a = b :=
  List.Perm.eq_of_pairwise (le := (· < ·)) (fun x y _ _ h1 h2 => by omega) ha hb ((List.perm_ext_iff_of_nodup (ha.imp fun h e => by omega) (hb.imp fun h e => by omega)).mpr h)
theorem asc_iN {l : List Nat} (h : Asc l) : (iN l).Pairwise (· < ·) := List.pairwise_map.mpr (h.imp fun h => by omega)
/-- products as they are given: as many counts each, none below 0 -/
structure Ps0 (m : Nat) (ps : List (List Int)) : Prop where
  len : ∀ k ∈ ps, k.length = m
  m8 : m ≤ 8
  few : ps.length ≤ 60
theorem Ps0.lt {m : Nat} {ps : List (List Int)} (h : Ps0 m ps) : ∀ P ∈ ps.map pl, ∀ a ∈ P, a < m := fun P hP a ha => by
  obtain ⟨k, hk, rfl⟩ := List.mem_map.mp hP
  rw [← h.len k hk]
  exact (mem_pl.mp ha).1
theorem pl_len {k : List Int} : (pl k).length ≤ k.length := by
  have := List.length_filter_le (fun a => decide (0 < k.getD a 0)) (List.range k.length)
  rw [List.length_range] at this
  exact this
section
variable {P : Program} {w : World} {K : PySem.W.Frag} {mg : Str → Option Value} {base : Heap} {C CB : Addr}
abbrev spLs : SpD := fun as Q => ∃ m ps, as = [.val (.lst (ps.map tI))] ∧ Ps0 m ps ∧ Q (.lst ((byHd (allL m (ps.map pl))).map LD))
abbrev NLs : List Str := ["_law_products_here", "_law_lots_here", "_law_counts_here", "_law_places", "_law_lot", "_law_near", "_law_at", "_law_count"]
theorem sc_ls : FnScope NLs ["_law_products_here"] (defScope (top 55)) := ⟨rfl, rfl, rfl, by decide +kernel, rfl, by decide +kernel, by decide +kernel⟩
theorem LDs (L : List (List Nat)) : L.map LD = (L.map iN).map lI := by rw [List.map_map]; rfl
theorem ok_ls {f : Addr} {fd : FuncData} (F : FunS K "_law_lots" "_law_lots" (top 55) f fd) (T : Txt K mg C) (henum : mg "enumerate" = none) (hany : mg "any" = none) (hs : mg "sorted" = none) (hset : mg "set" = none) : GnOk P w K mg base 2 f fd ["_law_products_here"] (lift K spLs) := by
  refine gn_dl F sc_ls (fun as Q h => by obtain ⟨_, _, rfl, _⟩ := h; rfl) (fun cdv A outer s H hr hG W as Q h => ?_)
  obtain ⟨m, ps, rfl, hp, q⟩ := h
  have nd := sc_ls.nd
  have m8 := hp.m8
  refine sds_cons (sd_set 1 nd rfl (ed_lst (ad_nil ⟨[], rfl, by simp, ?_⟩)))
  refine sds_cons (sd_forL (l := ps.map tI) PassesOwn.never rfl (fun j S' => ∃ o2 o3 o4 o5, S' = [some (.val (.lst (ps.map tI))), some (.val (.lst ((allL m ((ps.map pl).take j)).map LD))), o2, o3, o4, o5, none, none]) (nm 0 ⟨rfl, none, none, none, none, rfl⟩) ?_ ?_)
  · rintro j dk S' hj ⟨o2, o3, o4, o5, rfl⟩
    rw [List.getElem?_map] at hj
    obtain ⟨k, hk, rfl⟩ := Option.map_eq_some_iff.mp hj
    have km := List.mem_of_getElem? hk
    have kl := hp.len k km
    have g : Gd m (allL m ((ps.map pl).take j)) := allL_gd _ (.nil m) fun P hP => hp.lt P (List.mem_of_mem_take hP)
    have few := g.few
    have es1 : allL m ((ps.map pl).take (j + 1)) = stepL m (allL m ((ps.map pl).take j)) (pl k) := by
      unfold allL
      rw [List.take_add_one, List.getElem?_map, hk, List.foldl_append]
      rfl
    rw [es1]
    generalize allL m ((ps.map pl).take j) = L at g few ⊢
    have pll := pl_len (k := k)
    refine gd_name 2 nd rfl (sds_cons (sd_set 3 nd rfl (ed_fd (fd_ftE (l := k.map D.int) (fun a => decide (0 < k.getD a 0)) (fun a => .int (a : Int)) 6 7 (own := [("_law_at", 6), ("_law_count", 7)]) rfl nd henum (blkOk_by (by show blkC NLs (defScope (top 55)) _ _ = true; decide +kernel)) (fun _ _ _ _ _ => pg_tup rfl (pgs_cons (pg_name (i := 6) nd rfl (Or.inl rfl)) (pgs_cons (pg_name (i := 7) nd rfl (Or.inl rfl)) pgs_nil rfl) rfl)) (ad_cons (nm 2 (ad_nil rfl))) (by rw [List.length_map]; omega) (by simp) (by simp) ?_ ?_ ?_))))
    · intro n d hd s2 H0 C2 cl fp
      rw [List.getElem?_map] at hd
      obtain ⟨i, hi, rfl⟩ := Option.map_eq_some_iff.mp hd
      refine td_cmp (nm 7 (ed_int (od_gt (kB ?_))))
      rw [List.getD_eq_getElem?_getD, hi]
      rfl
    · intro n d hd s2 H0 C2 cl fp
      exact nm 6 rfl
    have e1 : (((List.range (k.map D.int).length).filter fun a => decide (0 < k.getD a 0)).map fun a : Nat => D.int (a : Int)) = (iN (pl k)).map D.int := by
      rw [List.length_map]
      exact iN_D (pl k)
    rw [e1]
    refine sds_cons (sd_set 5 nd rfl (ed_fd (fd_ft (d0 := .lst (L.map LD)) (f := LD) (u := LD) (t := fun l => meets (pl k) l) (l := L) 4 rfl nd (own := [("_law_lot", 4)]) (blkOk_by (by show blkC NLs (defScope (top 55)) _ _ = true; decide +kernel)) (fun _ _ _ _ _ => pg_name (i := 4) nd rfl (Or.inl rfl)) (by simp) (by omega) (.inl rfl) (nm 1 rfl) ?_ ?_ ?_)))
    · intro l hl s2 H0 C2 cl fp
      have ll : l.length ≤ 50000 := by
        have := subset_len (m := List.range m) (g.asc l hl).nd fun x hx => List.mem_range.mpr (g.lt l hl x hx)
        rw [List.length_range] at this
        omega
      refine td_val (ed_callB hany (ad_cons (ed_fd (fd_mp (f := fun a : Nat => D.int (a : Int)) (u := fun a => D.bl (decide (a ∈ pl k))) (l := l) 6 rfl nd (own := [("_law_at", 6)]) (blkOk_in (N := NLs) (blkOk_by (by decide +kernel))) (fun _ _ _ _ _ => pg_name (i := 6) nd rfl (Or.inl rfl)) (by simp) ll (.inl (by rw [iN_D])) (nm 4 rfl) ?_ ?_))))
      · intro a ha s3 H3 C3 cl3 fp3
        refine ed_cmp (nm 6 (nm 3 (od_inI (l := iN (pl k)) (.inl rfl) ?_)))
        exact congrArg D.bl (decide_eq_decide.mpr mem_iN)
      · rw [show (l.map fun a => D.bl (decide (a ∈ pl k))) = (l.map fun a => decide (a ∈ pl k)).map D.bl by rw [List.map_map]; rfl]
        refine ad_nil (cd_any rfl (kB ?_))
        unfold meets
        rw [List.any_map]
        rfl
    · intro l hl _ s2 H0 C2 cl fp
      exact nm 4 rfl
    have en : (L.filter fun l => meets (pl k) l) = near L (pl k) := rfl
    rw [en]
    have gn : Gd m (near L (pl k)) := g.sub List.filter_sublist
    have fl : (near L (pl k)).flatten.length ≤ m := by
      have := subset_len (m := List.range m) (flat_nd gn) fun x hx => by
        obtain ⟨l, hl, hx⟩ := List.mem_flatten.mp hx
        exact List.mem_range.mpr (gn.lt l hl x hx)
      rwa [List.length_range] at this
    have ft : ∀ i, ((near L (pl k)).take i).flatten.length ≤ m := fun i => by
      have := congrArg (fun x : List (List Nat) => x.flatten.length) (List.take_append_drop i (near L (pl k)))
      simp only [List.flatten_append, List.length_append] at this
      omega
    refine sds_cons (sd_forL (l := (near L (pl k)).map LD) PassesOwn.never rfl (fun i S' => ∃ o4, S' = [some (.val (.lst (ps.map tI))), some (.val (.lst (L.map LD))), some (.val (tI k)), some (.val (LD (pl k ++ ((near L (pl k)).take i).flatten))), o4, some (.val (.lst ((near L (pl k)).map LD))), none, none]) (nm 5 ⟨rfl, o4, by rw [List.take_zero, List.flatten_nil, List.append_nil]; rfl⟩) ?_ ?_)
    · rintro i dl S' hi ⟨o4, rfl⟩
      rw [List.getElem?_map] at hi
      obtain ⟨l, hl, rfl⟩ := Option.map_eq_some_iff.mp hi
      have f1 := ft i
      have ln : l.length ≤ m := by
        have := subset_len (m := List.range m) (gn.asc l (List.mem_of_getElem? hl)).nd fun x hx => List.mem_range.mpr (gn.lt l (List.mem_of_getElem? hl) x hx)
        rwa [List.length_range] at this
      refine gd_name 4 nd rfl (sds_cons (sd_set 3 nd rfl (ed_bin (nm 3 (nm 4 (od_catL (l := (iN (pl k ++ ((near L (pl k)).take i).flatten)).map D.int) (m := (iN l).map D.int) (by simp only [List.length_map, List.length_append]; omega) ?_))))))
      refine sds_nil ⟨some (.val (LD l)), ?_⟩
      have ef : ((near L (pl k)).take (i + 1)).flatten = ((near L (pl k)).take i).flatten ++ l := by
        rw [List.take_add_one, hl, List.flatten_append]
        simp
      rw [ef, ← List.append_assoc]
      rw [← LD_app (pl k ++ ((near L (pl k)).take i).flatten) l]
      rfl
    · rintro S' ⟨o4, rfl⟩
      rw [List.length_map, List.take_length]
      have fl2 := fl
      refine sds_cons (sd_set 1 nd rfl (ed_bin (ed_fd (fd_ft (d0 := .lst (L.map LD)) (f := LD) (u := LD) (t := fun l => !meets (pl k) l) (l := L) 4 rfl nd (own := [("_law_lot", 4)]) (blkOk_by (by show blkC NLs (defScope (top 55)) _ _ = true; decide +kernel)) (fun _ _ _ _ _ => pg_name (i := 4) nd rfl (Or.inl rfl)) (by simp) (by omega) (.inl rfl) (nm 1 rfl) ?_ ?_ ?_))))
      · intro l hl s2 H0 C2 cl fp
        refine td_cmp (nm 4 (nm 5 ?_))
        rw [LDs]
        refine od_ninLI (u65 hr) (kB ?_)
        congr 1
        rw [Bool.eq_iff_iff, decide_eq_true_eq, List.mem_map]
        constructor
        · rintro ⟨k2, hk2, ek⟩
          rw [iN_inj ek] at hk2
          exact (mem_near.mp hk2).2
        · exact fun h => ⟨l, mem_near.mpr ⟨hl, h⟩, rfl⟩
      · intro l hl _ s2 H0 C2 cl fp
        exact nm 4 rfl
      · have ef : (L.filter fun l => !meets (pl k) l) = far L (pl k) := rfl
        rw [ef]
        have fr : (far L (pl k)).length ≤ m := Nat.le_trans (List.length_filter_le _ _) few
        refine ed_ifx (td_cmp (nm 3 (ed_lst (ad_nil ⟨[], rfl, by simp, od_neNilI (l := iN (pl k ++ (near L (pl k)).flatten)) (un64 hr) (kB ?_)⟩))))
        by_cases c : pl k = []
        · rw [c] at fr
          rw [c, near_nil]
          show ED _ _ _ _ _
          refine ed_lst (ad_nil ⟨[], rfl, by simp, od_catL (by simp; omega) (sds_nil ⟨some (.val (tI k)), some (.val (LD ([] ++ ([] : List (List Nat)).flatten))), o4, some (.val (.lst (([] : List (List Nat)).map LD))), ?_⟩)⟩)
          unfold stepL
          rw [if_pos rfl, List.map_append]
          rfl
        · have ne : (!(iN (pl k ++ (near L (pl k)).flatten)).isEmpty) = true := by
            cases hq : pl k with
            | nil => exact absurd hq c
            | cons a l => rfl
          rw [ne]
          show ED _ _ _ _ _
          refine ed_lst (ad_cons (ed_sortSetI (ns := iN (pl k ++ (near L (pl k)).flatten)) hs hset (by simp only [List.length_map, List.length_append]; omega) (nm 3 rfl) fun ls mem pw => ad_nil ⟨[lI ls], rfl, by simp, od_catL (by simp; omega) ?_⟩))
          have el : ls = iN (ss m (pl k ++ (near L (pl k)).flatten)) := by
            refine asc_int pw (asc_iN (asc_ss _ _)) fun x => ?_
            rw [mem x]
            simp only [iN, List.mem_map]
            constructor
            · rintro ⟨a, ha, rfl⟩
              refine ⟨a, mem_ss.mpr ⟨?_, ha⟩, rfl⟩
              rcases List.mem_append.mp ha with h | h
              · rw [← kl]; exact (mem_pl.mp h).1
              · obtain ⟨l, hl, h⟩ := List.mem_flatten.mp h
                exact gn.lt l hl a h
            · rintro ⟨a, ha, rfl⟩
              exact ⟨a, (mem_ss.mp ha).2, rfl⟩
          refine sds_nil ⟨some (.val (tI k)), some (.val (LD (pl k ++ (near L (pl k)).flatten))), o4, some (.val (.lst ((near L (pl k)).map LD))), ?_⟩
          unfold stepL
          rw [if_neg c, List.map_append, el]
          rfl
  · rintro S' ⟨o2, o3, o4, o5, rfl⟩
    have e : (ps.map pl).take (ps.map tI).length = ps.map pl := List.take_of_length_le (by rw [List.length_map, List.length_map]; exact Nat.le_refl _)
    rw [e]
    have g : Gd m (allL m (ps.map pl)) := allL_gd _ (.nil m) hp.lt
    have few := g.few
    refine sds_cons (sd_ret (ed_callB hs (ad_cons (nm 1 (ad_nil ?_)))))
    rw [LDs]
    refine cd_sortRows (u100 hr) (by rw [List.length_map]; omega) fun ls p so => ?_
    rw [rows_of g p so, ← LDs]
    exact q
/-! the law's own pieces -/
abbrev spLp : SpD := fun as Q => ∃ z ps, as = [.val (.str (SX.S z)), .val (.lst (ps.map tI))] ∧ LetZ z ∧ Ps0 z.length ps ∧ Q (.lst (((byHd (allL z.length (ps.map pl))).map (tx z)).map D.str))
abbrev NLp : List Str := ["_law_letters_here", "_law_products_here", "_law_lot", "_law_at"]
theorem sc_lp : FnScope NLp ["_law_letters_here", "_law_products_here"] (defScope (top 56)) := ⟨rfl, rfl, rfl, by decide +kernel, rfl, by decide +kernel, by decide +kernel⟩
theorem ok_lp {f : Addr} {fd : FuncData} (F : FunS K "_law_pieces" "_law_pieces" (top 56) f fd) (LS : Df P w K mg base "_law_lots" 2 1 spLs) : GnOk P w K mg base 3 f fd ["_law_letters_here", "_law_products_here"] (lift K spLp) := by
  refine gn_dl F sc_lp (fun as Q h => by obtain ⟨_, _, rfl, _⟩ := h; rfl) (fun cdv A outer s H hr hG W as Q h => ?_)
  obtain ⟨z, ps, rfl, hz, hp, q⟩ := h
  have nd := sc_lp.nd
  have g : Gd z.length (allL z.length (ps.map pl)) := allL_gd _ (.nil _) hp.lt
  have few := g.few
  have z8 := hz.l8
  have mem : ∀ l, l ∈ byHd (allL z.length (ps.map pl)) → l ∈ allL z.length (ps.map pl) := fun l hl => (List.mergeSort_perm _ _).mem_iff.mp hl
  refine sds_cons (sd_ret (ed_fd (fd_mp (d0 := .lst ((byHd (allL z.length (ps.map pl))).map LD)) (f := LD) (u := fun l => D.str (tx z l)) (l := byHd (allL z.length (ps.map pl))) 2 rfl nd (own := [("_law_lot", 2)]) (blkOk_by (by show blkC NLp (defScope (top 56)) _ _ = true; decide +kernel)) (fun _ _ _ _ _ => pg_name (i := 2) nd rfl (Or.inl rfl)) (by simp) (by unfold byHd; rw [List.length_mergeSort]; omega) (.inl rfl) (ed_call LS hr hG (ad_cons (nm 1 (ad_nil ⟨z.length, ps, rfl, hp, rfl⟩)))) ?_ ?_)))
  · intro l hl s2 H0 C2 cl fp
    have lL := mem l hl
    have lt := g.lt l lL
    have ll : l.length ≤ z.length := by
      have := subset_len (m := List.range z.length) (g.asc l lL).nd fun x hx => List.mem_range.mpr (lt x hx)
      rwa [List.length_range] at this
    refine ed_joinS (ed_str ⟨rfl, ed_fd (fd_mp (f := fun a : Nat => D.int (a : Int)) (u := fun a => D.str (sg (z.getD a 0))) (l := l) 3 rfl nd (own := [("_law_at", 3)]) (blkOk_in (N := NLp) (blkOk_by (by decide +kernel))) (fun _ _ _ _ _ => pg_name (i := 3) nd rfl (Or.inl rfl)) (by simp) (by omega) (.inl (by rw [iN_D])) (nm 2 rfl) ?_ ?_)⟩)
    · intro a ha s3 H3 C3 cl3 fp3
      have la := lt a ha
      refine ed_ixS (nm 0 (nm 3 ⟨SX.S z, a, z.getD a 0, rfl, rfl, by omega, ?_, rfl⟩))
      rw [List.getD_eq_getElem?_getD, List.getElem?_eq_getElem la]
      simp [la]
    · refine ⟨(l.map fun a => z.getD a 0).map sg, by rw [List.map_map, List.map_map]; rfl, ?_, ?_⟩
      · rw [sum_ones, show (Str.ofString "").length = 0 from rfl, Nat.mul_zero, List.length_map]
        omega
      · rw [join_sg]
        rfl
  · rw [show ((byHd (allL z.length (ps.map pl))).map fun l => D.str (tx z l)) = ((byHd (allL z.length (ps.map pl))).map (tx z)).map D.str by rw [List.map_map]; rfl]
    exact q
end
end K21

set_option Elab.async false
set_option linter.all false
set_option maxRecDepth 100000
set_option maxHeartbeats 8000000
/-! k21: halves as they must be -/
namespace K21
open PySem L2 DL M21
theorem fold_new : ∀ (ps acc : List Ent), ((acc ++ ps).map (·.1)).Nodup → ps.foldl insE acc = acc ++ ps
  | [], acc, _ => (List.append_nil acc).symm
  | p :: ps, acc, h => by
    have hp : p.1 ∉ acc.map (·.1) := fun z => by
      rw [List.map_append, List.nodup_append] at h
      exact h.2.2 p.1 z p.1 (List.mem_map_of_mem (List.mem_cons_self ..)) rfl
    have e : insE acc p = acc ++ [p] := by
      unfold insE
      rw [if_neg hp]
    rw [List.foldl_cons, e, fold_new ps (acc ++ [p]) (by rw [List.append_assoc]; exact h), List.append_assoc]
    rfl
theorem gath_new {ps : List Ent} (h : (ps.map (·.1)).Nodup) : gath ps = ps := by
  have := fold_new ps [] (by simpa using h)
  unfold gath
  simpa using this
theorem eqvA_strs : ∀ a : List Str, PyData.eqvAll (a.map .str) (a.map .str) = true
  | [] => by simp [PyData.eqvAll]
  | x :: a => by
    have := eqvA_strs a
    simp only [List.map_cons, PyData.eqvAll, PyData.eqv, this]
    simp
theorem pyd_strs : ∀ l : List Str, PyDs (l.map D.str) (l.map .str)
  | [] => .nil
  | i :: l => .cons (.str i) (pyd_strs l)
theorem can_strs : ∀ l : List Str, (∀ s ∈ l, PyData.strOk s = true) → PyData.canLayAll0 (l.map .str) = true
  | [], _ => rfl
  | i :: l, h => by
    rw [List.map_cons, PyData.canLayAll0, can_strs l fun s hs => h s (List.mem_cons_of_mem _ hs)]
    have := h i (List.mem_cons_self ..)
    simp [PyData.canLay0, this]
theorem tx_ok {z : List Nat} (hz : LetZ z) {l : List Nat} (hl : ∀ a ∈ l, a < z.length) : PyData.strOk (tx z l) = true := by
  unfold PyData.strOk
  rw [Array.all_eq_true_iff_forall_mem]
  intro c hc
  have : c ∈ l.map fun a => z.getD a 0 := by
    rw [← tx_cps]
    exact Array.mem_toList_iff.mpr hc
  obtain ⟨a, ha, rfl⟩ := List.mem_map.mp this
  have la := hl a ha
  have : z.getD a 0 ∈ z := by
    rw [List.getD_eq_getElem?_getD, List.getElem?_eq_getElem la]
    exact List.getElem_mem la
  have := hz.lo _ this
  simp only [decide_eq_true_eq]
  omega
theorem pcs_ok {z : List Nat} {m n b : Nat} {es : List Ent} (hz : LetZ z) (hm : z.length = m) (ge : GE m n b es) : ∀ s ∈ pcs z es, PyData.strOk s = true := fun s hs => by
  subst hm
  obtain ⟨l, hl, rfl⟩ := List.mem_map.mp hs
  have g := (same_lots (pl_lt ge)).1
  exact tx_ok hz (g.lt l ((List.mergeSort_perm _ _).mem_iff.mp hl))
theorem dep_strs : ∀ l : List Str, PyData.depthAll (l.map .str) = 0
  | [] => rfl
  | i :: l => by
    rw [List.map_cons, PyData.depthAll, dep_strs l]
    rfl
theorem shaped_strs (l : List Str) (h : ∀ s ∈ l, PyData.strOk s = true) : SeqAt.shaped (.list (l.map .str)) = true := by
  unfold SeqAt.shaped
  rw [Bool.and_eq_true, decide_eq_true_eq]
  refine ⟨can_strs l h, ?_⟩
  show PyData.depthAll _ + 1 ≤ 64
  rw [dep_strs]
  decide
theorem od_neStrs {X : Cx} {Q : D → Prop} {l : List Str} (hu : X.A.units + 64 < cLine) (h : ∀ s ∈ l, PyData.strOk s = true) (q : Q (.bl false)) : OD X (compareOp .NotEq) (.lst (l.map D.str)) (.lst (l.map D.str)) Q := by
  refine od_ned hu (.lst (pyd_strs l)) (.lst (pyd_strs l)) (shaped_strs l h) (shaped_strs l h) ?_
  show Q (.bl (!PyData.eqvAll _ _))
  rw [eqvA_strs]
  exact q
theorem near_far {z : List Nat} (es : List Ent) : (nearE z es ++ farE z es).Perm es := List.filter_append_perm _ es
section
variable {P : Program} {w : World} {K : PySem.W.Frag} {mg : Str → Option Value} {base : Heap} {C CB : Addr}
structure OHr (P : Program) (w : World) (K : PySem.W.Frag) (mg : Str → Option Value) (base : Heap) (C CB : Addr) : Prop where
  V : Bt P w K mg base C CB
  rp : Sm P w K mg base C "__repr__" 1 (sp1b C 1900 fun p => .str (reprF p))
  ls : Df P w K mg base "_law_lots" 2 1 spLs
  lp : Df P w K mg base "_law_pieces" 3 2 spLp
  pi : Df P w K mg base "pieces" 4 1 (spPi C CB)
  wh : Df P w K mg base "is_whole" 5 1 (spWh C CB)
  hv : Df P w K mg base "halves" 9 1 (spHv C CB)
  hvK : DfK P w K mg base "halves" 9 ["blend"] id (spHv C CB)
  am : Mt P w K mg base CB "amount" 4 (spAmount C CB)
  add : Sm P w K mg base CB "__add__" 9 (spBAdd C CB)
  any : mg "any" = none
abbrev spHr (C CB : Addr) : SpD := fun as Q => ∃ z, ∃ m n b : Nat, ∃ es, as = [.val (.str (SX.S z)), .val (.lst ((es.map (·.1)).map tI)), .val (Bo C CB z n es)] ∧ LetZ z ∧ z.length = m ∧ n ≤ 8 ∧ 2 ≤ b ∧ b ≤ 900 ∧ GE m n b es ∧ srt es = es ∧ es.length ≤ 12 ∧ Q (.bl true)
abbrev NHr : List Str := ["_law_letters_here", "_law_products_here", "_law_blend_here", "_law_lots_here", "_law_told", "_law_half", "_law_near", "_law_far", "_law_some", "_law_counts_here", "_law_at"]
theorem sc_hr : FnScope NHr ["_law_letters_here", "_law_products_here", "_law_blend_here"] (defScope (top 57)) := ⟨rfl, rfl, rfl, by decide +kernel, rfl, by decide +kernel, by decide +kernel⟩
theorem ps0_of {z : List Nat} {m n b : Nat} {es : List Ent} (hz : LetZ z) (hm : z.length = m) (ge : GE m n b es) (h : es.length ≤ 60) : Ps0 z.length (es.map (·.1)) :=
  ⟨fun k hk => by obtain ⟨e, he, rfl⟩ := List.mem_map.mp hk; rw [hm]; exact ge.len e he, hz.l8, by rw [List.length_map]; exact h⟩
theorem plE_eq (es : List Ent) : (es.map (·.1)).map pl = plE es := by rw [List.map_map]; rfl
section
variable {f : Addr} {cdv : Value} {A : Around} {outer : List Env} {s : Shared} {H : Hp} {W : Wd} {z : List Nat} {m n b : Nat} {es : List Ent}
abbrev XHr (P : Program) (w : World) (K : PySem.W.Frag) (mg : Str → Option Value) (base : Heap) (f : Addr) (cdv : Value) (A : Around) (outer : List Env) (s : Shared) (H : Hp) := Bx P w K mg base NHr "_law_halves_right" (top 57) f cdv A outer s H
def hrBody : List Stmt := match stN (top 57) 5 with
  | .For _ _ b _ _ => b
  | _ => []
/-- one half as it must be -/
theorem hr_half (O : OHr P w K mg base C CB) (hr : Room 10 (XHr P w K mg base f cdv A outer s H).A) (hG : (XHr P w K mg base f cdv A outer s H).A.guards = some (gOf (XHr P w K mg base f cdv A outer s H))) (hz : LetZ z) (hm : z.length = m) (hn : n ≤ 8) (b2 : 2 ≤ b) (hb : b ≤ 900) (ge : GE m n b es) (l12 : es.length ≤ 12) {fs : List Ent} (sb : fs.Sublist es) {o1 o3 o4 o6 o7 : Option Sl} {E : Ends'}
    (q : E.nx [some (.val (.str (SX.S z))), o1, some (.val (Bo C CB z n es)), o3, o4, some (.val (Bo C CB z n fs)), o6, o7, some (.val (.lst ((fs.map (·.1)).map tI))), none, none]) : SDs (XHr P w K mg base f cdv A outer s H) H W [some (.val (.str (SX.S z))), o1, some (.val (Bo C CB z n es)), o3, o4, some (.val (Bo C CB z n fs)), o6, o7, some (.val (.lst ((fs.map (·.1)).map tI))), none, none] hrBody E := by
  have nd := sc_hr.nd
  have V := O.V
  have T := V.L.V.T
  have gf := ge.subl sb
  have fl := Nat.le_trans sb.length_le l12
  have z8 := hz.l8
  refine sds_cons (sd_if (td_of (tw_or (td_cmp (pL V (hr.mono (j := 2) (by decide)) hG (nm 5 ⟨rfl, nm 0 (od_nes (kB ?_))⟩))))))
  rw [decide_eq_true rfl]
  show TW _ _ _ _ _
  refine tw_or1 (td_cmp (ed_callB T.repr (ad_cons (mE V gf (hr.mono (j := 1) (by decide)) hG (nm 5 ⟨rfl, ad_nil (cd_reprE (by omega) O.rp (hr.mono (j := 4) (by decide)) hG gf hn (by omega) (by omega) (ed_callB T.repr (ad_cons (ed_fd (fd_mp (d0 := .lst ((fs.map (·.1)).map tI)) (f := fun e : Ent => tI e.1) (u := fun e : Ent => D.tup [tI e.1, Ra C (fr e.2)]) (l := fs) 9 rfl nd (own := [("_law_counts_here", 9)]) (blkOk_by (by show blkC NHr (defScope (top 57)) _ _ = true; decide +kernel)) (fun _ _ _ _ _ => pg_name (i := 9) nd rfl (Or.inl rfl)) (by simp) (by omega) (.inl (by rw [List.map_map]; rfl)) (nm 8 rfl) ?_ (ad_nil (cd_reprE (es := fs) (by omega) O.rp (hr.mono (j := 4) (by decide)) hG gf hn (by omega) (by omega) (od_nes (kB ?_)))))))))⟩)))))
  · intro e he s2 H0 C2 cl fp
    refine ed_tup (ad_cons (nm 9 (ad_cons (ed_meth V.T.nu.cl O.am (hr.mono (j := 4) (by decide)) hG (nm 2 ⟨bf C z n es, rfl, lkN (by decide +kernel) (by decide +kernel) (by decide +kernel), ad_cons (nm 9 (ad_nil ⟨z, n, es, tI e.1, e.1, rfl, .inr rfl, by rw [hm]; exact gf.len e he, z8, gf.nn e he, ad_nil ⟨[tI e.1, Ra C (fr (amt es e.1))], rfl, by simp, ?_⟩⟩))⟩)))))
    rw [amt_in (r := e.2) ge.nd (sb.subset he)]
  · rw [decide_eq_true rfl]
    show SDs _ _ _ _ _ _
    have pf := ps0_of (n := n) hz hm gf (by omega)
    refine sds_nil (sds_cons (sd_if (td_of (tw_or (td_cmp (ed_call O.pi (hr.mono (j := 4) (by decide)) hG (ad_cons (nm 5 (ad_nil ⟨z, m, n, b, fs, rfl, hz, hm, hn, by omega, gf, ed_call O.lp (hr.mono (j := 3) (by decide)) hG (ad_cons (nm 0 (ad_cons (nm 8 (ad_nil ⟨z, fs.map (·.1), rfl, hz, pf, ?_⟩)))))⟩)))))))))
    rw [plE_eq]
    refine od_neStrs (un64 hr) (pcs_ok hz hm gf) (kB ?_)
    show TW _ _ _ _ _
    refine tw_or1 (td_cmp (ed_call O.wh (hr.mono (j := 5) (by decide)) hG (ad_cons (nm 5 (ad_nil ⟨z, m, n, b, fs, rfl, hz, hm, hn, by omega, gf, ed_cmp (ed_callB T.len (ad_cons (ed_call O.ls (hr.mono (j := 2) (by decide)) hG (ad_cons (nm 8 (ad_nil ⟨z.length, fs.map (·.1), rfl, pf, ad_nil (cd_len (.inl rfl) (ed_int (od_lt (od_neb (un64 hr) (kB ?_)))))⟩))))))⟩)))))
    have e : decide ((pcs z fs).length ≤ 1) = decide ((((byHd (allL z.length ((fs.map (·.1)).map pl))).map LD).length : Int) < 2) := by
      rw [plE_eq]
      unfold pcs
      rw [List.length_map, List.length_map]
      exact decide_eq_decide.mpr (by omega)
    rw [e, decide_eq_true rfl]
    show SDs _ _ _ _ _ _
    exact sds_nil (sds_nil q)
end
theorem ok_hr {f : Addr} {fd : FuncData} (F : FunS K "_law_halves_right" "_law_halves_right" (top 57) f fd) (O : OHr P w K mg base C CB) : GnOk P w K mg base 11 f fd ["_law_letters_here", "_law_products_here", "_law_blend_here"] (lift K (spHr C CB)) := by
  refine gn_dl F sc_hr (fun as Q h => by obtain ⟨_, _, _, _, _, rfl, _⟩ := h; rfl) (fun cdv A outer s H hr hG W as Q h => ?_)
  obtain ⟨z, m, n, b, es, rfl, hz, hm, hn, b2, hb, ge, so, l12, q⟩ := h
  have nd := sc_hr.nd
  have V := O.V
  have T := V.L.V.T
  have p0 := ps0_of (n := n) hz hm ge (by omega)
  have z8 := hz.l8
  have gl := (same_lots (Ps := plE es) (m := z.length) (by rw [hm]; exact pl_lt ge)).1
  have lenL : (byHd (allL z.length (plE es))).length = (pcs z es).length := by unfold pcs; rw [List.length_map]
  by_cases c : (pcs z es).length ≤ 1
  · refine sds_cons (sd_asg (ed_tup (ad_cons (ed_call O.ls (hr.mono (j := 2) (by decide)) hG (ad_cons (nm 1 (ad_nil ⟨z.length, es.map (·.1), rfl, p0, ad_cons (ed_call O.hv (hr.mono (j := 9) (by decide)) hG (ad_cons (nm 2 (ad_nil ⟨z, m, n, b, es, rfl, hz, hm, hn, by omega, ge, so, ?_⟩))))⟩)))))))
    rw [if_pos c]
    refine ad_nil ⟨[.lst ((byHd (allL z.length ((es.map (·.1)).map pl))).map LD), .non], rfl, by simp, gd_tup rfl (gds_cons (gd_name 3 nd rfl (gds_cons (gd_name 4 nd rfl (gds_nil ?_))))) rfl⟩
    refine sds_cons (sd_if (td_cmp (ed_callB T.len (ad_cons (nm 3 (ad_nil (cd_len (.inl rfl) (ed_int (od_lt (kB ?_))))))))))
    rw [plE_eq, List.length_map, lenL, decide_eq_true (by omega)]
    show SDs _ _ _ _ _ _
    refine sds_cons (sd_ret (ed_and (ed_cmp (nm 4 (ed_non (od_isN (kB ?_)))))))
    show ED _ _ _ _ _
    refine ed_one (ed_cmp (ed_callK0 O.hvK (hr.mono (j := 9) (by decide)) hG (kd_cons (nm 2 (kd_nil ⟨rfl, z, m, n, b, es, rfl, hz, hm, hn, by omega, ge, so, ?_⟩)))))
    rw [if_pos c]
    exact ed_non (od_isN q)
  · have c' : 1 < (pcs z es).length := by omega
    obtain ⟨lm, l0⟩ := lot0_mem c'
    have lL : lot0 z es ∈ allL z.length (plE es) := (List.mergeSort_perm _ _).mem_iff.mp lm
    have s1 : (nearE z es).Sublist es := List.filter_sublist
    have s2 : (farE z es).Sublist es := List.filter_sublist
    have g1 := ge.subl s1
    have g2 := ge.subl s2
    refine sds_cons (sd_asg (ed_tup (ad_cons (ed_call O.ls (hr.mono (j := 2) (by decide)) hG (ad_cons (nm 1 (ad_nil ⟨z.length, es.map (·.1), rfl, p0, ad_cons (ed_call O.hv (hr.mono (j := 9) (by decide)) hG (ad_cons (nm 2 (ad_nil ⟨z, m, n, b, es, rfl, hz, hm, hn, by omega, ge, so, ?_⟩))))⟩)))))))
    rw [if_neg c, plE_eq]
    refine ad_nil ⟨[.lst ((byHd (allL z.length (plE es))).map LD), .tup [Bo C CB z n (nearE z es), Bo C CB z n (farE z es)]], rfl, by simp, gd_tup rfl (gds_cons (gd_name 3 nd rfl (gds_cons (gd_name 4 nd rfl (gds_nil ?_))))) rfl⟩
    refine sds_cons (sd_if (td_cmp (ed_callB T.len (ad_cons (nm 3 (ad_nil (cd_len (.inl rfl) (ed_int (od_lt (kB ?_))))))))))
    rw [List.length_map, lenL, decide_eq_false (by omega)]
    show SDs _ _ _ _ _ _
    refine sds_nil (sds_cons (sd_if (td_of (tw_or (td_not (td_val (ed_callB T.isi (ad_cons (nm 4 (ad_cons (ed_ty T.tuple (ad_nil (cd_isi (.tup _) (.ty _) (same (beq_self_eq_true _)) (kB ?_))))))))))))))
    show TW _ _ _ _ _
    refine tw_or (td_cmp (ed_callB T.len (ad_cons (nm 4 (ad_nil (cd_len (l := [Bo C CB z n (nearE z es), Bo C CB z n (farE z es)]) (.inr rfl) (ed_int (od_nei (kB ?_)))))))))
    show TW _ _ _ _ _
    refine tw_or1 (td_not (td_val (ed_callB T.all (ad_cons (ed_fd (fd_mp (d0 := .tup [Bo C CB z n (nearE z es), Bo C CB z n (farE z es)]) (f := fun fs : List Ent => Bo C CB z n fs) (u := fun _ => D.bl true) (l := [nearE z es, farE z es]) 5 rfl nd (own := [("_law_half", 5)]) (blkOk_by (by show blkC NHr (defScope (top 57)) _ _ = true; decide +kernel)) (fun _ _ _ _ _ => pg_name (i := 5) nd rfl (Or.inl rfl)) (by simp) (by simp) (.inr rfl) (nm 4 rfl) ?_ (ad_nil (cd_all (bs := [true, true]) rfl (kB ?_)))))))))
    · intro fs _ s2 H0 C2 cl fp
      exact ed_callB T.isi (ad_cons (nm 5 (ad_cons (ed_cls V.T.mB (ad_nil (cd_isi (.obj _ V.T.is) (.cls _) (same (beq_self_eq_true _)) rfl))))))
    show SDs _ _ _ _ _ _
    refine sds_nil (sds_cons (sd_set 6 nd rfl (ed_fd (fd_ft (d0 := .lst ((es.map (·.1)).map tI)) (f := fun e : Ent => tI e.1) (u := fun e : Ent => tI e.1) (t := fun e : Ent => meets (pl e.1) (lot0 z es)) (l := es) 9 rfl nd (own := [("_law_counts_here", 9)]) (blkOk_by (by show blkC NHr (defScope (top 57)) _ _ = true; decide +kernel)) (fun _ _ _ _ _ => pg_name (i := 9) nd rfl (Or.inr rfl)) (by simp) (by omega) (.inl (by rw [List.map_map]; rfl)) (nm 1 rfl) ?_ ?_ ?_))))
    · intro e he s2 H0 C2 cl fp
      have lt := gl.lt _ lL
      have ll : (lot0 z es).length ≤ z.length := by
        have := subset_len (m := List.range z.length) (gl.asc _ lL).nd fun x hx => List.mem_range.mpr (lt x hx)
        rwa [List.length_range] at this
      have kl := ge.len e he
      refine td_val (ed_callB O.any (ad_cons (ed_fd (fd_mp (f := fun a : Nat => D.int (a : Int)) (u := fun a => D.bl (decide (0 < e.1.getD a 0))) (l := lot0 z es) 10 rfl nd (own := [("_law_at", 10)]) (blkOk_in (N := NHr) (blkOk_by (by decide +kernel))) (fun _ _ _ _ _ => pg_name (i := 10) nd rfl (Or.inl rfl)) (by simp) (by omega) (.inl (by rw [iN_D])) (ed_ix (nm 3 (ed_int ⟨(byHd (allL z.length (plE es))).map LD, 0, LD (lot0 z es), .inl rfl, rfl, atI_nat (j := 0) (by rw [List.getElem?_map, l0]; rfl), rfl⟩))) ?_ ?_))))
      · intro a ha s3 H3 C3 cl3 fp3
        have la : a < e.1.length := by rw [kl, ← hm]; exact lt a ha
        refine ed_cmp (ed_ix (nm 9 (nm 10 ⟨e.1.map D.int, (a : Int), .int (e.1.getD a 0), .inr rfl, rfl, atI_nat (by rw [List.getElem?_map, List.getD_eq_getElem?_getD, List.getElem?_eq_getElem la]; rfl), ed_int (od_gt rfl)⟩)))
      · rw [show ((lot0 z es).map fun a => D.bl (decide (0 < e.1.getD a 0))) = ((lot0 z es).map fun a => decide (0 < e.1.getD a 0)).map D.bl by rw [List.map_map]; rfl]
        refine ad_nil (cd_any rfl (kB ?_))
        unfold meets
        rw [List.any_map, Bool.eq_iff_iff]
        simp only [List.any_eq_true, Function.comp_apply, id_eq, decide_eq_true_eq]
        constructor
        · rintro ⟨a, ha, h⟩
          exact ⟨a, ha, mem_pl.mpr ⟨by rw [kl, ← hm]; exact lt a ha, h⟩⟩
        · rintro ⟨a, ha, h⟩
          exact ⟨a, ha, (mem_pl.mp h).2⟩
    · intro e he _ s2 H0 C2 cl fp
      exact nm 9 rfl
    have en : (es.filter fun e => meets (pl e.1) (lot0 z es)) = nearE z es := rfl
    rw [en, show ((nearE z es).map fun e : Ent => tI e.1) = ((nearE z es).map (·.1)).map tI by rw [List.map_map]; rfl]
    refine sds_cons (sd_ft 7 rfl rfl 9 rfl nd (d0 := .lst ((es.map (·.1)).map tI)) (f := fun e : Ent => tI e.1) (u := fun e : Ent => tI e.1) (t := fun e : Ent => !meets (pl e.1) (lot0 z es)) (l := es) (own := [("_law_counts_here", 9)]) (blkOk_by (by show blkC NHr (defScope (top 57)) _ _ = true; decide +kernel)) (fun _ _ _ _ _ => pg_name (i := 9) nd rfl (Or.inl rfl)) (by simp) (by omega) (.inl (by rw [List.map_map]; rfl)) (nm 1 rfl) ?_ ?_ ?_)
    · intro e he s2 H0 C2 cl fp
      refine td_cmp (nm 9 (nm 6 (od_ninT (u65 hr) (kB ?_))))
      congr 1
      rw [Bool.eq_iff_iff, decide_eq_true_eq, List.mem_map]
      constructor
      · rintro ⟨x, hx, ex⟩
        have h2 := (List.mem_filter.mp hx).2
        rw [ex] at h2
        exact h2
      · exact fun h => ⟨e, List.mem_filter.mpr ⟨he, h⟩, rfl⟩
    · intro e he _ s2 H0 C2 cl fp
      exact nm 9 rfl
    have ef : (es.filter fun e => !meets (pl e.1) (lot0 z es)) = farE z es := rfl
    rw [ef, show ((farE z es).map fun e : Ent => tI e.1) = ((farE z es).map (·.1)).map tI by rw [List.map_map]; rfl]
    refine sds_frz 7 _ rfl ?_
    refine sds_cons (sd_forZ (l := [Bo C CB z n (nearE z es), Bo C CB z n (farE z es)]) (l' := [.lst (((nearE z es).map (·.1)).map tI), .lst (((farE z es).map (·.1)).map tI)]) PassesOwn.never rfl T.zip rfl (fun i S' => ∃ o5 o8, S' = [some (.val (.str (SX.S z))), some (.val (.lst ((es.map (·.1)).map tI))), some (.val (Bo C CB z n es)), some (.val (.lst ((byHd (allL z.length (plE es))).map LD))), some (.val (.tup [Bo C CB z n (nearE z es), Bo C CB z n (farE z es)])), o5, some (.val (.lst (((nearE z es).map (·.1)).map tI))), some (.val (.lst (((farE z es).map (·.1)).map tI))), o8, none, none]) (ad_cons (nm 4 (ad_cons (ed_lst (ad_cons (nm 6 (ad_cons (nm 7 (ad_nil ⟨[.lst (((nearE z es).map (·.1)).map tI), .lst (((farE z es).map (·.1)).map tI)], rfl, by simp, ad_nil ⟨_, _, rfl, .inr rfl, .inl rfl, none, none, rfl⟩⟩))))))))) ?_ ?_)
    · rintro i d d' S' hd hd' ⟨o5, o8, rfl⟩
      match i, hd, hd' with
      | 0, hd, hd' =>
        cases hd
        cases hd'
        refine gd_tup rfl (gds_cons (gd_name 5 nd rfl (gds_cons (gd_name 8 nd rfl (gds_nil ?_))))) rfl
        exact hr_half O hr hG hz hm hn b2 hb ge l12 s1 ⟨_, _, rfl⟩
      | 1, hd, hd' =>
        cases hd
        cases hd'
        refine gd_tup rfl (gds_cons (gd_name 5 nd rfl (gds_cons (gd_name 8 nd rfl (gds_nil ?_))))) rfl
        exact hr_half O hr hG hz hm hn b2 hb ge l12 s2 ⟨_, _, rfl⟩
      | i + 2, hd, _ => simp at hd
    · rintro S' ⟨o5, o8, rfl⟩
      have pm : (nearE z es ++ farE z es).Perm es := near_far es
      have gA : GE m n b (nearE z es ++ farE z es) := ge.perm pm
      have gAn := gath_new gA.nd
      refine sds_cons (sd_ret (ed_and (ed_cmp (ed_bin (ed_ix (nm 4 (ed_int ⟨[Bo C CB z n (nearE z es), Bo C CB z n (farE z es)], 0, Bo C CB z n (nearE z es), .inr rfl, rfl, atI_nat (j := 0) rfl, ed_ix (nm 4 (ed_int ⟨[Bo C CB z n (nearE z es), Bo C CB z n (farE z es)], 1, Bo C CB z n (farE z es), .inr rfl, rfl, atI_nat (j := 1) rfl, od_oo (op := .Add) V.T.nu O.add (hr.mono (j := 9) (by decide)) hG ⟨z, m, n, n, n, b, nearE z es, farE z es, rfl, hz, hm, hn, by omega, g1, g2, .inr (.inr rfl), fun i e he => ?_, by rw [gAn]; exact gA, nm 2 ?_⟩⟩))⟩)))))))
      · have nd2 : (((nearE z es ++ farE z es).take i).map (·.1)).Nodup := gA.nd.sublist ((List.take_sublist _ _).map _)
        rw [gath_new nd2] at he
        exact (gA.bq e (List.mem_of_mem_take he)).le (by omega)
      · rw [gAn, srt_congr ge hn pm, so]
        refine od_eqB V ge.nd (hr.mono (j := 4) (by decide)) hG (kB ?_)
        show ED _ _ _ _ _
        refine ed_one (ed_cmp (ed_ix (ed_callK0 O.hvK (hr.mono (j := 9) (by decide)) hG (kd_cons (nm 2 (kd_nil ⟨rfl, z, m, n, b, es, rfl, hz, hm, hn, by omega, ge, so, ?_⟩))))))
        rw [if_neg c]
        exact ed_int ⟨[Bo C CB z n (nearE z es), Bo C CB z n (farE z es)], 1, Bo C CB z n (farE z es), .inr rfl, rfl, atI_nat (j := 1) rfl, ed_ix (nm 4 (ed_int ⟨[Bo C CB z n (nearE z es), Bo C CB z n (farE z es)], 1, Bo C CB z n (farE z es), .inr rfl, rfl, atI_nat (j := 1) rfl, od_eqB V g2.nd (hr.mono (j := 4) (by decide)) hG q⟩))⟩
end
end K21

set_option Elab.async false
set_option linter.all false
set_option maxRecDepth 100000
set_option maxHeartbeats 8000000
/-! k21: all is right -/
namespace K21
open PySem L2 DL M21
/-- texts of at most eight letters each -/
structure Tok (l : List Str) : Prop where
  ok : ∀ s ∈ l, PyData.strOk s = true
  sz : ∀ s ∈ l, s.cps.size ≤ 8
  few : l.length ≤ 8
theorem strs_show : ∀ l : List Str, PyData.showableAll (l.map .str) = true
  | [] => by simp [PyData.showableAll]
  | x :: l => by
    have := strs_show l
    simp only [List.map_cons, PyData.showableAll, PyData.showable, this]
    rfl
theorem strs_short : ∀ l : List Str, (∀ s ∈ l, PyData.strOk s = true) → PyData.leavesShortAll 13 (l.map .str) = true
  | [], _ => by simp [PyData.leavesShortAll]
  | x :: l, h => by
    have h1 := strs_short l fun s hs => h s (List.mem_cons_of_mem _ hs)
    have h2 := h x (List.mem_cons_self ..)
    rw [List.map_cons, PyData.leavesShortAll, h1, Bool.and_true]
    show (x.cps.toList.all fun c => decide (c < 16 ^ 8)) = true
    unfold PyData.strOk at h2
    rw [Array.all_eq_true_iff_forall_mem] at h2
    rw [List.all_eq_true]
    intro c hc
    have := h2 c (Array.mem_toList_iff.mp hc)
    have h3 : c < 0x110000 := by simpa using this
    exact decide_eq_true (Nat.lt_of_lt_of_le h3 (by decide))
theorem strs_weight : ∀ l : List Str, (∀ s ∈ l, s.cps.size ≤ 8) → PyData.weightAll (l.map .str) ≤ 100 * l.length
  | [], _ => by simp [PyData.weightAll]
  | x :: l, h => by
    have h1 := strs_weight l fun s hs => h s (List.mem_cons_of_mem _ hs)
    have h2 := h x (List.mem_cons_self ..)
    simp only [List.map_cons, PyData.weightAll, PyData.weight, List.length_cons]
    omega
theorem Tok.fits {l : List Str} (h : Tok l) : (PyData.list (l.map .str)).shown.length ≤ sizeLine := by
  refine PyData.shown_fits (B := 13) (by decide) (by decide) (by show PyData.leavesShortAll 13 _ = true; exact strs_short l h.ok) ?_
  have := strs_weight l h.sz
  have := h.few
  simp only [PyData.weight]
  omega
theorem pcs_tok {z : List Nat} {m n b : Nat} {es : List Ent} (hz : LetZ z) (hm : z.length = m) (ge : GE m n b es) : Tok (pcs z es) := by
  refine ⟨pcs_ok hz hm ge, fun s hs => ?_, ?_⟩
  · obtain ⟨l, hl, rfl⟩ := List.mem_map.mp hs
    have g := (same_lots (Ps := plE es) (m := z.length) (by rw [hm]; exact pl_lt ge)).1
    have lL : l ∈ allL z.length (plE es) := (List.mergeSort_perm _ _).mem_iff.mp hl
    have := subset_len (m := List.range z.length) (g.asc l lL).nd fun x hx => List.mem_range.mpr (g.lt l lL x hx)
    rw [List.length_range] at this
    have := hz.l8
    simp [tx]
    omega
  · have := pcs_len hm ge
    have := hz.l8
    omega
theorem u16 {X : Cx} {k : Nat} (hr : Room k X.A) : X.A.units + 16 < cLine := by have := hr.un; omega
theorem eqv_pIs : ∀ ls : List (List Int), PyData.eqvAll (ls.map pI) (ls.map pI) = true
  | [] => by simp [PyData.eqvAll]
  | x :: a => by
    have := eqv_pIs a
    simp only [List.map_cons, PyData.eqvAll, this, eqv_pI]
    simp
section
variable {X : Cx} {Q : D → Prop}
theorem od_neTups {ls : List (List Int)} (hu : X.A.units + 64 < cLine) (q : Q (.bl false)) : OD X (compareOp .NotEq) (.lst (ls.map tI)) (.lst (ls.map tI)) Q := by
  refine od_ned hu (.lst (pyd_tIs ls)) (.lst (pyd_tIs ls)) (shaped_pIs ls) (shaped_pIs ls) ?_
  show Q (.bl (!PyData.eqvAll _ _))
  rw [eqv_pIs]
  exact q
theorem cd_reprStrs {l : List Str} {k : Nat} (h : Tok l) (hG : X.A.guards = some (gOf X)) (hr : Room k X.A) (q : Q (.str (PyData.list (l.map .str)).shown)) : CD X (.builtin "repr") [.val (.lst (l.map D.str))] Q := by
  have d1 : (PyData.list (l.map .str)).depth = 1 := by
    show PyData.depthAll _ + 1 = 1
    rw [dep_strs]
  exact cd_repr hG (by rw [d1]; have := hr.un; omega) (.lst (pyd_strs l)) (by show PyData.showableAll _ = true; exact strs_show l) h.fits q
theorem cd_reprBools {a b : Bool} {k : Nat} (hG : X.A.guards = some (gOf X)) (hr : Room k X.A) (q : Q (.str (PyData.list [.bool a, .bool b]).shown)) : CD X (.builtin "repr") [.val (.lst [.bl a, .bl b])] Q := by
  refine cd_repr hG (by have e : (PyData.list [.bool a, .bool b]).depth = 1 := rfl; rw [e]; have := hr.un; omega) (.lst (.cons (.bl a) (.cons (.bl b) .nil))) (by rfl) ?_ q
  cases a <;> cases b <;> decide +kernel
end
end K21

set_option Elab.async false
set_option linter.all false
set_option maxRecDepth 100000
set_option maxHeartbeats 8000000
/-! k21: _law_right, law -/
namespace K21
open PySem L2 DL M21
section
variable {P : Program} {w : World} {K : PySem.W.Frag} {mg : Str → Option Value} {base : Heap} {C CB : Addr}
structure ORi (P : Program) (w : World) (K : PySem.W.Frag) (mg : Str → Option Value) (base : Heap) (C CB : Addr) : Prop where
  O : OHr P w K mg base C CB
  dw : Df P w K mg base "_law_drawn" 10 1 (spDr C CB)
  br : Sm P w K mg base CB "__repr__" 5 (spBRepr C CB)
  piN : Nf P w K mg base "pieces" 4 (spPiN C CB)
  piK : DfK P w K mg base "pieces" 4 ["blend"] id (spPi C CB)
  whK : DfK P w K mg base "is_whole" 5 ["blend"] id (spWh C CB)
  hr : Df P w K mg base "_law_halves_right" 11 3 (spHr C CB)
abbrev spRight : SpD := fun as Q => as = [.pot] ∧ Q (.bl true)
abbrev NRi : List Str := ["_law_pot_here", "_law_letters_here", "_law_products_here", "_law_blend_here", "_law_due", "_law_shown", "_law_told", "_law_other", "_law_counts_here", "_law_amount_here"]
theorem sc_ri : FnScope NRi ["_law_pot_here"] (defScope (top 58)) := ⟨rfl, rfl, rfl, by decide +kernel, rfl, by decide +kernel, by decide +kernel⟩
def lblR (base : En) : D → En
  | .tup [a, b] => (itE base [("_law_counts_here", 8), ("_law_amount_here", 9)] 8 a).set 9 (some (.val b))
  | _ => []
theorem plE_seven (es : List Ent) : plE (es.map fun e => (e.1, (7 : Rat))) = plE es := by
  unfold plE
  rw [List.map_map]
  rfl
theorem paired7 (C : Addr) : ∀ es : List Ent, Paired (EntD C 10) (es.map fun e => D.tup [tI e.1, .int 7]) (es.map fun e => (e.1, (7 : Rat)))
  | [] => .nil
  | e :: es => .cons ⟨tI e.1, .int 7, rfl, .inr rfl, Nq.int 7 (Bq.int (n := 10) (by decide) (by decide))⟩ (paired7 C es)
theorem ok_ri {f : Addr} {fd : FuncData} (F : FunS K "_law_right" "_law_right" (top 58) f fd) (R : ORi P w K mg base C CB) : GnOk P w K mg base 12 f fd ["_law_pot_here"] (lift K spRight) := by
  refine gn_dl F sc_ri (fun as Q h => by obtain ⟨rfl, _⟩ := h; rfl) (fun cdv A outer s H hr hG W as Q h => ?_)
  obtain ⟨rfl, q⟩ := h
  have nd := sc_ri.nd
  have O := R.O
  have V := O.V
  have T := V.L.V.T
  refine sds_cons (sd_asg (ed_call R.dw (hr.mono (j := 10) (by decide)) hG (ad_pot 0 rfl rfl (ad_nil ⟨rfl, fun z m n es hd hz hm ge pk l12 so => gd_tup rfl (gds_cons (gd_name 1 nd rfl (gds_cons (gd_name 2 nd rfl (gds_cons (gd_name 3 nd rfl (gds_nil ?_))))))) rfl⟩))))
  obtain ⟨m1, m4, n8⟩ := dom_le hd
  have p0 := ps0_of (n := n) hz hm ge (by omega)
  have tk := pcs_tok hz hm ge
  have few := tk.few
  refine sds_cons (sd_par 4 5 rfl nd rfl rfl (by decide) rfl rfl (ad_cons (ed_call O.lp (hr.mono (j := 3) (by decide)) hG (ad_cons (nm 1 (ad_cons (nm 2 (ad_nil ⟨z, es.map (·.1), rfl, hz, p0, ad_cons (ed_callB T.repr (ad_cons (nm 3 (ad_nil (cd_reprO R.br (hr.mono (j := 6) (by decide)) hG ⟨z, m, n, 10, es, rfl, hz, hm, n8, by decide, ge, by omega, _, rfl, ad_nil ⟨_, _, rfl, ?_⟩⟩)))))⟩))))))))
  rw [plE_eq]
  refine sds_cons (sd_own 6 nd rfl (fd_callN R.piN (hr.mono (j := 4) (by decide)) hG (ad_cons (nm 3 (ad_nil ⟨z, m, n, 10, es, rfl, hz, hm, n8, by decide, ge, ?_⟩)))))
  refine sds_st (S' := [some .pot, some (.val (.str (SX.S z))), some (.val (.lst ((es.map (·.1)).map tI))), some (.val (Bo C CB z n es)), some (.val (.lst ((pcs z es).map D.str))), some (.val (.str (blT z es))), some (.own ((pcs z es).map D.str)), none, none, none]) rfl ?_
  refine sds_cons (sd_if (td_of (tw_or (td_cmp (ed_reprOwn 6 _ (q := .list ((pcs z es).map .str)) T.repr hG (u16 hr) rfl rfl (.lst (pyd_strs _)) (by show PyData.showableAll _ = true; exact strs_show _) tk.fits (by show PyData.depthAll _ + 1 ≤ 4; rw [dep_strs]; decide) (ed_callB T.repr (ad_cons (nm 4 (ad_nil (cd_reprStrs tk hG hr (od_nes (kB ?_))))))))))))
  rw [decide_eq_true rfl]
  show TW _ _ _ _ _
  refine tw_or1 (td_cmp (ed_callB T.repr (ad_cons (ed_lst (ad_cons (ed_call O.wh (hr.mono (j := 5) (by decide)) hG (ad_cons (nm 3 (ad_nil ⟨z, m, n, 10, es, rfl, hz, hm, n8, by decide, ge, ad_cons (ed_callK0 R.whK (hr.mono (j := 5) (by decide)) hG (kd_cons (nm 3 (kd_nil ⟨rfl, z, m, n, 10, es, rfl, hz, hm, n8, by decide, ge, ad_nil ⟨[.bl (decide ((pcs z es).length ≤ 1)), .bl (decide ((pcs z es).length ≤ 1))], rfl, by simp, ad_nil (cd_reprBools hG hr ?_)⟩⟩))))⟩)))))))))
  refine ed_callB T.repr (ad_cons (ed_bin (ed_lst (ad_cons (ed_cmp (ed_callB T.len (ad_cons (nm 4 (ad_nil (cd_len (.inl rfl) (ed_int (od_lt (ad_nil ⟨[.bl (decide (((((pcs z es).map D.str)).length : Int) < 2))], rfl, by simp, ed_int (od_repL (by decide) (by simp) (by decide) (ad_nil ?_))⟩)))))))))))))
  have e1 : (List.replicate (2 : Int).toNat [D.bl (decide (((((pcs z es).map D.str)).length : Int) < 2))]).flatten = [.bl (decide ((pcs z es).length ≤ 1)), .bl (decide ((pcs z es).length ≤ 1))] := by
    have : decide (((((pcs z es).map D.str)).length : Int) < 2) = decide ((pcs z es).length ≤ 1) := by
      rw [List.length_map]
      exact decide_eq_decide.mpr (by omega)
    rw [this]
    rfl
  rw [e1]
  refine cd_reprBools hG hr (od_nes (kB ?_))
  rw [decide_eq_true rfl]
  show SDs _ _ _ _ _ _
  refine sds_nil (sds_cons (sd_append 6 _ rfl rfl (by rw [List.length_map]; omega) (ed_str ?_)))
  obtain ⟨told, eT⟩ : ∃ l : List D, l = (pcs z es).map D.str ++ [.str (Str.ofString "q")] := ⟨_, rfl⟩
  refine sds_st (S' := [some .pot, some (.val (.str (SX.S z))), some (.val (.lst ((es.map (·.1)).map tI))), some (.val (Bo C CB z n es)), some (.val (.lst ((pcs z es).map D.str))), some (.val (.str (blT z es))), some (.own told), none, none, none]) (by rw [eT]; rfl) ?_
  refine sds_cons (sd_if (td_of (tw_or (td_cmp (ed_callB T.repr (ad_cons (ed_callK0 R.piK (hr.mono (j := 4) (by decide)) hG (kd_cons (nm 3 (kd_nil ⟨rfl, z, m, n, 10, es, rfl, hz, hm, n8, by decide, ge, ad_nil (cd_reprStrs tk hG hr (ed_callB T.repr (ad_cons (nm 4 (ad_nil (cd_reprStrs tk hG hr (od_nes (kB ?_))))))))⟩))))))))))
  rw [decide_eq_true rfl]
  show TW _ _ _ _ _
  refine tw_or1 (td_cmp (ed_fd (fd_lcL (l := enD C es) (fun i acc => acc = ((es.take i).map (·.1)).map tI) (lblR [some .pot, some (.val (.str (SX.S z))), some (.val (.lst ((es.map (·.1)).map tI))), some (.val (Bo C CB z n es)), some (.val (.lst ((pcs z es).map D.str))), some (.val (.str (blT z es))), some (.own told), none, none, none]) (g := gTup K 2 (gCons (gName 8) (gCons (gName 9) gNil))) (own := [("_law_counts_here", 8), ("_law_amount_here", 9)]) rfl nd (blkOk_by (by show blkC NRi (defScope (top 58)) _ _ = true; decide +kernel)) (fun _ _ _ _ _ => pg_tup rfl (pgs_cons (pg_name (i := 8) nd rfl (Or.inl rfl)) (pgs_cons (pg_name (i := 9) nd rfl (Or.inl rfl)) pgs_nil rfl) rfl)) (mE V ge (hr.mono (j := 1) (by decide)) hG (nm 3 ⟨rfl, rfl, by rw [enD_len]; omega, rfl⟩)) ?_ ?_ ?_)))
  · intro d hd
    obtain ⟨e, _, rfl⟩ := List.mem_map.mp hd
    exact pat_two 8 9 (by simp) (by simp)
  · intro i d acc hi _ ha s2 H0 C2 cl fp
    have hi' : (es.map fun e => D.tup [tI e.1, Ra C (fr e.2)])[i]? = some d := hi
    rw [List.getElem?_map] at hi'
    obtain ⟨e, he, rfl⟩ := Option.map_eq_some_iff.mp hi'
    refine nm 8 ?_
    rw [ha, List.take_add_one, he, List.map_append, List.map_append]
    rfl
  · intro acc _ ha
    rw [enD_len, List.take_length] at ha
    rw [ha]
    refine nm 2 (od_neTups (un64 hr) (kB ?_))
    show SDs _ _ _ _ _ _
    have e7 : ((es.map (·.1)).map tI) = (es.map fun e => tI e.1) := by rw [List.map_map]; rfl
    have g7 : GE m n 10 (es.map fun e => (e.1, (7 : Rat))) := by
      refine ⟨fun e he => ?_, fun e he => ?_, fun e he => ?_, fun e he => ?_, fun e he => ?_, ?_, by rw [List.length_map]; omega⟩
      · obtain ⟨x, hx, rfl⟩ := List.mem_map.mp he
        exact ge.len x hx
      · obtain ⟨x, hx, rfl⟩ := List.mem_map.mp he
        exact ge.nn x hx
      · obtain ⟨x, hx, rfl⟩ := List.mem_map.mp he
        exact ge.sum x hx
      · obtain ⟨x, hx, rfl⟩ := List.mem_map.mp he
        exact (by decide : (0 : Rat) < 7)
      · obtain ⟨x, hx, rfl⟩ := List.mem_map.mp he
        exact Bq.int (n := 10) (i := 7) (by decide) (by decide)
      · rw [List.map_map]
        exact ge.nd
    have so7 : srt (es.map fun e => (e.1, (7 : Rat))) = es.map fun e => (e.1, (7 : Rat)) := by
      refine (srt_eq g7 n8 (.refl _) (List.pairwise_map.mpr ?_)).symm
      have := srt_pair es
      rw [so] at this
      exact this
    have pc7 : pcs z (es.map fun e => (e.1, (7 : Rat))) = pcs z es := by
      unfold pcs
      rw [plE_seven]
    have pa7 := paired7 C es
    refine sds_nil (sds_cons (sd_set 7 nd rfl (ed_makeA V.mkA (hr.mono (j := 8) (by decide)) hG (ad_cons (nm 1 (ad_cons (ed_fd (fd_mp (d0 := .lst ((es.map (·.1)).map tI)) (f := fun e : Ent => tI e.1) (u := fun e : Ent => D.tup [tI e.1, .int 7]) (l := es) 8 rfl nd (own := [("_law_counts_here", 8)]) (blkOk_by (by show blkC NRi (defScope (top 58)) _ _ = true; decide +kernel)) (fun _ _ _ _ _ => pg_name (i := 8) nd rfl (Or.inl rfl)) (by simp) (by omega) (.inl (by rw [e7])) (nm 2 rfl) ?_ (ad_nil (.inl ⟨z, m, n, 10, es.map fun e => (e.1, (7 : Rat)), es.map fun e => D.tup [tI e.1, .int 7], _, rfl, .inl rfl, hz, hm, n8, by decide, g7, pa7, ?_⟩))))))))))
    · intro e he s2 H0 C2 cl fp
      exact ed_tup (ad_cons (nm 8 (ad_cons (ed_int (ad_nil ⟨[tI e.1, .int 7], rfl, by simp, rfl⟩)))))
    · rw [so7]
      refine sds_cons (sd_if (td_of (tw_or (td_cmp (ed_call O.pi (hr.mono (j := 4) (by decide)) hG (ad_cons (nm 7 (ad_nil ⟨z, m, n, 10, _, rfl, hz, hm, n8, by decide, g7, nm 4 ?_⟩))))))))
      rw [pc7]
      refine od_neStrs (un64 hr) (pcs_ok hz hm ge) (kB ?_)
      show TW _ _ _ _ _
      refine tw_or1 (td_not (td_val (ed_call R.hr (hr.mono (j := 11) (by decide)) hG (ad_cons (nm 1 (ad_cons (nm 2 (ad_cons (nm 3 (ad_nil ⟨z, m, n, 10, es, rfl, hz, hm, n8, by decide, by decide, ge, so, l12, kB ?_⟩))))))))))
      show SDs _ _ _ _ _ _
      refine sds_nil (sds_cons (sd_ret (ed_cmp (ed_callB T.repr (ad_cons (nm 3 (ad_nil (cd_reprO R.br (hr.mono (j := 6) (by decide)) hG ⟨z, m, n, 10, es, rfl, hz, hm, n8, by decide, ge, by omega, _, rfl, nm 5 (od_eqs ?_)⟩))))))))
      rw [decide_eq_true rfl]
      exact q
abbrev spLaw : SpD := fun as Q => ∃ ns : List Int, as = [.val (.frl ns)] ∧ Q (.bl true)
theorem sc_law : FnScope ["_law_script", "_law_k"] ["_law_script"] (defScope (top 59)) := ⟨rfl, rfl, rfl, by decide +kernel, rfl, by decide +kernel, by decide +kernel⟩
theorem ok_law {f : Addr} {fd : FuncData} (F : FunS K "law" "law" (top 59) f fd) (T : Txt K mg C) (hmin : mg "min" = none) (Pt : Nf P w K mg base "_law_pot" 1 spPot) (R : Df P w K mg base "_law_right" 12 1 spRight) : GnOk P w K mg base 13 f fd ["_law_script"] (lift K spLaw) := by
  refine gn_dl F sc_law (fun as Q h => by obtain ⟨_, rfl, _⟩ := h; rfl) (fun cdv A outer s H hr hG W as Q h => ?_)
  obtain ⟨ns, rfl, q⟩ := h
  have nd := sc_law.nd
  obtain ⟨n, hn, n2⟩ : ∃ n : Nat, (if (if (2 : Int) < (ns.length : Int) then 2 else (ns.length : Int)) > 1 then (if (2 : Int) < (ns.length : Int) then 2 else (ns.length : Int)) else 1) = (n : Int) ∧ n ≤ 2 := by
    refine ⟨(if (if (2 : Int) < (ns.length : Int) then 2 else (ns.length : Int)) > 1 then (if (2 : Int) < (ns.length : Int) then 2 else (ns.length : Int)) else 1).toNat, ?_, ?_⟩
    · split <;> split at * <;> omega
    · split <;> split at * <;> omega
  refine sds_cons (sd_ret (ed_callB T.all (ad_cons (ed_fd (fd_relR (n := n) (fun _ y => y = .bl true) 1 (own := [("_law_k", 1)]) rfl nd T.range (blkOk_by (by show blkC ["_law_script", "_law_k"] (defScope (top 59)) _ _ = true; decide +kernel)) (fun _ _ _ _ _ => pg_name (i := 1) nd rfl (Or.inl rfl)) (by omega) ?_ (by simp) ?_ ?_)))))
  · refine ad_cons (ed_callB T.max (ad_cons (ed_int (ad_cons (ed_callB hmin (ad_cons (ed_callB T.len (ad_cons (nm 0 (ad_nil (cd_lenF (ad_cons (ed_int (ad_nil (cd_min2 rfl (ad_nil (cd_max rfl (ad_nil ?_))))))))))))))))))
    rw [hn]
  · intro i hi s2 H0 C2 cl fp
    exact ed_call R hr hG (ad_newpot (fd_callN Pt (hr.mono (j := 1) (by decide)) hG (ad_cons (nm 0 (ad_cons (nm 1 (ad_nil ⟨ns, i, rfl, by omega, fun a b h => ⟨a, b, rfl, h, ad_nil ⟨rfl, rfl⟩⟩⟩)))))))
  · intro out ho
    refine ad_nil (cd_allT rfl (fun y hy => ?_) q)
    obtain ⟨i, hi, e⟩ := List.getElem_of_mem hy
    obtain ⟨y', e1, p⟩ := ho.2 i (by rw [← ho.1]; exact hi)
    rw [List.getElem?_eq_getElem hi] at e1
    cases e1
    rw [← e]
    exact p
end
end K21

set_option Elab.async false
set_option linter.all false
set_option maxRecDepth 100000
set_option maxHeartbeats 8000000
/-! k21: what the top has written, put together -/
namespace K21
open PySem L2 DL PySem.Spec PyProof.Rows
theorem kit_ref {K : PySem.W.Frag} {t : Value} {C : Addr} {b : Bool} (hd : PySem.W.hasDictIn K C = true) (ty : PySem.W.typeIn K (.ref C) = some (.type "type")) (n : ¬ t = .ref C) (s : PySem.W.subIn K t (.ref C) = some b) : PySem.W.kitOne K t (.ref C) = some b := by
  obtain ⟨cd, hc, _⟩ := PySem.W.any_some hd
  unfold PySem.W.kitOne
  rw [if_neg (by simpa using n)]
  show (if ((PySem.W.clsIn K C).isSome && PySem.W.typeIn K (.ref C) == some (.type "type")) = true then PySem.W.subIn K t (.ref C) else none) = some b
  rw [hc, ty, if_pos (by simp)]
  exact s
theorem kit_tyc {K : PySem.W.Frag} {C : Addr} {T : String} {b : Bool} (m : PySem.W.kitMeta T = true) (s : PySem.W.subIn K (.ref C) (.type T) = some b) : PySem.W.kitOne K (.ref C) (.type T) = some b := by
  unfold PySem.W.kitOne
  rw [if_neg (by simp)]
  show (if PySem.W.kitMeta T = true then PySem.W.subIn K (.ref C) (.type T) else none) = some b
  rw [if_pos m]
  exact s
theorem paired_rev {α β : Type} {R : α → β → Prop} : ∀ {l : List α} {m : List β}, Paired R l m → Paired R l.reverse m.reverse
  | _, _, .nil => .nil
  | _, _, .cons h t => by
    rw [List.reverse_cons, List.reverse_cons]
    exact Paired.snoc h (paired_rev t)
theorem fund1 {K : PySem.W.Frag} {x qual : Str} {st : Stmt} {f T : Addr} {oc : Value} {od an : Option Addr} {osl : Array (Option Value)} {kV doc pm cdv ct : Value} {tk : PySem.Tok} {oT : Value} {dT : Option Addr} {n : Nat} {sT : Array (Option Value)}
    (l : K.lookup f = some ⟨oc, od, .func (PySem.W.fnOf x qual (defArgs st) (defBody st) (defScope st) (.ref T) kV doc pm an cdv ct), osl⟩) (c : PySem.W.codeIn K cdv qual = true) (k : PySem.W.keepIn K (.ref f) = true) (t : K.lookup T = some ⟨oT, dT, .seq [Value.int 1 tk].toArray n, sT⟩) :
    FunD K x qual (defArgs st) (defBody st) (defScope st) [.int 1] [] f (PySem.W.fnOf x qual (defArgs st) (defBody st) (defScope st) (.ref T) kV doc pm an cdv ct) :=
  ⟨⟨oc, od, .ref T, kV, doc, pm, an, cdv, ct, osl, rfl, l, c, .inr ⟨by simp, T, _, [.int 1 tk], n, rfl, t, rfl, .cons ⟨tk, rfl⟩ .nil⟩, .inl rfl⟩, k⟩
theorem law_gives {K : PySem.W.Frag} (H : Hp) (a : Addr) (ns : List Int) (h : SqL K H a (ns.map V.int)) : lift K spLaw [] [.ref a] H fun v _ => v = .bl true :=
  ⟨[.val (.frl ns)], ⟨H, fun _ => False⟩, fun d => d = .bl true, ⟨fun b ⟨_, _, _, z⟩ => absurd z List.not_mem_nil, Ex.refl H, fun _ z => z.elim⟩, .cons (.frl h) .nil, ⟨ns, rfl, rfl⟩, fun d v W' H' _ _ n q => by
    cases n <;> first | rfl | (cases q; done) | (cases q; rfl)⟩
theorem fun_kbnG {K : PySem.W.Frag} {x qual : Str} {st : Stmt} {f : Addr} {fd : FuncData} {ps : List Str} {n : Nat} {ks : List Str} (g : ∀ {α : Type}, List α → List α) (hg : ∀ {α β : Type} {R : α → β → Prop} {l : List α} {m : List β}, Paired R l m → Paired R (g l) (g m)) (F : Fun K x qual st f fd)
    (h : ∀ (kV doc pm : Value) (an : Option Addr) (cdv ct : Value) (us ws : List Value), us.length = n → ws.length = ks.length → bindArgs (PySem.W.fnOf x qual (defArgs st) (defBody st) (defScope st) .none kV doc pm an cdv ct) ⟨us, ks.zip ws⟩ = pure (ps.zip (us ++ g ws))) :
    KBn K fd ps n ks (fun us ws => us ++ g ws) (fun vs zs => vs ++ g zs) := by
  obtain ⟨oc, od, kV, doc, pm, an, cdv, ct, osl, rfl, lk, hcd⟩ := F.ex
  exact ⟨fun s us ws _ l1 l2 => .of_eq (h kV doc pm an cdv ct us ws l1 l2), fun r1 r2 => r1.append (hg r2)⟩
theorem fundT {K : PySem.W.Frag} {x qual : Str} {st : Stmt} {f T T2 : Addr} {oc : Value} {od an : Option Addr} {osl : Array (Option Value)} {kV doc pm cdv ct : Value} {oT : Value} {dT : Option Addr} {n : Nat} {sT : Array (Option Value)}
    (l : K.lookup f = some ⟨oc, od, .func (PySem.W.fnOf x qual (defArgs st) (defBody st) (defScope st) (.ref T) kV doc pm an cdv ct), osl⟩) (c : PySem.W.codeIn K cdv qual = true) (k : PySem.W.keepIn K (.ref f) = true) (t : K.lookup T = some ⟨oT, dT, .seq [Value.ref T2].toArray n, sT⟩) :
    FunD K x qual (defArgs st) (defBody st) (defScope st) [.ref T2] [] f (PySem.W.fnOf x qual (defArgs st) (defBody st) (defScope st) (.ref T) kV doc pm an cdv ct) :=
  ⟨⟨oc, od, .ref T, kV, doc, pm, an, cdv, ct, osl, rfl, l, c, .inr ⟨by simp, T, _, [.ref T2], n, rfl, t, rfl, .cons rfl .nil⟩, .inl rfl⟩, k⟩
theorem lw_mk {P : Program} {w : World} {K : PySem.W.Frag} {h : Heap} {mg : Str → Option Value} {fa : Addr} (X : K.In h) (G : h.Ns mainGlobals mg) (hfa : mg "law" = some (.ref fa))
    {C CB f_init f_binit T2 f_isint f_iscount f_islist f_counts f_small f_rising f_isnum f_above f_ratof f_let f_gath f_entry f_ck f_pi f_wh f_hv f_lo f_ti f_pot f_draw f_pick f_mix f_lt f_ac f_fo f_pd f_sz f_amt f_bld f_dw f_ls f_lp f_hr f_right f_law f_add f_radd f_mul f_rmul f_eq f_repr f_bents f_bam f_badd f_beq f_brep f_brs f_ptop f_pbot f_psign f_blet f_bdeg f_bno p_ptop p_pbot p_psign p_blet p_bdeg p_bno : Addr} {r_ptop r_pbot r_psign r_blet r_bdeg r_bno : List Value} {rlm rla : Option Value} {tk1 tk2 tk3 : PySem.Tok} {dd2 : Option Addr} {n2 : Nat} {s2 : Array (Option Value)}
    (aC : PySem.W.nsIn K mainGlobals "Ratio" = some (some (.ref C)))
    (aCB : PySem.W.nsIn K mainGlobals "Blend" = some (some (.ref CB)))
    (a_isint : PySem.W.nsIn K mainGlobals "is_integer" = some (some (.ref f_isint)))
    (F_isint : ∃ fd, Fun K "is_integer" "is_integer" (top 3) f_isint fd)
    (a_iscount : PySem.W.nsIn K mainGlobals "is_count" = some (some (.ref f_iscount)))
    (F_iscount : ∃ fd, Fun K "is_count" "is_count" (top 4) f_iscount fd)
    (a_islist : PySem.W.nsIn K mainGlobals "is_list" = some (some (.ref f_islist)))
    (F_islist : ∃ fd, Fun K "is_list" "is_list" (top 5) f_islist fd)
    (a_counts : PySem.W.nsIn K mainGlobals "is_counts" = some (some (.ref f_counts)))
    (F_counts : ∃ fd, Fun K "is_counts" "is_counts" (top 6) f_counts fd)
    (a_small : PySem.W.nsIn K mainGlobals "is_small_letter" = some (some (.ref f_small)))
    (F_small : ∃ fd, Fun K "is_small_letter" "is_small_letter" (top 7) f_small fd)
    (a_rising : PySem.W.nsIn K mainGlobals "is_rising" = some (some (.ref f_rising)))
    (F_rising : ∃ fd, Fun K "is_rising" "is_rising" (top 8) f_rising fd)
    (a_isnum : PySem.W.nsIn K mainGlobals "is_number" = some (some (.ref f_isnum)))
    (F_isnum : ∃ fd, Fun K "is_number" "is_number" (top 22) f_isnum fd)
    (a_above : PySem.W.nsIn K mainGlobals "is_above" = some (some (.ref f_above)))
    (F_above : ∃ fd, Fun K "is_above" "is_above" (top 23) f_above fd)
    (a_ratof : PySem.W.nsIn K mainGlobals "ratio_of" = some (some (.ref f_ratof)))
    (F_ratof : ∃ fd, Fun K "ratio_of" "ratio_of" (top 24) f_ratof fd)
    (a_let : PySem.W.nsIn K mainGlobals "is_letters" = some (some (.ref f_let)))
    (F_let : ∃ fd, Fun K "is_letters" "is_letters" (top 30) f_let fd)
    (a_gath : PySem.W.nsIn K mainGlobals "gathered" = some (some (.ref f_gath)))
    (F_gath : ∃ fd, Fun K "gathered" "gathered" (top 31) f_gath fd)
    (a_entry : PySem.W.nsIn K mainGlobals "_is_entry" = some (some (.ref f_entry)))
    (F_entry : ∃ fd, Fun K "_is_entry" "_is_entry" (top 32) f_entry fd)
    (a_ck : PySem.W.nsIn K mainGlobals "check_blend" = some (some (.ref f_ck)))
    (F_ck : ∃ fd, Fun K "check_blend" "check_blend" (top 35) f_ck fd)
    (a_pi : PySem.W.nsIn K mainGlobals "pieces" = some (some (.ref f_pi)))
    (F_pi : ∃ fd, Fun K "pieces" "pieces" (top 37) f_pi fd)
    (a_wh : PySem.W.nsIn K mainGlobals "is_whole" = some (some (.ref f_wh)))
    (F_wh : ∃ fd, Fun K "is_whole" "is_whole" (top 38) f_wh fd)
    (a_hv : PySem.W.nsIn K mainGlobals "halves" = some (some (.ref f_hv)))
    (F_hv : ∃ fd, Fun K "halves" "halves" (top 39) f_hv fd)
    (a_lo : PySem.W.nsIn K mainGlobals "_letters_of" = some (some (.ref f_lo)))
    (F_lo : ∃ fd, Fun K "_letters_of" "_letters_of" (top 40) f_lo fd)
    (a_ti : PySem.W.nsIn K mainGlobals "_tied" = some (some (.ref f_ti)))
    (F_ti : ∃ fd, Fun K "_tied" "_tied" (top 41) f_ti fd)
    (a_pot : PySem.W.nsIn K mainGlobals "_law_pot" = some (some (.ref f_pot)))
    (F_pot : ∃ fd, Fun K "_law_pot" "_law_pot" (top 43) f_pot fd)
    (a_draw : PySem.W.nsIn K mainGlobals "_law_draw" = some (some (.ref f_draw)))
    (F_draw : ∃ fd, Fun K "_law_draw" "_law_draw" (top 44) f_draw fd)
    (a_pick : PySem.W.nsIn K mainGlobals "_law_pick" = some (some (.ref f_pick)))
    (F_pick : ∃ fd, Fun K "_law_pick" "_law_pick" (top 45) f_pick fd)
    (a_mix : PySem.W.nsIn K mainGlobals "_law_mixed" = some (some (.ref f_mix)))
    (F_mix : ∃ fd, Fun K "_law_mixed" "_law_mixed" (top 46) f_mix fd)
    (a_lt : PySem.W.nsIn K mainGlobals "_law_letters" = some (some (.ref f_lt)))
    (F_lt : ∃ fd, Fun K "_law_letters" "_law_letters" (top 47) f_lt fd)
    (a_ac : PySem.W.nsIn K mainGlobals "_law_counts" = some (some (.ref f_ac)))
    (F_ac : ∃ fd, Fun K "_law_counts" "_law_counts" (top 48) f_ac fd)
    (a_fo : PySem.W.nsIn K mainGlobals "_law_forms" = some (some (.ref f_fo)))
    (F_fo : ∃ fd, Fun K "_law_forms" "_law_forms" (top 49) f_fo fd)
    (a_pd : PySem.W.nsIn K mainGlobals "_law_products" = some (some (.ref f_pd)))
    (F_pd : ∃ fd, Fun K "_law_products" "_law_products" (top 50) f_pd fd)
    (a_sz : PySem.W.nsIn K mainGlobals "_law_size" = some (some (.ref f_sz)))
    (F_sz : ∃ fd, Fun K "_law_size" "_law_size" (top 51) f_sz fd)
    (a_amt : PySem.W.nsIn K mainGlobals "_law_amount" = some (some (.ref f_amt)))
    (F_amt : ∃ fd, Fun K "_law_amount" "_law_amount" (top 52) f_amt fd)
    (a_bld : PySem.W.nsIn K mainGlobals "_law_blend" = some (some (.ref f_bld)))
    (F_bld : ∃ fd, Fun K "_law_blend" "_law_blend" (top 53) f_bld fd)
    (a_dw : PySem.W.nsIn K mainGlobals "_law_drawn" = some (some (.ref f_dw)))
    (F_dw : ∃ fd, Fun K "_law_drawn" "_law_drawn" (top 54) f_dw fd)
    (a_ls : PySem.W.nsIn K mainGlobals "_law_lots" = some (some (.ref f_ls)))
    (F_ls : ∃ fd, Fun K "_law_lots" "_law_lots" (top 55) f_ls fd)
    (a_lp : PySem.W.nsIn K mainGlobals "_law_pieces" = some (some (.ref f_lp)))
    (F_lp : ∃ fd, Fun K "_law_pieces" "_law_pieces" (top 56) f_lp fd)
    (a_hr : PySem.W.nsIn K mainGlobals "_law_halves_right" = some (some (.ref f_hr)))
    (F_hr : ∃ fd, Fun K "_law_halves_right" "_law_halves_right" (top 57) f_hr fd)
    (a_right : PySem.W.nsIn K mainGlobals "_law_right" = some (some (.ref f_right)))
    (F_right : ∃ fd, Fun K "_law_right" "_law_right" (top 58) f_right fd)
    (a_law : PySem.W.nsIn K mainGlobals "law" = some (some (.ref f_law)))
    (F_law : ∃ fd, Fun K "law" "law" (top 59) f_law fd)
    (a_init : PySem.W.findIn K (.ref C) "__init__" = some (some (.ref f_init)))
    (i_init : PySem.W.isFn K (.ref f_init) = true)
    (F_init : ∃ fd, FunD K "__init__" "Ratio.__init__" (defArgs sInit) (defBody sInit) (defScope sInit) [.int 1] [] f_init fd)
    (a_binit : PySem.W.findIn K (.ref CB) "__init__" = some (some (.ref f_binit)))
    (i_binit : PySem.W.isFn K (.ref f_binit) = true)
    (F_binit : ∃ fd, FunD K "__init__" "Blend.__init__" (defArgs (ble 0)) (defBody (ble 0)) (defScope (ble 0)) [.ref T2] [] f_binit fd)
    (t2 : K.lookup T2 = some ⟨.type "tuple", dd2, .seq #[] n2, s2⟩)
    (a_add : PySem.W.findIn K (.ref C) "__add__" = some (some (.ref f_add)))
    (i_add : PySem.W.isFn K (.ref f_add) = true)
    (F_add : ∃ fd, Fun K "__add__" "Ratio.__add__" (rat 5) f_add fd)
    (a_radd : PySem.W.findIn K (.ref C) "__radd__" = some (some (.ref f_radd)))
    (i_radd : PySem.W.isFn K (.ref f_radd) = true)
    (F_radd : ∃ fd, Fun K "__radd__" "Ratio.__radd__" (rat 6) f_radd fd)
    (a_mul : PySem.W.findIn K (.ref C) "__mul__" = some (some (.ref f_mul)))
    (i_mul : PySem.W.isFn K (.ref f_mul) = true)
    (F_mul : ∃ fd, Fun K "__mul__" "Ratio.__mul__" (rat 9) f_mul fd)
    (a_rmul : PySem.W.findIn K (.ref C) "__rmul__" = some (some (.ref f_rmul)))
    (i_rmul : PySem.W.isFn K (.ref f_rmul) = true)
    (F_rmul : ∃ fd, Fun K "__rmul__" "Ratio.__rmul__" (rat 10) f_rmul fd)
    (a_eq : PySem.W.findIn K (.ref C) "__eq__" = some (some (.ref f_eq)))
    (i_eq : PySem.W.isFn K (.ref f_eq) = true)
    (F_eq : ∃ fd, Fun K "__eq__" "Ratio.__eq__" (rat 17) f_eq fd)
    (a_repr : PySem.W.findIn K (.ref C) "__repr__" = some (some (.ref f_repr)))
    (i_repr : PySem.W.isFn K (.ref f_repr) = true)
    (F_repr : ∃ fd, Fun K "__repr__" "Ratio.__repr__" (rat 19) f_repr fd)
    (a_ptop : PySem.W.findIn K (.ref C) "top" = some (some (.ref p_ptop)))
    (g_ptop : PySem.W.specialIn K (.ref p_ptop) "__get__" = some (some (.builtin "property.__get__")))
    (t_ptop : PySem.W.takesIn K (.ref p_ptop) = some true)
    (c_ptop : PySem.W.recIn K p_ptop "property" = some (.ref f_ptop :: r_ptop))
    (F_ptop : ∃ fd, Fun K "top" "Ratio.top" (rat 1) f_ptop fd)
    (a_pbot : PySem.W.findIn K (.ref C) "bottom" = some (some (.ref p_pbot)))
    (g_pbot : PySem.W.specialIn K (.ref p_pbot) "__get__" = some (some (.builtin "property.__get__")))
    (t_pbot : PySem.W.takesIn K (.ref p_pbot) = some true)
    (c_pbot : PySem.W.recIn K p_pbot "property" = some (.ref f_pbot :: r_pbot))
    (F_pbot : ∃ fd, Fun K "bottom" "Ratio.bottom" (rat 2) f_pbot fd)
    (a_psign : PySem.W.findIn K (.ref C) "sign" = some (some (.ref p_psign)))
    (g_psign : PySem.W.specialIn K (.ref p_psign) "__get__" = some (some (.builtin "property.__get__")))
    (t_psign : PySem.W.takesIn K (.ref p_psign) = some true)
    (c_psign : PySem.W.recIn K p_psign "property" = some (.ref f_psign :: r_psign))
    (F_psign : ∃ fd, Fun K "sign" "Ratio.sign" (rat 3) f_psign fd)
    (a_bents : PySem.W.findIn K (.ref CB) "entries" = some (some (.ref f_bents)))
    (i_bents : PySem.W.isFn K (.ref f_bents) = true)
    (F_bents : ∃ fd, Fun K "entries" "Blend.entries" (ble 5) f_bents fd)
    (a_bam : PySem.W.findIn K (.ref CB) "amount" = some (some (.ref f_bam)))
    (i_bam : PySem.W.isFn K (.ref f_bam) = true)
    (F_bam : ∃ fd, Fun K "amount" "Blend.amount" (ble 6) f_bam fd)
    (a_badd : PySem.W.findIn K (.ref CB) "__add__" = some (some (.ref f_badd)))
    (i_badd : PySem.W.isFn K (.ref f_badd) = true)
    (F_badd : ∃ fd, Fun K "__add__" "Blend.__add__" (ble 7) f_badd fd)
    (a_beq : PySem.W.findIn K (.ref CB) "__eq__" = some (some (.ref f_beq)))
    (i_beq : PySem.W.isFn K (.ref f_beq) = true)
    (F_beq : ∃ fd, Fun K "__eq__" "Blend.__eq__" (ble 10) f_beq fd)
    (a_brep : PySem.W.findIn K (.ref CB) "__repr__" = some (some (.ref f_brep)))
    (i_brep : PySem.W.isFn K (.ref f_brep) = true)
    (F_brep : ∃ fd, Fun K "__repr__" "Blend.__repr__" (ble 11) f_brep fd)
    (a_brs : PySem.W.findIn K (.ref CB) "bears" = some (some (.ref f_brs)))
    (i_brs : PySem.W.isFn K (.ref f_brs) = true)
    (F_brs : ∃ fd, Fun K "bears" "Blend.bears" (ble 12) f_brs fd)
    (a_blet : PySem.W.findIn K (.ref CB) "letters" = some (some (.ref p_blet)))
    (g_blet : PySem.W.specialIn K (.ref p_blet) "__get__" = some (some (.builtin "property.__get__")))
    (t_blet : PySem.W.takesIn K (.ref p_blet) = some true)
    (c_blet : PySem.W.recIn K p_blet "property" = some (.ref f_blet :: r_blet))
    (F_blet : ∃ fd, Fun K "letters" "Blend.letters" (ble 1) f_blet fd)
    (a_bdeg : PySem.W.findIn K (.ref CB) "degree" = some (some (.ref p_bdeg)))
    (g_bdeg : PySem.W.specialIn K (.ref p_bdeg) "__get__" = some (some (.builtin "property.__get__")))
    (t_bdeg : PySem.W.takesIn K (.ref p_bdeg) = some true)
    (c_bdeg : PySem.W.recIn K p_bdeg "property" = some (.ref f_bdeg :: r_bdeg))
    (F_bdeg : ∃ fd, Fun K "degree" "Blend.degree" (ble 2) f_bdeg fd)
    (a_bno : PySem.W.findIn K (.ref CB) "is_nought" = some (some (.ref p_bno)))
    (g_bno : PySem.W.specialIn K (.ref p_bno) "__get__" = some (some (.builtin "property.__get__")))
    (t_bno : PySem.W.takesIn K (.ref p_bno) = some true)
    (c_bno : PySem.W.recIn K p_bno "property" = some (.ref f_bno :: r_bno))
    (F_bno : ∃ fd, Fun K "is_nought" "Blend.is_nought" (ble 3) f_bno fd)
    (pg : PySem.W.plainGet K C Str.empty = true)
    (hd : PySem.W.hasDictIn K C = true)
    (po : PySem.W.plainOver K C = true)
    (sa : PySem.W.findIn K (.ref C) "__setattr__" = some (some (.builtin "object.__setattr__")))
    (mk : PySem.W.makesIn K C = true)
    (kc : PySem.W.keepIn K (.ref C) = true)
    (nT : PySem.W.findIn K (.ref C) "_top" = some none)
    (nB : PySem.W.findIn K (.ref C) "_bottom" = some none)
    (ne : PySem.W.findIn K (.ref C) "__ne__" = some (some (.builtin "object.__ne__")))
    (sf : PySem.W.selfFirst K C = true)
    (nf : PySem.W.notFirst K C (.ref C) = true)
    (ni : PySem.W.notFirst K C (.type "int") = true)
    (sub_is : PySem.W.subIn K (.ref C) (.type "int") = some false)
    (sub_ob : PySem.W.subIn K (.ref C) (.type "object") = some true)
    (sub_li : PySem.W.subIn K (.ref C) (.type "list") = some false)
    (sub_tu : PySem.W.subIn K (.ref C) (.type "tuple") = some false)
    (ca : PySem.W.findIn K (.ref C) "__class__" = some (some (.builtin "object.__class__")))
    (cm : PySem.W.mroIn K C (.type "object") = some true)
    (pgB : PySem.W.plainGet K CB Str.empty = true)
    (hdB : PySem.W.hasDictIn K CB = true)
    (poB : PySem.W.plainOver K CB = true)
    (saB : PySem.W.findIn K (.ref CB) "__setattr__" = some (some (.builtin "object.__setattr__")))
    (mkB : PySem.W.makesIn K CB = true)
    (kcB : PySem.W.keepIn K (.ref CB) = true)
    (nL : PySem.W.findIn K (.ref CB) "_letters" = some none)
    (nD : PySem.W.findIn K (.ref CB) "_degree" = some none)
    (nA : PySem.W.findIn K (.ref CB) "_amounts" = some none)
    (neB : PySem.W.findIn K (.ref CB) "__ne__" = some (some (.builtin "object.__ne__")))
    (sfB : PySem.W.selfFirst K CB = true)
    (nfB : PySem.W.notFirst K CB (.ref CB) = true)
    (niB : PySem.W.notFirst K CB (.type "int") = true)
    (sub_isB : PySem.W.subIn K (.ref CB) (.type "int") = some false)
    (sub_obB : PySem.W.subIn K (.ref CB) (.type "object") = some true)
    (caB : PySem.W.findIn K (.ref CB) "__class__" = some (some (.builtin "object.__class__")))
    (cmB : PySem.W.mroIn K CB (.type "object") = some true)
    (cn : PySem.W.specialIn K (.builtin "object.__class__") "__get__" = some (some (.builtin "getset_descriptor.__get__")))
    (ct : PySem.W.takesIn K (.builtin "object.__class__") = some true)
    (tyCB : PySem.W.typeIn K (.ref CB) = some (.type "type"))
    (tyC : PySem.W.typeIn K (.ref C) = some (.type "type"))
    (s_NoneType : PySem.W.subIn K (.type "NoneType") (.ref C) = some false)
    (s_bool : PySem.W.subIn K (.type "bool") (.ref C) = some false)
    (s_str : PySem.W.subIn K (.type "str") (.ref C) = some false)
    (s_tuple : PySem.W.subIn K (.type "tuple") (.ref C) = some false)
    (s_list : PySem.W.subIn K (.type "list") (.ref C) = some false)
    (s_int : PySem.W.subIn K (.type "int") (.ref C) = some false)
    (s_dict : PySem.W.subIn K (.type "dict") (.ref C) = some false)
    (s_listB : PySem.W.subIn K (.type "list") (.ref CB) = some false)
    (s_strB : PySem.W.subIn K (.type "str") (.ref CB) = some false)
    (nlB : PySem.W.notFirst K CB (.type "list") = true)
    (nsB : PySem.W.notFirst K CB (.type "str") = true)
    (s_intB : PySem.W.subIn K (.type "int") (.ref CB) = some false)
    (lm : PySem.W.findIn K (.type "int") "__rmul__" = some rlm)
    (la : PySem.W.findIn K (.type "int") "__radd__" = some rla)
    (z_gcd : PySem.W.nsIn K mainGlobals "gcd" = some (some (.builtin "math.gcd")))
    (z_ml : PySem.W.nsIn K mainGlobals "MOST_LETTERS" = some (some (.int 8 tk1)))
    (z_md : PySem.W.nsIn K mainGlobals "MOST_DEGREE" = some (some (.int 8 tk2)))
    (z_me : PySem.W.nsIn K mainGlobals "MOST_ENTRIES" = some (some (.int 300 tk3)))
    (z_isinstance : PySem.W.nsIn K mainGlobals "isinstance" = some none)
    (z_int : PySem.W.nsIn K mainGlobals "int" = some none)
    (z_bool : PySem.W.nsIn K mainGlobals "bool" = some none)
    (z_list : PySem.W.nsIn K mainGlobals "list" = some none)
    (z_tuple : PySem.W.nsIn K mainGlobals "tuple" = some none)
    (z_abs : PySem.W.nsIn K mainGlobals "abs" = some none)
    (z_len : PySem.W.nsIn K mainGlobals "len" = some none)
    (z_max : PySem.W.nsIn K mainGlobals "max" = some none)
    (z_divmod : PySem.W.nsIn K mainGlobals "divmod" = some none)
    (z_str : PySem.W.nsIn K mainGlobals "str" = some none)
    (z_repr : PySem.W.nsIn K mainGlobals "repr" = some none)
    (z_range : PySem.W.nsIn K mainGlobals "range" = some none)
    (z_all : PySem.W.nsIn K mainGlobals "all" = some none)
    (z_zip : PySem.W.nsIn K mainGlobals "zip" = some none)
    (z_enumerate : PySem.W.nsIn K mainGlobals "enumerate" = some none)
    (z_sorted : PySem.W.nsIn K mainGlobals "sorted" = some none)
    (z_sum : PySem.W.nsIn K mainGlobals "sum" = some none)
    (z_min : PySem.W.nsIn K mainGlobals "min" = some none)
    (z_dict : PySem.W.nsIn K mainGlobals "dict" = some none)
    (z_any : PySem.W.nsIn K mainGlobals "any" = some none)
    (z_set : PySem.W.nsIn K mainGlobals "set" = some none)
    : ∃ fd : FuncData, (∀ (s : Shared) (v : Value), BindsTo s fd ⟨[v], []⟩ [("_law_script", v)]) ∧ ∀ base : Heap, K.In base → base.Ns mainGlobals mg → GnOk P w K mg base 13 fa fd ["_law_script"] (lift K spLaw) := by
  have e := hfa.symm.trans (PySem.W.mg_of X G a_law)
  cases e
  obtain ⟨d_isint, F_isint⟩ := F_isint
  obtain ⟨d_iscount, F_iscount⟩ := F_iscount
  obtain ⟨d_islist, F_islist⟩ := F_islist
  obtain ⟨d_counts, F_counts⟩ := F_counts
  obtain ⟨d_small, F_small⟩ := F_small
  obtain ⟨d_rising, F_rising⟩ := F_rising
  obtain ⟨d_isnum, F_isnum⟩ := F_isnum
  obtain ⟨d_above, F_above⟩ := F_above
  obtain ⟨d_ratof, F_ratof⟩ := F_ratof
  obtain ⟨d_let, F_let⟩ := F_let
  obtain ⟨d_gath, F_gath⟩ := F_gath
  obtain ⟨d_entry, F_entry⟩ := F_entry
  obtain ⟨d_ck, F_ck⟩ := F_ck
  obtain ⟨d_pi, F_pi⟩ := F_pi
  obtain ⟨d_wh, F_wh⟩ := F_wh
  obtain ⟨d_hv, F_hv⟩ := F_hv
  obtain ⟨d_lo, F_lo⟩ := F_lo
  obtain ⟨d_ti, F_ti⟩ := F_ti
  obtain ⟨d_pot, F_pot⟩ := F_pot
  obtain ⟨d_draw, F_draw⟩ := F_draw
  obtain ⟨d_pick, F_pick⟩ := F_pick
  obtain ⟨d_mix, F_mix⟩ := F_mix
  obtain ⟨d_lt, F_lt⟩ := F_lt
  obtain ⟨d_ac, F_ac⟩ := F_ac
  obtain ⟨d_fo, F_fo⟩ := F_fo
  obtain ⟨d_pd, F_pd⟩ := F_pd
  obtain ⟨d_sz, F_sz⟩ := F_sz
  obtain ⟨d_amt, F_amt⟩ := F_amt
  obtain ⟨d_bld, F_bld⟩ := F_bld
  obtain ⟨d_dw, F_dw⟩ := F_dw
  obtain ⟨d_ls, F_ls⟩ := F_ls
  obtain ⟨d_lp, F_lp⟩ := F_lp
  obtain ⟨d_hr, F_hr⟩ := F_hr
  obtain ⟨d_right, F_right⟩ := F_right
  obtain ⟨d_law, F_law⟩ := F_law
  obtain ⟨d_init, F_init⟩ := F_init
  obtain ⟨d_binit, F_binit⟩ := F_binit
  obtain ⟨d_add, F_add⟩ := F_add
  obtain ⟨d_radd, F_radd⟩ := F_radd
  obtain ⟨d_mul, F_mul⟩ := F_mul
  obtain ⟨d_rmul, F_rmul⟩ := F_rmul
  obtain ⟨d_eq, F_eq⟩ := F_eq
  obtain ⟨d_repr, F_repr⟩ := F_repr
  obtain ⟨d_bents, F_bents⟩ := F_bents
  obtain ⟨d_bam, F_bam⟩ := F_bam
  obtain ⟨d_badd, F_badd⟩ := F_badd
  obtain ⟨d_beq, F_beq⟩ := F_beq
  obtain ⟨d_brep, F_brep⟩ := F_brep
  obtain ⟨d_brs, F_brs⟩ := F_brs
  obtain ⟨d_ptop, F_ptop⟩ := F_ptop
  obtain ⟨d_pbot, F_pbot⟩ := F_pbot
  obtain ⟨d_psign, F_psign⟩ := F_psign
  obtain ⟨d_blet, F_blet⟩ := F_blet
  obtain ⟨d_bdeg, F_bdeg⟩ := F_bdeg
  obtain ⟨d_bno, F_bno⟩ := F_bno
  have b_isint := F_isint.binds (ps := ["value"]) fun _ _ _ _ _ _ us hl => match us, hl with | [_], _ => rfl
  have b_iscount := F_iscount.binds (ps := ["value"]) fun _ _ _ _ _ _ us hl => match us, hl with | [_], _ => rfl
  have b_islist := F_islist.binds (ps := ["value"]) fun _ _ _ _ _ _ us hl => match us, hl with | [_], _ => rfl
  have b_counts := F_counts.binds (ps := ["value", "many"]) fun _ _ _ _ _ _ us hl => match us, hl with | [_, _], _ => rfl
  have b_small := F_small.binds (ps := ["value"]) fun _ _ _ _ _ _ us hl => match us, hl with | [_], _ => rfl
  have b_rising := F_rising.binds (ps := ["parts"]) fun _ _ _ _ _ _ us hl => match us, hl with | [_], _ => rfl
  have b_isnum := F_isnum.binds (ps := ["value"]) fun _ _ _ _ _ _ us hl => match us, hl with | [_], _ => rfl
  have b_above := F_above.binds (ps := ["value"]) fun _ _ _ _ _ _ us hl => match us, hl with | [_], _ => rfl
  have b_ratof := F_ratof.binds (ps := ["value"]) fun _ _ _ _ _ _ us hl => match us, hl with | [_], _ => rfl
  have b_let := F_let.binds (ps := ["value"]) fun _ _ _ _ _ _ us hl => match us, hl with | [_], _ => rfl
  have b_gath := F_gath.binds (ps := ["pairs"]) fun _ _ _ _ _ _ us hl => match us, hl with | [_], _ => rfl
  have b_entry := F_entry.binds (ps := ["entry", "many", "degree"]) fun _ _ _ _ _ _ us hl => match us, hl with | [_, _, _], _ => rfl
  have b_ck := F_ck.binds (ps := ["blend"]) fun _ _ _ _ _ _ us hl => match us, hl with | [_], _ => rfl
  have b_pi := F_pi.binds (ps := ["blend"]) fun _ _ _ _ _ _ us hl => match us, hl with | [_], _ => rfl
  have b_wh := F_wh.binds (ps := ["blend"]) fun _ _ _ _ _ _ us hl => match us, hl with | [_], _ => rfl
  have b_hv := F_hv.binds (ps := ["blend"]) fun _ _ _ _ _ _ us hl => match us, hl with | [_], _ => rfl
  have b_lo := F_lo.binds (ps := ["blend", "counts"]) fun _ _ _ _ _ _ us hl => match us, hl with | [_, _], _ => rfl
  have b_ti := F_ti.binds (ps := ["lots", "letters"]) fun _ _ _ _ _ _ us hl => match us, hl with | [_, _], _ => rfl
  have b_pot := F_pot.binds (ps := ["_law_script", "_law_k"]) fun _ _ _ _ _ _ us hl => match us, hl with | [_, _], _ => rfl
  have b_draw := F_draw.binds (ps := ["_law_pot_here", "_law_many"]) fun _ _ _ _ _ _ us hl => match us, hl with | [_, _], _ => rfl
  have b_pick := F_pick.binds (ps := ["_law_pot_here", "_law_some"]) fun _ _ _ _ _ _ us hl => match us, hl with | [_, _], _ => rfl
  have b_mix := F_mix.binds (ps := ["_law_pot_here", "_law_some"]) fun _ _ _ _ _ _ us hl => match us, hl with | [_, _], _ => rfl
  have b_lt := F_lt.binds (ps := ["_law_pot_here", "_law_many"]) fun _ _ _ _ _ _ us hl => match us, hl with | [_, _], _ => rfl
  have b_ac := F_ac.binds (ps := ["_law_many", "_law_degree"]) fun _ _ _ _ _ _ us hl => match us, hl with | [_, _], _ => rfl
  have b_fo := F_fo.binds (ps := ["_law_pot_here", "_law_many", "_law_degree"]) fun _ _ _ _ _ _ us hl => match us, hl with | [_, _, _], _ => rfl
  have b_pd := F_pd.binds (ps := ["_law_pot_here", "_law_many", "_law_degree"]) fun _ _ _ _ _ _ us hl => match us, hl with | [_, _, _], _ => rfl
  have b_sz := F_sz.binds (ps := ["_law_pot_here"]) fun _ _ _ _ _ _ us hl => match us, hl with | [_], _ => rfl
  have b_amt := F_amt.binds (ps := ["_law_pot_here"]) fun _ _ _ _ _ _ us hl => match us, hl with | [_], _ => rfl
  have b_bld := F_bld.binds (ps := ["_law_pot_here", "_law_letters_here", "_law_products_here"]) fun _ _ _ _ _ _ us hl => match us, hl with | [_, _, _], _ => rfl
  have b_dw := F_dw.binds (ps := ["_law_pot_here"]) fun _ _ _ _ _ _ us hl => match us, hl with | [_], _ => rfl
  have b_ls := F_ls.binds (ps := ["_law_products_here"]) fun _ _ _ _ _ _ us hl => match us, hl with | [_], _ => rfl
  have b_lp := F_lp.binds (ps := ["_law_letters_here", "_law_products_here"]) fun _ _ _ _ _ _ us hl => match us, hl with | [_, _], _ => rfl
  have b_hr := F_hr.binds (ps := ["_law_letters_here", "_law_products_here", "_law_blend_here"]) fun _ _ _ _ _ _ us hl => match us, hl with | [_, _, _], _ => rfl
  have b_right := F_right.binds (ps := ["_law_pot_here"]) fun _ _ _ _ _ _ us hl => match us, hl with | [_], _ => rfl
  have b_law := F_law.binds (ps := ["_law_script"]) fun _ _ _ _ _ _ us hl => match us, hl with | [_], _ => rfl
  have b_add := F_add.binds (ps := ["self", "other"]) fun _ _ _ _ _ _ us hl => match us, hl with | [_, _], _ => rfl
  have b_radd := F_radd.binds (ps := ["self", "other"]) fun _ _ _ _ _ _ us hl => match us, hl with | [_, _], _ => rfl
  have b_mul := F_mul.binds (ps := ["self", "other"]) fun _ _ _ _ _ _ us hl => match us, hl with | [_, _], _ => rfl
  have b_rmul := F_rmul.binds (ps := ["self", "other"]) fun _ _ _ _ _ _ us hl => match us, hl with | [_, _], _ => rfl
  have b_eq := F_eq.binds (ps := ["self", "other"]) fun _ _ _ _ _ _ us hl => match us, hl with | [_, _], _ => rfl
  have b_repr := F_repr.binds (ps := ["self"]) fun _ _ _ _ _ _ us hl => match us, hl with | [_], _ => rfl
  have b_bents := F_bents.binds (ps := ["self"]) fun _ _ _ _ _ _ us hl => match us, hl with | [_], _ => rfl
  have b_bam := F_bam.binds (ps := ["self", "counts"]) fun _ _ _ _ _ _ us hl => match us, hl with | [_, _], _ => rfl
  have b_badd := F_badd.binds (ps := ["self", "other"]) fun _ _ _ _ _ _ us hl => match us, hl with | [_, _], _ => rfl
  have b_beq := F_beq.binds (ps := ["self", "other"]) fun _ _ _ _ _ _ us hl => match us, hl with | [_, _], _ => rfl
  have b_brep := F_brep.binds (ps := ["self"]) fun _ _ _ _ _ _ us hl => match us, hl with | [_], _ => rfl
  have b_brs := F_brs.binds (ps := ["self"]) fun _ _ _ _ _ _ us hl => match us, hl with | [_], _ => rfl
  have b_ptop := F_ptop.binds (ps := ["self"]) fun _ _ _ _ _ _ us hl => match us, hl with | [_], _ => rfl
  have b_pbot := F_pbot.binds (ps := ["self"]) fun _ _ _ _ _ _ us hl => match us, hl with | [_], _ => rfl
  have b_psign := F_psign.binds (ps := ["self"]) fun _ _ _ _ _ _ us hl => match us, hl with | [_], _ => rfl
  have b_blet := F_blet.binds (ps := ["self"]) fun _ _ _ _ _ _ us hl => match us, hl with | [_], _ => rfl
  have b_bdeg := F_bdeg.binds (ps := ["self"]) fun _ _ _ _ _ _ us hl => match us, hl with | [_], _ => rfl
  have b_bno := F_bno.binds (ps := ["self"]) fun _ _ _ _ _ _ us hl => match us, hl with | [_], _ => rfl
  obtain ⟨ds2, v2, b2⟩ := F_init.binds1 (ps := ["self", "top", "bottom"]) 3 1 (by simp) rfl fun T kV doc pm an cdv ct us its l1 l2 => match us, its, l1, l2 with | [_, _, _], [_], _, _ => ⟨_, rfl, rfl⟩
  obtain ⟨ds1, v1, b1⟩ := F_init.binds1 (ps := ["self", "top", "bottom"]) 2 0 (by simp) rfl fun T kV doc pm an cdv ct us its l1 l2 => match us, its, l1, l2 with | [_, _], [_], _, _ => ⟨_, rfl, rfl⟩
  obtain ⟨bds2, bv2, bb2⟩ := F_binit.binds1 (ps := ["self", "letters", "entries"]) 3 1 (by simp) rfl fun T kV doc pm an cdv ct us its l1 l2 => match us, its, l1, l2 with | [_, _, _], [_], _, _ => ⟨_, rfl, rfl⟩
  obtain ⟨bds1, bv1, bb1⟩ := F_binit.binds1 (ps := ["self", "letters", "entries"]) 2 0 (by simp) rfl fun T kV doc pm an cdv ct us its l1 l2 => match us, its, l1, l2 with | [_, _], [_], _, _ => ⟨_, rfl, rfl⟩
  have bK_pi := fun_kbnG (ps := ["blend"]) (n := 0) (ks := ["blend"]) (fun l => l) (fun h => h) F_pi fun _ _ _ _ _ _ us ws l1 l2 => match us, ws, l1, l2 with | [], [_], _, _ => rfl
  have bK_wh := fun_kbnG (ps := ["blend"]) (n := 0) (ks := ["blend"]) (fun l => l) (fun h => h) F_wh fun _ _ _ _ _ _ us ws l1 l2 => match us, ws, l1, l2 with | [], [_], _, _ => rfl
  have bK_hv := fun_kbnG (ps := ["blend"]) (n := 0) (ks := ["blend"]) (fun l => l) (fun h => h) F_hv fun _ _ _ _ _ _ us ws l1 l2 => match us, ws, l1, l2 with | [], [_], _, _ => rfl
  obtain ⟨itB, bK_B⟩ := F_binit.kbindsD (ps := ["self", "letters", "entries"]) 1 ["entries", "letters"] (fun us _ ws => us ++ ws.reverse) (by simp) (fun r1 _ r3 => r1.append (paired_rev r3)) fun T kV doc pm an cdv ct us its ws l1 l2 l3 => match us, its, ws, l1, l2, l3 with | [_], [_], [_, _], _, _, _ => ⟨_, rfl, rfl⟩
  have cl : Cls K C := ⟨pg, hd, po, sa⟩
  have clB : Cls K CB := ⟨pgB, hdB, poB, saB⟩
  have T : Txt K mg C := {
    nu := ⟨cl, sf, nf, ni, s_int, sub_is, sub_ob⟩
    is := ⟨cl, ca, cn, ct, cm⟩
    nT := nT
    nB := nB
    ne := ne
    mC := PySem.W.mg_of X G aC
    gcd := PySem.W.mg_of X G z_gcd
    isi := PySem.W.mg_none_of X G z_isinstance
    int := PySem.W.mg_none_of X G z_int
    bool := PySem.W.mg_none_of X G z_bool
    list := PySem.W.mg_none_of X G z_list
    tuple := PySem.W.mg_none_of X G z_tuple
    abs := PySem.W.mg_none_of X G z_abs
    len := PySem.W.mg_none_of X G z_len
    max := PySem.W.mg_none_of X G z_max
    divmod := PySem.W.mg_none_of X G z_divmod
    str := PySem.W.mg_none_of X G z_str
    repr := PySem.W.mg_none_of X G z_repr
    range := PySem.W.mg_none_of X G z_range
    all := PySem.W.mg_none_of X G z_all
    zip := PySem.W.mg_none_of X G z_zip
    k1 := kit_ty (by decide +kernel)
    k2 := kit_ty (by decide +kernel)
    k3 := kit_ty (by decide +kernel)
    k4 := kit_ty (by decide +kernel)
    k5 := kit_ty (by decide +kernel)
    k7 := kit_ty (by decide +kernel)
    k8 := kit_ty (by decide +kernel)
    k6 := kit_tyc (by decide +kernel) sub_is
    r1 := kit_ref hd tyC (fun z => by cases z) s_NoneType
    r2 := kit_ref hd tyC (fun z => by cases z) s_bool
    r3 := kit_ref hd tyC (fun z => by cases z) s_str
    r4 := kit_ref hd tyC (fun z => by cases z) s_tuple
    r5 := kit_ref hd tyC (fun z => by cases z) s_list
    r7 := kit_ref hd tyC (fun z => by cases z) s_int
    r8 := kit_ref hd tyC (fun z => by cases z) s_dict
    l0 := fun T h => by rcases h with rfl | rfl | rfl | rfl | rfl <;> exact kitAny_cons (b := false) (kit_ty (by decide +kernel)) (fun _ => kitAny_cons (b := false) (kit_ty (by decide +kernel)) (fun _ => rfl) (fun z => Bool.noConfusion z)) (fun z => Bool.noConfusion z)
    l3 := kitAny_cons (b := false) (kit_tyc (by decide +kernel) sub_li) (fun _ => kitAny_cons (b := false) (kit_tyc (by decide +kernel) sub_tu) (fun _ => rfl) (fun z => Bool.noConfusion z)) (fun z => Bool.noConfusion z)
    l1 := kitAny_cons (b := true) (same (beq_self_eq_true _)) (fun z => Bool.noConfusion z) (fun _ => rfl)
    l2 := kitAny_cons (b := false) (kit_ty (by decide +kernel)) (fun _ => kitAny_cons (b := true) (same (beq_self_eq_true _)) (fun z => Bool.noConfusion z) (fun _ => rfl)) (fun z => Bool.noConfusion z) }
  have T2' : Tb K mg C CB := {
    T := T, nu := ⟨clB, sfB, nfB, niB, s_intB, sub_isB, sub_obB⟩, is := ⟨clB, caB, cn, ct, cmB⟩, nL := nL, nD := nD, nA := nA, ne := neB, mB := PySem.W.mg_of X G aCB
    enum := PySem.W.mg_none_of X G z_enumerate, sorted := PySem.W.mg_none_of X G z_sorted, sum := PySem.W.mg_none_of X G z_sum, min := PySem.W.mg_none_of X G z_min, dict := PySem.W.mg_none_of X G z_dict
    ml := ⟨_, PySem.W.mg_of X G z_ml⟩, md := ⟨_, PySem.W.mg_of X G z_md⟩, me := ⟨_, PySem.W.mg_of X G z_me⟩ }
  have M : Mk K C f_init := ⟨mk, a_init, i_init, kc⟩
  have MB : Mk K CB f_binit := ⟨mkB, a_binit, i_binit, kcB⟩
  have em : EmpT K T2 := ⟨_, _, t2, rfl, rfl⟩
  have bL : ∀ (s : Shared) (v : Value), BindsTo s d_law ⟨[v], []⟩ [("_law_script", v)] := by
    obtain ⟨oc, od, kV, doc, pm, an, cdv, ct, osl, rfl, _⟩ := F_law.ex
    exact fun s v => .of_eq rfl
  refine ⟨d_law, bL, fun base _ _ => ?_⟩
  have D_isint : Df P w K mg base "is_integer" 1 1 (spB C isI) := df_of (fun_s F_isint) (ok_isint (fun_s F_isint) T) (PySem.W.mg_of X G a_isint) b_isint rfl
  have D_iscount : Df P w K mg base "is_count" 2 1 (spB C isC) := df_of (fun_s F_iscount) (ok_iscount (fun_s F_iscount) T D_isint) (PySem.W.mg_of X G a_iscount) b_iscount rfl
  have D_islist : Df P w K mg base "is_list" 1 1 spL := df_of (fun_s F_islist) (ok_islist (fun_s F_islist) T) (PySem.W.mg_of X G a_islist) b_islist rfl
  have D_islistK : Df P w K mg base "is_list" 1 1 (spLK K) := df_of (fun_s F_islist) (ok_islistK (fun_s F_islist) T) (PySem.W.mg_of X G a_islist) b_islist rfl
  have D_counts : Df P w K mg base "is_counts" 3 2 spCounts := df_of (fun_s F_counts) (ok_counts (fun_s F_counts) T D_islist D_iscount) (PySem.W.mg_of X G a_counts) b_counts rfl
  have D_small : Df P w K mg base "is_small_letter" 1 1 spSmall := df_of (fun_s F_small) (ok_small (fun_s F_small) T) (PySem.W.mg_of X G a_small) b_small rfl
  have D_rising : Df P w K mg base "is_rising" 1 1 spRising := df_of (fun_s F_rising) (ok_rising (fun_s F_rising) T) (PySem.W.mg_of X G a_rising) b_rising rfl
  have D_let : Df P w K mg base "is_letters" 2 1 spLet := df_of (fun_s F_let) (ok_let (fun_s F_let) T (PySem.W.mg_of X G z_ml) D_rising D_small) (PySem.W.mg_of X G a_let) b_let rfl
  have D_isnum : Df P w K mg base "is_number" 2 1 (spB C isN) := df_of (fun_s F_isnum) (ok_isnumber (fun_s F_isnum) T D_isint) (PySem.W.mg_of X G a_isnum) b_isnum rfl
  have GI := ok_init (P := P) (w := w) (base := base) (fund_s F_init) T D_isint
  have mk2 : Kl P w K mg base "Ratio" C 2 [] spInit := ⟨f_init, d_init, _, [], ds2, GI, M, T.mC, b2, v2, fun _ => .nil⟩
  have mk1 : Kl P w K mg base "Ratio" C 2 [.int 1] spInit := ⟨f_init, d_init, _, [.int 1], ds1, GI, M, T.mC, b1, v1, fun _ => .cons (.int 1) .nil⟩
  have D_ptop : Pr P w K mg base C "top" 1 (sp1 C fun p => .int p.1) := ⟨p_ptop, f_ptop, d_ptop, _, ok_top (fun_s F_ptop) T, ⟨a_ptop, g_ptop, t_ptop, _, c_ptop⟩, b_ptop⟩
  have D_pbot : Pr P w K mg base C "bottom" 1 (sp1 C fun p => .int p.2) := ⟨p_pbot, f_pbot, d_pbot, _, ok_bot (fun_s F_pbot) T, ⟨a_pbot, g_pbot, t_pbot, _, c_pbot⟩, b_pbot⟩
  have D_psign : Pr P w K mg base C "sign" 1 (sp1 C fun p => .int (sgF p)) := ⟨p_psign, f_psign, d_psign, _, ok_sign (fun_s F_psign) T, ⟨a_psign, g_psign, t_psign, _, c_psign⟩, b_psign⟩
  have V : Rt P w K mg base C := ⟨T, mk2, mk1, D_ptop, D_pbot⟩
  have D_ratof : Df P w K mg base "ratio_of" 4 1 (spRat C) := df_of (fun_s F_ratof) (ok_ratof (fun_s F_ratof) V) (PySem.W.mg_of X G a_ratof) b_ratof rfl
  have D_mul : Sm P w K mg base C "__mul__" 5 (spOp C fun p q => Ra C (mulF p q)) := ⟨f_mul, d_mul, _, ok_mul (fun_s F_mul) V D_ratof, a_mul, i_mul, b_mul⟩
  have D_rmul : Sm P w K mg base C "__rmul__" 6 (spOp C fun p q => Ra C (mulF q p)) := ⟨f_rmul, d_rmul, _, ok_rmul (fun_s F_rmul) V D_ratof D_mul, a_rmul, i_rmul, b_rmul⟩
  have D_eq : Sm P w K mg base C "__eq__" 1 (spEq C) := ⟨f_eq, d_eq, _, ok_eq (fun_s F_eq) T, a_eq, i_eq, b_eq⟩
  have D_add : Sm P w K mg base C "__add__" 5 (spOp C fun p q => Ra C (addF p q)) := ⟨f_add, d_add, _, ok_add (fun_s F_add) V D_ratof, a_add, i_add, b_add⟩
  have D_radd : Sm P w K mg base C "__radd__" 6 (spOp C fun p q => Ra C (addF q p)) := ⟨f_radd, d_radd, _, ok_radd (fun_s F_radd) V D_ratof D_add, a_radd, i_radd, b_radd⟩
  have LL : Lv P w K mg base C := { V := V, ratof := D_ratof, mul := D_mul, rmul := D_rmul, eq := D_eq, add := D_add, radd := D_radd, sign := D_psign, lm := ⟨_, lm⟩, la := ⟨_, la⟩ }
  have D_above : Df P w K mg base "is_above" 5 1 (spAbove C) := df_of (fun_s F_above) (ok_above (fun_s F_above) T D_isnum D_ratof D_psign) (PySem.W.mg_of X G a_above) b_above rfl
  have D_entry : Df P w K mg base "_is_entry" 6 3 (spEntry C) := df_of (fun_s F_entry) (ok_entry (fun_s F_entry) T (PySem.W.mg_none_of X G z_sum) (PySem.W.mg_of X G z_md) D_counts D_above) (PySem.W.mg_of X G a_entry) b_entry rfl
  have GB := ok_binit (P := P) (w := w) (base := base) (fund_s F_binit) T2' D_ratof D_let D_islistK D_entry
  have mkA : Kl P w K mg base "Blend" CB 7 [] (spBl K C) := ⟨f_binit, d_binit, _, [], bds2, GB, MB, T2'.mB, bb2, bv2, fun _ => .nil⟩
  have mk0 : Kl P w K mg base "Blend" CB 7 [.cls T2] (spBl K C) := ⟨f_binit, d_binit, _, [.ref T2], bds1, GB, MB, T2'.mB, bb1, bv1, fun _ => .cons (.cls T2) .nil⟩
  have D_blet : Pr P w K mg base CB "letters" 1 (spB1 C CB fun z _ _ => .str (SX.S z)) := ⟨p_blet, f_blet, d_blet, _, ok_letters (fun_s F_blet) T2', ⟨a_blet, g_blet, t_blet, _, c_blet⟩, b_blet⟩
  have D_bdeg : Pr P w K mg base CB "degree" 1 (spB1 C CB fun _ n es => dgD n es) := ⟨p_bdeg, f_bdeg, d_bdeg, _, ok_degree (fun_s F_bdeg) T2', ⟨a_bdeg, g_bdeg, t_bdeg, _, c_bdeg⟩, b_bdeg⟩
  have D_bno : Pr P w K mg base CB "is_nought" 1 (spB1 C CB fun _ _ es => .bl es.isEmpty) := ⟨p_bno, f_bno, d_bno, _, ok_nought (fun_s F_bno) T2', ⟨a_bno, g_bno, t_bno, _, c_bno⟩, b_bno⟩
  have D_bents : Mt P w K mg base CB "entries" 1 (spEnts C CB) := ⟨f_bents, d_bents, _, ok_entries (fun_s F_bents) T2', ⟨a_bents, i_bents, F_bents.kp⟩, b_bents⟩
  have D_beq : Sm P w K mg base CB "__eq__" 4 (spBEq C CB) := ⟨f_beq, d_beq, _, ok_beq (fun_s F_beq) T2' LL, a_beq, i_beq, b_beq⟩
  have D_ck : Df P w K mg base "check_blend" 1 1 (spCk C CB) := df_of (fun_s F_ck) (ok_ck (fun_s F_ck) T2') (PySem.W.mg_of X G a_ck) b_ck rfl
  have VB : Bt P w K mg base C CB := { T := T2', L := LL, mkA := mkA, mk0 := ⟨T2, em, mk0⟩, letters := D_blet, degree := D_bdeg, nought := D_bno, entries := D_bents, beq := D_beq, ck := D_ck }
  have D_draw : Df P w K mg base "_law_draw" 1 2 spDraw := df_of (fun_s F_draw) (ok_draw (fun_s F_draw) T) (PySem.W.mg_of X G a_draw) b_draw rfl
  have D_pick : Df P w K mg base "_law_pick" 2 2 spPick := df_of (fun_s F_pick) (ok_pick (fun_s F_pick) T D_draw) (PySem.W.mg_of X G a_pick) b_pick rfl
  have D_gath : Df P w K mg base "gathered" 7 1 (spGathG C) := df_of (fun_s F_gath) (ok_gathG (fun_s F_gath) LL) (PySem.W.mg_of X G a_gath) b_gath rfl
  have D_repr : Sm P w K mg base C "__repr__" 1 (sp1b C 1900 fun p => .str (reprF p)) := ⟨f_repr, d_repr, _, ok_repr (fun_s F_repr) T, a_repr, i_repr, b_repr⟩
  have D_bam : Mt P w K mg base CB "amount" 4 (spAmount C CB) := ⟨f_bam, d_bam, _, ok_amount (fun_s F_bam) VB D_counts, ⟨a_bam, i_bam, F_bam.kp⟩, b_bam⟩
  have D_badd : Sm P w K mg base CB "__add__" 9 (spBAdd C CB) := ⟨f_badd, d_badd, _, ok_badd (fun_s F_badd) VB D_gath, a_badd, i_badd, b_badd⟩
  have D_brep : Sm P w K mg base CB "__repr__" 5 (spBRepr C CB) := ⟨f_brep, d_brep, _, ok_brepr (fun_s F_brep) VB D_repr, a_brep, i_brep, b_brep⟩
  have D_brs : Mt P w K mg base CB "bears" 2 (spBrs C CB) := ⟨f_brs, d_brs, _, ok_brs (fun_s F_brs) T2' (PySem.W.mg_none_of X G z_any), ⟨a_brs, i_brs, F_brs.kp⟩, b_brs⟩
  have MK : KlK P w K mg base "Blend" CB 7 ["entries", "letters"] List.reverse (spBl K C) := ⟨f_binit, d_binit, _, _, List.reverse, GB, MB, T2'.mB, bK_B, fun _ _ _ h => paired_rev h⟩
  have D_lo : Df P w K mg base "_letters_of" 3 2 (spLo C CB) := df_of (fun_s F_lo) (ok_lo (fun_s F_lo) VB (PySem.W.mg_none_of X G z_zip)) (PySem.W.mg_of X G a_lo) b_lo rfl
  have D_ti : Df P w K mg base "_tied" 1 2 spTi := df_of (fun_s F_ti) (ok_ti (fun_s F_ti) T (PySem.W.mg_none_of X G z_any) (PySem.W.mg_none_of X G z_sorted)) (PySem.W.mg_of X G a_ti) b_ti rfl
  have OP : OPi P w K mg base C CB := { V := VB, lo := D_lo, ti := D_ti, br := D_brs, srt := PySem.W.mg_none_of X G z_sorted }
  have D_pi : Df P w K mg base "pieces" 4 1 (spPi C CB) := df_of (fun_s F_pi) (ok_pi (fun_s F_pi) OP) (PySem.W.mg_of X G a_pi) b_pi rfl
  have N_pi : Nf P w K mg base "pieces" 4 (spPiN C CB) := ⟨f_pi, d_pi, _, ok_piN (fun_s F_pi) OP, PySem.W.mg_of X G a_pi, F_pi.kp, b_pi⟩
  have DK_pi : DfK P w K mg base "pieces" 4 ["blend"] id (spPi C CB) := ⟨f_pi, d_pi, _, _, fun l => l, ok_pi (fun_s F_pi) OP, PySem.W.mg_of X G a_pi, F_pi.kp, bK_pi, fun _ _ _ h => h⟩
  have D_wh : Df P w K mg base "is_whole" 5 1 (spWh C CB) := df_of (fun_s F_wh) (ok_wh (fun_s F_wh) T D_pi) (PySem.W.mg_of X G a_wh) b_wh rfl
  have DK_wh : DfK P w K mg base "is_whole" 5 ["blend"] id (spWh C CB) := ⟨f_wh, d_wh, _, _, fun l => l, ok_wh (fun_s F_wh) T D_pi, PySem.W.mg_of X G a_wh, F_wh.kp, bK_wh, fun _ _ _ h => h⟩
  have D_hv : Df P w K mg base "halves" 9 1 (spHv C CB) := df_of (fun_s F_hv) (ok_hv (fun_s F_hv) VB D_lo D_pi) (PySem.W.mg_of X G a_hv) b_hv rfl
  have DK_hv : DfK P w K mg base "halves" 9 ["blend"] id (spHv C CB) := ⟨f_hv, d_hv, _, _, fun l => l, ok_hv (fun_s F_hv) VB D_lo D_pi, PySem.W.mg_of X G a_hv, F_hv.kp, bK_hv, fun _ _ _ h => h⟩
  have D_mix : Df P w K mg base "_law_mixed" 2 2 spMix := df_of (fun_s F_mix) (ok_mix (fun_s F_mix) T D_draw) (PySem.W.mg_of X G a_mix) b_mix rfl
  have D_lt : Df P w K mg base "_law_letters" 3 2 spLtr := df_of (fun_s F_lt) (ok_lt (fun_s F_lt) T (PySem.W.mg_none_of X G z_sorted) D_mix) (PySem.W.mg_of X G a_lt) b_lt rfl
  have D_ac : ∀ m, Df P w K mg base "_law_counts" (m + 1) 2 (spAc m) := by
    intro m
    induction m with
    | zero => exact df_of (fun_s F_ac) (ok_ac 0 (fun_s F_ac) T nofun) (PySem.W.mg_of X G a_ac) b_ac rfl
    | succ m ih => exact df_of (fun_s F_ac) (ok_ac (m + 1) (fun_s F_ac) T fun j e => by cases e; exact ih) (PySem.W.mg_of X G a_ac) b_ac rfl
  have D_fo : Df P w K mg base "_law_forms" 2 3 spFo := df_of (fun_s F_fo) (ok_fo (fun_s F_fo) T (PySem.W.mg_none_of X G z_sorted) (PySem.W.mg_none_of X G z_set) D_draw) (PySem.W.mg_of X G a_fo) b_fo rfl
  have D_pd : Df P w K mg base "_law_products" 7 3 spPr := df_of (fun_s F_pd) (ok_pd (fun_s F_pd) T (PySem.W.mg_none_of X G z_all) (PySem.W.mg_none_of X G z_zip) (PySem.W.mg_none_of X G z_sum) D_draw D_fo fun m _ => D_ac m) (PySem.W.mg_of X G a_pd) b_pd rfl
  have D_sz : Df P w K mg base "_law_size" 3 1 spSz := df_of (fun_s F_sz) (ok_sz (fun_s F_sz) T D_draw D_pick) (PySem.W.mg_of X G a_sz) b_sz rfl
  have D_amt : Df P w K mg base "_law_amount" 4 1 (spAmD C) := df_of (fun_s F_amt) (ok_amt (fun_s F_amt) V D_draw) (PySem.W.mg_of X G a_amt) b_amt rfl
  have D_bld : Df P w K mg base "_law_blend" 9 3 (spBlD C CB) := df_of (fun_s F_bld) (ok_bld (fun_s F_bld) VB MK D_draw D_mix D_amt) (PySem.W.mg_of X G a_bld) b_bld rfl
  have D_dw : Df P w K mg base "_law_drawn" 10 1 (spDr C CB) := df_of (fun_s F_dw) (ok_dw (fun_s F_dw) D_sz D_lt D_pd D_bld) (PySem.W.mg_of X G a_dw) b_dw rfl
  have D_ls : Df P w K mg base "_law_lots" 2 1 spLs := df_of (fun_s F_ls) (ok_ls (fun_s F_ls) T (PySem.W.mg_none_of X G z_enumerate) (PySem.W.mg_none_of X G z_any) (PySem.W.mg_none_of X G z_sorted) (PySem.W.mg_none_of X G z_set)) (PySem.W.mg_of X G a_ls) b_ls rfl
  have D_lp : Df P w K mg base "_law_pieces" 3 2 spLp := df_of (fun_s F_lp) (ok_lp (fun_s F_lp) D_ls) (PySem.W.mg_of X G a_lp) b_lp rfl
  have OH : OHr P w K mg base C CB := { V := VB, rp := D_repr, ls := D_ls, lp := D_lp, pi := D_pi, wh := D_wh, hv := D_hv, hvK := DK_hv, am := D_bam, add := D_badd, any := PySem.W.mg_none_of X G z_any }
  have D_hr : Df P w K mg base "_law_halves_right" 11 3 (spHr C CB) := df_of (fun_s F_hr) (ok_hr (fun_s F_hr) OH) (PySem.W.mg_of X G a_hr) b_hr rfl
  have OR : ORi P w K mg base C CB := { O := OH, dw := D_dw, br := D_brep, piN := N_pi, piK := DK_pi, whK := DK_wh, hr := D_hr }
  have D_right : Df P w K mg base "_law_right" 12 1 spRight := df_of (fun_s F_right) (ok_ri (fun_s F_right) OR) (PySem.W.mg_of X G a_right) b_right rfl
  have D_pot : Nf P w K mg base "_law_pot" 1 spPot := ⟨f_pot, d_pot, _, ok_pot (fun_s F_pot) T, PySem.W.mg_of X G a_pot, F_pot.kp, b_pot⟩
  exact ok_law (fun_s F_law) T (PySem.W.mg_none_of X G z_min) D_pot D_right
end K21

set_option Elab.async false
open PySem PySem.W PyProof.Rows
theorem PySem.W.Fast.tw6927203193339897856 : True := trivial
theorem PySem.W.Fast.tw8475973936604301344 : True := trivial
theorem PySem.W.Fast.tw1297151506002104352 : True := trivial
theorem PySem.W.Fast.tw15716534468168768544 : True := trivial
theorem PySem.W.Fast.tw17789375988917240896 : True := trivial
theorem PySem.W.Fast.tw7062715277696693312 : True := trivial
theorem PySem.W.Fast.tw12941505005063085312 : True := trivial
theorem PySem.W.Fast.tw17947232457965413632 : True := trivial
theorem PySem.W.Fast.tw6772634839756808480 : True := trivial
theorem PySem.W.Fast.tw3617758035103186208 : True := trivial
theorem PySem.W.Fast.tw978932939207629120 : True := trivial
theorem PySem.W.Fast.tw13089141786643156320 : True := trivial
theorem PySem.W.Fast.tw9474253054815526336 : True := trivial
theorem PySem.W.Fast.tw13974618759007788480 : True := trivial
theorem PySem.W.Fast.tw5347379914959928864 : True := trivial
theorem PySem.W.Fast.tw16425508172059238944 : True := trivial
theorem PySem.W.Fast.tw14895137955837175328 : True := trivial
theorem PySem.W.Fast.tw4993817424344999488 : True := trivial
theorem PySem.W.Fast.tw14141405559387539040 : True := trivial
theorem PySem.W.Fast.tw390063883376917152 : True := trivial
theorem PySem.W.Fast.tw14341867216387407552 : True := trivial
theorem PySem.W.Fast.tw3003700753220284256 : True := trivial
theorem PySem.W.Fast.tw9549870026815978336 : True := trivial
theorem PySem.W.Fast.tw5248048868997405632 : True := trivial
theorem PySem.W.Fast.tw6266409285377292224 : True := trivial
theorem PySem.W.Fast.tw5315071248695001089 : True := trivial
theorem PySem.W.Fast.tw18376634150478052353 : True := trivial
theorem PySem.W.Fast.tw3704911027225404449 : True := trivial
theorem PySem.W.Fast.tw14886610028148516897 : True := trivial
theorem PySem.W.Fast.tw12241869816978732161 : True := trivial
theorem PySem.W.Fast.tw3256458684792744097 : True := trivial
theorem PySem.W.Fast.tw8033617684691153057 : True := trivial
theorem PySem.W.Fast.tw10100629583909727425 : True := trivial
theorem PySem.W.Fast.tw1724139723039984833 : True := trivial
theorem PySem.W.Fast.tw15164570053015117025 : True := trivial
theorem PySem.W.Fast.tw12936277385379213537 : True := trivial
theorem PySem.W.Fast.tw7480664731075454209 : True := trivial
theorem PySem.W.Fast.tw5082009852062608641 : True := trivial
theorem PySem.W.Fast.tw5368548496085860609 : True := trivial
theorem PySem.W.Fast.tw13561114007645467969 : True := trivial
theorem PySem.W.Fast.tw14851598535724112225 : True := trivial
theorem PySem.W.Fast.tw3705874649069568353 : True := trivial
theorem PySem.W.Fast.tw17420029206866588001 : True := trivial
theorem PySem.W.Fast.tw7518485075441113505 : True := trivial
theorem PySem.W.Fast.tw13339585054570451457 : True := trivial
theorem PySem.W.Fast.tw5940024531098001921 : True := trivial
theorem PySem.W.Fast.tw17914239303876417057 : True := trivial
theorem PySem.W.Fast.tw3844813332969935393 : True := trivial
theorem PySem.W.Fast.tw6039746063361887809 : True := trivial
theorem PySem.W.Fast.tw4792898255424021185 : True := trivial
theorem PySem.W.Fast.tw13522853694095043297 : True := trivial
theorem PySem.W.Fast.tw5776673042937699041 : True := trivial
theorem PySem.W.Fast.tw15998429025176084225 : True := trivial
theorem PySem.W.Fast.tw3010703921341442849 : True := trivial
theorem PySem.W.Fast.tw13624352900204750657 : True := trivial
theorem PySem.W.Fast.tw4467800923579548513 : True := trivial
theorem PySem.W.Fast.tw9382252170453711713 : True := trivial
theorem PySem.W.Fast.tw5051918829831247745 : True := trivial
theorem PySem.W.Fast.tw9851943108467467169 : True := trivial
theorem PySem.W.Fast.tw2421068185812856737 : True := trivial
theorem PySem.W.Fast.tw15693487651658786753 : True := trivial
theorem PySem.W.Fast.tw17682890230635070466 : True := trivial
theorem PySem.W.Fast.tw11129454502560822434 : True := trivial
theorem PySem.W.Fast.tw1546996624128255202 : True := trivial
theorem PySem.W.Fast.tw5544793746808231170 : True := trivial
theorem PySem.W.Fast.tw13585312024866468098 : True := trivial
theorem PySem.W.Fast.tw2974552652624268610 : True := trivial
theorem PySem.W.Fast.tw15462340464424997186 : True := trivial
theorem PySem.W.Fast.tw8965425498622961058 : True := trivial
theorem PySem.W.Fast.tw11783520593148168610 : True := trivial
theorem PySem.W.Fast.tw18308404701554128354 : True := trivial
theorem PySem.W.Fast.tw4984551237714249218 : True := trivial
theorem PySem.W.Fast.tw10341050894035223106 : True := trivial
theorem PySem.W.Fast.tw1273506057893542466 : True := trivial
theorem PySem.W.Fast.tw16402434322348376706 : True := trivial
theorem PySem.W.Fast.tw13845620153144838818 : True := trivial
theorem PySem.W.Fast.tw14624422283989810850 : True := trivial
theorem PySem.W.Fast.tw13281122084157672162 : True := trivial
theorem PySem.W.Fast.tw9530521524898445026 : True := trivial
theorem PySem.W.Fast.tw8217295716085118722 : True := trivial
theorem PySem.W.Fast.tw10130787619202736034 : True := trivial
theorem PySem.W.Fast.tw18412352219175994274 : True := trivial
theorem PySem.W.Fast.tw8334867615622253506 : True := trivial
theorem PySem.W.Fast.tw2990354723659172834 : True := trivial
theorem PySem.W.Fast.tw16283439718338815970 : True := trivial
theorem PySem.W.Fast.tw16838379053202925538 : True := trivial
theorem PySem.W.Fast.tw12688126040071001123 : True := trivial
theorem PySem.W.Fast.tw928309751735121955 : True := trivial
theorem PySem.W.Fast.tw2919245900271522083 : True := trivial
theorem PySem.W.Fast.tw71468112307299619 : True := trivial
theorem PySem.W.Fast.tw4259766926584745315 : True := trivial
theorem PySem.W.Fast.tw8439378206143144291 : True := trivial
theorem PySem.W.Fast.tw13113871335549571555 : True := trivial
theorem PySem.W.Fast.tw6426914137415633379 : True := trivial
theorem PySem.W.Fast.tw9680756011031862787 : True := trivial
theorem PySem.W.Fast.tw6759790370400693859 : True := trivial
theorem PySem.W.Fast.tw17737437738782232259 : True := trivial
theorem PySem.W.Fast.tw16966194239877080835 : True := trivial
theorem PySem.W.Fast.tw14091266725838342979 : True := trivial
theorem PySem.W.Fast.tw14232728658814927715 : True := trivial
theorem PySem.W.Fast.tw12265781440814564227 : True := trivial
theorem PySem.W.Fast.tw4067732721034104739 : True := trivial
theorem PySem.W.Fast.tw1237803599187893187 : True := trivial
theorem PySem.W.Fast.tw518197663479184355 : True := trivial
theorem PySem.W.Fast.tw6442656654788042723 : True := trivial
theorem PySem.W.Fast.tw15855314295168927748 : True := trivial
theorem PySem.W.Fast.tw3845616474681089028 : True := trivial
theorem PySem.W.Fast.tw8066723247568123908 : True := trivial
theorem PySem.W.Fast.tw2825122588535996452 : True := trivial
theorem PySem.W.Fast.tw14525229735954504772 : True := trivial
theorem PySem.W.Fast.tw14892965671689048196 : True := trivial
theorem PySem.W.Fast.tw15760436581876586628 : True := trivial
theorem PySem.W.Fast.tw4964208968499020996 : True := trivial
theorem PySem.W.Fast.tw8965060081980623076 : True := trivial
theorem PySem.W.Fast.tw11139029336335549700 : True := trivial
theorem PySem.W.Fast.tw18046560652002352388 : True := trivial
theorem PySem.W.Fast.tw9358169189711048964 : True := trivial
theorem PySem.W.Fast.tw1130698284410633476 : True := trivial
theorem PySem.W.Fast.tw2691057735830891812 : True := trivial
theorem PySem.W.Fast.tw13963942804979114308 : True := trivial
theorem PySem.W.Fast.tw17355507872094797156 : True := trivial
theorem PySem.W.Fast.tw15179787835661213060 : True := trivial
theorem PySem.W.Fast.tw10797618065858305508 : True := trivial
theorem PySem.W.Fast.tw4876271927555680740 : True := trivial
theorem PySem.W.Fast.tw1467367057930844676 : True := trivial
theorem PySem.W.Fast.tw17539306262458489348 : True := trivial
theorem PySem.W.Fast.tw1835860504930972196 : True := trivial
theorem PySem.W.Fast.tw14043264265210753604 : True := trivial
theorem PySem.W.Fast.tw11101721654203797092 : True := trivial
theorem PySem.W.Fast.tw2120107616277557860 : True := trivial
theorem PySem.W.Fast.tw10733284404403374724 : True := trivial
theorem PySem.W.Fast.tw4978389245372438212 : True := trivial
theorem PySem.W.Fast.tw12643079225880549060 : True := trivial
theorem PySem.W.Fast.tw10758555328382447300 : True := trivial
theorem PySem.W.Fast.tw1232304466168367812 : True := trivial
theorem PySem.W.Fast.tw2928082399486166756 : True := trivial
theorem PySem.W.Fast.tw15962357900457075428 : True := trivial
theorem PySem.W.Fast.tw8479790992222909156 : True := trivial
theorem PySem.W.Fast.tw2021392168831796996 : True := trivial
theorem PySem.W.Fast.tw12832575820788912996 : True := trivial
theorem PySem.W.Fast.tw6544220293370930020 : True := trivial
theorem PySem.W.Fast.tw16310212649653397412 : True := trivial
theorem PySem.W.Fast.tw1932500501155402692 : True := trivial
theorem PySem.W.Fast.tw17546950001939342308 : True := trivial
theorem PySem.W.Fast.tw8857501138856794084 : True := trivial
theorem PySem.W.Fast.tw13293210023577634821 : True := trivial
theorem PySem.W.Fast.tw1942740268770421765 : True := trivial
theorem PySem.W.Fast.tw18383314471816052773 : True := trivial
theorem PySem.W.Fast.tw185890426362812485 : True := trivial
theorem PySem.W.Fast.tw6890920323455144005 : True := trivial
theorem PySem.W.Fast.tw732270080219310213 : True := trivial
theorem PySem.W.Fast.tw3914950329190617253 : True := trivial
theorem PySem.W.Fast.tw11668789922387203301 : True := trivial
theorem PySem.W.Fast.tw3934024345081813253 : True := trivial
theorem PySem.W.Fast.tw13453837696222800133 : True := trivial
theorem PySem.W.Fast.tw13314373388327719461 : True := trivial
theorem PySem.W.Fast.tw8724057218803425829 : True := trivial
theorem PySem.W.Fast.tw8459630681600769605 : True := trivial
theorem PySem.W.Fast.tw4657366450019205765 : True := trivial
theorem PySem.W.Fast.tw1811430654692393637 : True := trivial
theorem PySem.W.Fast.tw2465726083491852965 : True := trivial
theorem PySem.W.Fast.tw17804195076300483269 : True := trivial
theorem PySem.W.Fast.tw8614850279049352933 : True := trivial
theorem PySem.W.Fast.tw14778027291388100357 : True := trivial
theorem PySem.W.Fast.tw13959734804450603781 : True := trivial
theorem PySem.W.Fast.tw14165574434849897285 : True := trivial
theorem PySem.W.Fast.tw7950693599318966117 : True := trivial
theorem PySem.W.Fast.tw6905256373343281093 : True := trivial
theorem PySem.W.Fast.tw8445442502458357733 : True := trivial
theorem PySem.W.Fast.tw15445792501207833638 : True := trivial
theorem PySem.W.Fast.tw863954348778101830 : True := trivial
theorem PySem.W.Fast.tw4820681159621207110 : True := trivial
theorem PySem.W.Fast.tw638233382021985382 : True := trivial
theorem PySem.W.Fast.tw13229902035597699206 : True := trivial
theorem PySem.W.Fast.tw1367180174185388262 : True := trivial
theorem PySem.W.Fast.tw8918388207947473190 : True := trivial
theorem PySem.W.Fast.tw10423683745062974758 : True := trivial
theorem PySem.W.Fast.tw14839506943767789894 : True := trivial
theorem PySem.W.Fast.tw7940293431552698758 : True := trivial
theorem PySem.W.Fast.tw7194190040914610598 : True := trivial
theorem PySem.W.Fast.tw16125485948445195686 : True := trivial
theorem PySem.W.Fast.tw17729355201088479686 : True := trivial
theorem PySem.W.Fast.tw9262225415517369798 : True := trivial
theorem PySem.W.Fast.tw10378125865314264550 : True := trivial
theorem PySem.W.Fast.tw8347076180036705766 : True := trivial
theorem PySem.W.Fast.tw13637324983280524806 : True := trivial
theorem PySem.W.Fast.tw613310463543476774 : True := trivial
theorem PySem.W.Fast.tw9871710819111038502 : True := trivial
theorem PySem.W.Fast.tw7300232483616548422 : True := trivial
theorem PySem.W.Fast.tw14632313257924702886 : True := trivial
theorem PySem.W.Fast.tw13233922142950904518 : True := trivial
theorem PySem.W.Fast.tw5222060437438243558 : True := trivial
theorem PySem.W.Fast.tw3003443697386796774 : True := trivial
theorem PySem.W.Fast.tw5435982265826454278 : True := trivial
theorem PySem.W.Fast.tw18358144033930156870 : True := trivial
theorem PySem.W.Fast.tw7695651061748353894 : True := trivial
theorem PySem.W.Fast.tw7727392027723718502 : True := trivial
theorem PySem.W.Fast.tw9876663471243593638 : True := trivial
theorem PySem.W.Fast.tw13942438432289248166 : True := trivial
theorem PySem.W.Fast.tw15060773718677579686 : True := trivial
theorem PySem.W.Fast.tw2862666335899183046 : True := trivial
theorem PySem.W.Fast.tw17063684587812367334 : True := trivial
theorem PySem.W.Fast.tw8145798633498356743 : True := trivial
theorem PySem.W.Fast.tw5583127579490265127 : True := trivial
theorem PySem.W.Fast.tw2180886929637836935 : True := trivial
theorem PySem.W.Fast.tw16168538357935361191 : True := trivial
theorem PySem.W.Fast.tw133763997052459207 : True := trivial
theorem PySem.W.Fast.tw7297854475326627047 : True := trivial
theorem PySem.W.Fast.tw17002383747742677223 : True := trivial
theorem PySem.W.Fast.tw17187447114405545223 : True := trivial
theorem PySem.W.Fast.tw4424352551772410119 : True := trivial
theorem PySem.W.Fast.tw340028007363041575 : True := trivial
theorem PySem.W.Fast.tw17996329564555754823 : True := trivial
theorem PySem.W.Fast.tw12518272194598465863 : True := trivial
theorem PySem.W.Fast.tw14519607558751817063 : True := trivial
theorem PySem.W.Fast.tw8816073725026656711 : True := trivial
theorem PySem.W.Fast.tw1659304864830123495 : True := trivial
theorem PySem.W.Fast.tw17355087590712280583 : True := trivial
theorem PySem.W.Fast.tw10479090544354213415 : True := trivial
theorem PySem.W.Fast.tw3833259854919722567 : True := trivial
theorem PySem.W.Fast.tw12692849142388926087 : True := trivial
theorem PySem.W.Fast.tw12343167486266543783 : True := trivial
theorem PySem.W.Fast.tw8332950637461624487 : True := trivial
theorem PySem.W.Fast.tw8908956302770266791 : True := trivial
theorem PySem.W.Fast.tw983084457640447687 : True := trivial
theorem PySem.W.Fast.tw352745184751254247 : True := trivial
theorem PySem.W.Fast.tw9322726661888048871 : True := trivial
theorem PySem.W.Fast.tw8322904063765458695 : True := trivial
theorem PySem.W.Fast.tw917325414530896679 : True := trivial
theorem PySem.W.Fast.tw2508137479877075751 : True := trivial
theorem PySem.W.Fast.tw5331602577955685191 : True := trivial
theorem PySem.W.Fast.tw4983093898886495079 : True := trivial
theorem PySem.W.Fast.tw1558661911915235239 : True := trivial
theorem PySem.W.Fast.tw14525497434231787463 : True := trivial
theorem PySem.W.Fast.tw9423412914133635047 : True := trivial
theorem PySem.W.Fast.tw11452045418422739943 : True := trivial
theorem PySem.W.Fast.tw14039233048472942600 : True := trivial
theorem PySem.W.Fast.tw12299854313585211400 : True := trivial
theorem PySem.W.Fast.tw3718172332788967432 : True := trivial
theorem PySem.W.Fast.tw11227997584093414504 : True := trivial
theorem PySem.W.Fast.tw783646970195424360 : True := trivial
theorem PySem.W.Fast.tw1633651760808519784 : True := trivial
theorem PySem.W.Fast.tw617215810506198152 : True := trivial
theorem PySem.W.Fast.tw10407093412168416392 : True := trivial
theorem PySem.W.Fast.tw56683600338108552 : True := trivial
theorem PySem.W.Fast.tw2642060736215077064 : True := trivial
theorem PySem.W.Fast.tw4027115049772014824 : True := trivial
theorem PySem.W.Fast.tw8514909696779504904 : True := trivial
theorem PySem.W.Fast.tw1025033833476744520 : True := trivial
theorem PySem.W.Fast.tw9268066311213848936 : True := trivial
theorem PySem.W.Fast.tw6254463225749538184 : True := trivial
theorem PySem.W.Fast.tw15425824083905725832 : True := trivial
theorem PySem.W.Fast.tw13388046415659137416 : True := trivial
theorem PySem.W.Fast.tw1197398126415580584 : True := trivial
theorem PySem.W.Fast.tw14080797853684022696 : True := trivial
theorem PySem.W.Fast.tw7510452978422740392 : True := trivial
theorem PySem.W.Fast.tw16354959603165823464 : True := trivial
theorem PySem.W.Fast.tw13115172609808177640 : True := trivial
theorem PySem.W.Fast.tw15869935552370652648 : True := trivial
theorem PySem.W.Fast.tw702434850129400296 : True := trivial
theorem PySem.W.Fast.tw15873118032006772200 : True := trivial
theorem PySem.W.Fast.tw12314520510184857288 : True := trivial
theorem PySem.W.Fast.tw4112401357840478920 : True := trivial
theorem PySem.W.Fast.tw11375683054507183848 : True := trivial
theorem PySem.W.Fast.tw8014792425725501192 : True := trivial
theorem PySem.W.Fast.tw15840622541870459656 : True := trivial
theorem PySem.W.Fast.tw9866686366491243272 : True := trivial
theorem PySem.W.Fast.tw1948476043963528968 : True := trivial
theorem PySem.W.Fast.tw1763586493289212808 : True := trivial
theorem PySem.W.Fast.tw10977362705462401960 : True := trivial
theorem PySem.W.Fast.tw9213280980390926248 : True := trivial
theorem PySem.W.Fast.tw16253053732929812424 : True := trivial
theorem PySem.W.Fast.tw16301254365383449576 : True := trivial
theorem PySem.W.Fast.tw13140080772726842344 : True := trivial
theorem PySem.W.Fast.tw12801355308040939496 : True := trivial
theorem PySem.W.Fast.tw14471825317184190505 : True := trivial
theorem PySem.W.Fast.tw7134526391510960233 : True := trivial
theorem PySem.W.Fast.tw7173447210526925929 : True := trivial
theorem PySem.W.Fast.tw12982505857134272649 : True := trivial
theorem PySem.W.Fast.tw7419195220979924105 : True := trivial
theorem PySem.W.Fast.tw8563537607964067017 : True := trivial
theorem PySem.W.Fast.tw5439656764664714441 : True := trivial
theorem PySem.W.Fast.tw3547084156928249065 : True := trivial
theorem PySem.W.Fast.tw3385230150634957065 : True := trivial
theorem PySem.W.Fast.tw11903842985845851433 : True := trivial
theorem PySem.W.Fast.tw13395283922190612777 : True := trivial
theorem PySem.W.Fast.tw1946052110848873769 : True := trivial
theorem PySem.W.Fast.tw17967233618377588041 : True := trivial
theorem PySem.W.Fast.tw10135232032720920969 : True := trivial
theorem PySem.W.Fast.tw3491894172370297225 : True := trivial
theorem PySem.W.Fast.tw8243822736514670985 : True := trivial
theorem PySem.W.Fast.tw9544032621311228297 : True := trivial
theorem PySem.W.Fast.tw1949460831379092905 : True := trivial
theorem PySem.W.Fast.tw4728539732289554889 : True := trivial
theorem PySem.W.Fast.tw6928514206902604233 : True := trivial
theorem PySem.W.Fast.tw8688856433909521865 : True := trivial
theorem PySem.W.Fast.tw2141909588530201097 : True := trivial
theorem PySem.W.Fast.tw689182257376096809 : True := trivial
theorem PySem.W.Fast.tw2644300567660993129 : True := trivial
theorem PySem.W.Fast.tw12899796688255762025 : True := trivial
theorem PySem.W.Fast.tw3124694663353812585 : True := trivial
theorem PySem.W.Fast.tw16626540980919133801 : True := trivial
theorem PySem.W.Fast.tw11745567353398652521 : True := trivial
theorem PySem.W.Fast.tw3472697371447837321 : True := trivial
theorem PySem.W.Fast.tw13197911591635050153 : True := trivial
theorem PySem.W.Fast.tw8640363643221416617 : True := trivial
theorem PySem.W.Fast.tw13825680326457745065 : True := trivial
theorem PySem.W.Fast.tw5639873527542714057 : True := trivial
theorem PySem.W.Fast.tw10644741743948389129 : True := trivial
theorem PySem.W.Fast.tw1179566563336230697 : True := trivial
theorem PySem.W.Fast.tw6069410352240753481 : True := trivial
theorem PySem.W.Fast.tw13690442852033199977 : True := trivial
theorem PySem.W.Fast.tw10291148454246743913 : True := trivial
theorem PySem.W.Fast.tw6272133857261729673 : True := trivial
theorem PySem.W.Fast.tw6655969675250685865 : True := trivial
theorem PySem.W.Fast.tw14244494099310573481 : True := trivial
theorem PySem.W.Fast.tw12169473511223727081 : True := trivial
theorem PySem.W.Fast.tw17702773664870906857 : True := trivial
theorem PySem.W.Fast.tw6087456043622453225 : True := trivial
theorem PySem.W.Fast.tw1619113197850420201 : True := trivial
theorem PySem.W.Fast.tw17337277470000411625 : True := trivial
theorem PySem.W.Fast.tw14800513215570611210 : True := trivial
theorem PySem.W.Fast.tw7691622342378726410 : True := trivial
theorem PySem.W.Fast.tw4513809007002790922 : True := trivial
theorem PySem.W.Fast.tw8393625425164822538 : True := trivial
theorem PySem.W.Fast.tw3558819538688324650 : True := trivial
theorem PySem.W.Fast.tw11359584493080532010 : True := trivial
theorem PySem.W.Fast.tw14080889818031829066 : True := trivial
theorem PySem.W.Fast.tw1670986509033506922 : True := trivial
theorem PySem.W.Fast.tw5584858618921947274 : True := trivial
theorem PySem.W.Fast.tw968716384612499594 : True := trivial
theorem PySem.W.Fast.tw14997885235536550058 : True := trivial
theorem PySem.W.Fast.tw13512489889445447882 : True := trivial
theorem PySem.W.Fast.tw16148285917170873546 : True := trivial
theorem PySem.W.Fast.tw15638544644035021130 : True := trivial
theorem PySem.W.Fast.tw3910084117162599754 : True := trivial
theorem PySem.W.Fast.tw11841950775289751882 : True := trivial
theorem PySem.W.Fast.tw17374558732204783946 : True := trivial
theorem PySem.W.Fast.tw15221614665619770762 : True := trivial
theorem PySem.W.Fast.tw13420460504418461098 : True := trivial
theorem PySem.W.Fast.tw4483557801745518026 : True := trivial
theorem PySem.W.Fast.tw3917873889990255082 : True := trivial
theorem PySem.W.Fast.tw5739440822328435210 : True := trivial
theorem PySem.W.Fast.tw13682225079677997578 : True := trivial
theorem PySem.W.Fast.tw14340053783411229226 : True := trivial
theorem PySem.W.Fast.tw2126364470466549290 : True := trivial
theorem PySem.W.Fast.tw15049860521917776426 : True := trivial
theorem PySem.W.Fast.tw18398687998856349290 : True := trivial
theorem PySem.W.Fast.tw13082351089931209354 : True := trivial
theorem PySem.W.Fast.tw5083970477994673834 : True := trivial
theorem PySem.W.Fast.tw6757205100190107306 : True := trivial
theorem PySem.W.Fast.tw5665737003934946986 : True := trivial
theorem PySem.W.Fast.tw8341460081528366762 : True := trivial
theorem PySem.W.Fast.tw13366426871586613930 : True := trivial
theorem PySem.W.Fast.tw4555770567888765642 : True := trivial
theorem PySem.W.Fast.tw17783750263200683754 : True := trivial
theorem PySem.W.Fast.tw2339719373045263082 : True := trivial
theorem PySem.W.Fast.tw16815353721105414890 : True := trivial
theorem PySem.W.Fast.tw10435119500988693322 : True := trivial
theorem PySem.W.Fast.tw16853070712206622538 : True := trivial
theorem PySem.W.Fast.tw3901112720614126442 : True := trivial
theorem PySem.W.Fast.tw7010839151001601898 : True := trivial
theorem PySem.W.Fast.tw9675915489496217482 : True := trivial
theorem PySem.W.Fast.tw3785394784555164586 : True := trivial
theorem PySem.W.Fast.tw1779560911659226058 : True := trivial
theorem PySem.W.Fast.tw13809081389969256394 : True := trivial
theorem PySem.W.Fast.tw5587507996579226602 : True := trivial
theorem PySem.W.Fast.tw12520400349243737066 : True := trivial
theorem PySem.W.Fast.tw4144427481702042667 : True := trivial
theorem PySem.W.Fast.tw10691882992896697419 : True := trivial
theorem PySem.W.Fast.tw17109424232185141387 : True := trivial
theorem PySem.W.Fast.tw7093024596325047435 : True := trivial
theorem PySem.W.Fast.tw3753538274051938443 : True := trivial
theorem PySem.W.Fast.tw16317860753050923147 : True := trivial
theorem PySem.W.Fast.tw14420552251753592971 : True := trivial
theorem PySem.W.Fast.tw10427164450135023787 : True := trivial
theorem PySem.W.Fast.tw3152277078563884363 : True := trivial
theorem PySem.W.Fast.tw3840021887213819211 : True := trivial
theorem PySem.W.Fast.tw13396308838374999435 : True := trivial
theorem PySem.W.Fast.tw7694832995480081803 : True := trivial
theorem PySem.W.Fast.tw8637403628107551147 : True := trivial
theorem PySem.W.Fast.tw15228882950065589707 : True := trivial
theorem PySem.W.Fast.tw17234924731991504331 : True := trivial
theorem PySem.W.Fast.tw12341240509309648331 : True := trivial
theorem PySem.W.Fast.tw15220783150588375531 : True := trivial
theorem PySem.W.Fast.tw18104992532642762251 : True := trivial
theorem PySem.W.Fast.tw15061947497506055691 : True := trivial
theorem PySem.W.Fast.tw10182932130912353803 : True := trivial
theorem PySem.W.Fast.tw14092133642385772043 : True := trivial
theorem PySem.W.Fast.tw17082803037868118571 : True := trivial
theorem PySem.W.Fast.tw579802291015010891 : True := trivial
theorem PySem.W.Fast.tw9779801548316473963 : True := trivial
theorem PySem.W.Fast.tw15238950358903619179 : True := trivial
theorem PySem.W.Fast.tw16547396751061652203 : True := trivial
theorem PySem.W.Fast.tw13506903342468179723 : True := trivial
theorem PySem.W.Fast.tw5544047048681528107 : True := trivial
theorem PySem.W.Fast.tw4978601945363007275 : True := trivial
theorem PySem.W.Fast.tw4220034510703769387 : True := trivial
theorem PySem.W.Fast.tw6139194351540652907 : True := trivial
theorem PySem.W.Fast.tw17647757316194421611 : True := trivial
theorem PySem.W.Fast.tw16102089342999695243 : True := trivial
theorem PySem.W.Fast.tw9625087110539463595 : True := trivial
theorem PySem.W.Fast.tw5784953727742179243 : True := trivial
theorem PySem.W.Fast.tw5690680022729565260 : True := trivial
theorem PySem.W.Fast.tw17395085218116290636 : True := trivial
theorem PySem.W.Fast.tw11003407823485062220 : True := trivial
theorem PySem.W.Fast.tw12704674198155257964 : True := trivial
theorem PySem.W.Fast.tw16312364013749785740 : True := trivial
theorem PySem.W.Fast.tw1924722326009254060 : True := trivial
theorem PySem.W.Fast.tw16740269763278734508 : True := trivial
theorem PySem.W.Fast.tw1895138149049230540 : True := trivial
theorem PySem.W.Fast.tw7981408336286283980 : True := trivial
theorem PySem.W.Fast.tw2522952708160270572 : True := trivial
theorem PySem.W.Fast.tw2390863248604022060 : True := trivial
theorem PySem.W.Fast.tw16357661274297242956 : True := trivial
theorem PySem.W.Fast.tw12359099843861092684 : True := trivial
theorem PySem.W.Fast.tw17081382644701020492 : True := trivial
theorem PySem.W.Fast.tw7388282496370961740 : True := trivial
theorem PySem.W.Fast.tw4315692933707043180 : True := trivial
theorem PySem.W.Fast.tw2482239049737306508 : True := trivial
theorem PySem.W.Fast.tw14458278974123161996 : True := trivial
theorem PySem.W.Fast.tw4441403886251657612 : True := trivial
theorem PySem.W.Fast.tw10069380152341860780 : True := trivial
theorem PySem.W.Fast.tw12255292390718133708 : True := trivial
theorem PySem.W.Fast.tw17470063729905204684 : True := trivial
theorem PySem.W.Fast.tw5275820480020835820 : True := trivial
theorem PySem.W.Fast.tw3787837585116498412 : True := trivial
theorem PySem.W.Fast.tw17594654982224502284 : True := trivial
theorem PySem.W.Fast.tw17551029136335277612 : True := trivial
theorem PySem.W.Fast.tw14532289706225612396 : True := trivial
theorem PySem.W.Fast.tw2279133195874447020 : True := trivial
theorem PySem.W.Fast.tw1168108371452795596 : True := trivial
theorem PySem.W.Fast.tw5607618809235833580 : True := trivial
theorem PySem.W.Fast.tw16654997127952773900 : True := trivial
theorem PySem.W.Fast.tw15168680165309732748 : True := trivial
theorem PySem.W.Fast.tw916835142752847788 : True := trivial
theorem PySem.W.Fast.tw13291495970170958828 : True := trivial
theorem PySem.W.Fast.tw13438254320261951501 : True := trivial
theorem PySem.W.Fast.tw8016606349075612717 : True := trivial
theorem PySem.W.Fast.tw2182055193074403405 : True := trivial
theorem PySem.W.Fast.tw880331455867501645 : True := trivial
theorem PySem.W.Fast.tw6101850744135231597 : True := trivial
theorem PySem.W.Fast.tw14363220334411494509 : True := trivial
theorem PySem.W.Fast.tw833216243078455437 : True := trivial
theorem PySem.W.Fast.tw9460618037675797709 : True := trivial
theorem PySem.W.Fast.tw12933257424247028941 : True := trivial
theorem PySem.W.Fast.tw907482449574998285 : True := trivial
theorem PySem.W.Fast.tw13196161166385663277 : True := trivial
theorem PySem.W.Fast.tw7345652764624554317 : True := trivial
theorem PySem.W.Fast.tw6383011074209704269 : True := trivial
theorem PySem.W.Fast.tw16227563655913111917 : True := trivial
theorem PySem.W.Fast.tw12303590712381558125 : True := trivial
theorem PySem.W.Fast.tw13346817287296388493 : True := trivial
theorem PySem.W.Fast.tw16847048019596956045 : True := trivial
theorem PySem.W.Fast.tw2692100065247030701 : True := trivial
theorem PySem.W.Fast.tw7851874824256254381 : True := trivial
theorem PySem.W.Fast.tw5229219332565437901 : True := trivial
theorem PySem.W.Fast.tw17346910442658805197 : True := trivial
theorem PySem.W.Fast.tw12034472894253696493 : True := trivial
theorem PySem.W.Fast.tw4977228220226583021 : True := trivial
theorem PySem.W.Fast.tw4745137982051576301 : True := trivial
theorem PySem.W.Fast.tw662266428255170061 : True := trivial
theorem PySem.W.Fast.tw7441988461229043277 : True := trivial
theorem PySem.W.Fast.tw15997228344223496813 : True := trivial
theorem PySem.W.Fast.tw14105589830668653229 : True := trivial
theorem PySem.W.Fast.tw5934601631996143277 : True := trivial
theorem PySem.W.Fast.tw17462384692800307949 : True := trivial
theorem PySem.W.Fast.tw3232373357335433997 : True := trivial
theorem PySem.W.Fast.tw5267850114949625645 : True := trivial
theorem PySem.W.Fast.tw9544121443151847245 : True := trivial
theorem PySem.W.Fast.tw13732940116175473517 : True := trivial
theorem PySem.W.Fast.tw4328537299763371917 : True := trivial
theorem PySem.W.Fast.tw14979791906594151373 : True := trivial
theorem PySem.W.Fast.tw5052434220166182861 : True := trivial
theorem PySem.W.Fast.tw17370551889564923853 : True := trivial
theorem PySem.W.Fast.tw9911593811425676269 : True := trivial
theorem PySem.W.Fast.tw12053270058974598125 : True := trivial
theorem PySem.W.Fast.tw14348461905250531342 : True := trivial
theorem PySem.W.Fast.tw7417077574532683822 : True := trivial
theorem PySem.W.Fast.tw4849117221605777454 : True := trivial
theorem PySem.W.Fast.tw2371429139333290062 : True := trivial
theorem PySem.W.Fast.tw11669896461270246478 : True := trivial
theorem PySem.W.Fast.tw12529439978307142766 : True := trivial
theorem PySem.W.Fast.tw11805608607586030766 : True := trivial
theorem PySem.W.Fast.tw2939523461541992622 : True := trivial
theorem PySem.W.Fast.tw13727055703754024142 : True := trivial
theorem PySem.W.Fast.tw8123909896300772558 : True := trivial
theorem PySem.W.Fast.tw1820153460889377998 : True := trivial
theorem PySem.W.Fast.tw12044402928980623598 : True := trivial
theorem PySem.W.Fast.tw17212192384792546542 : True := trivial
theorem PySem.W.Fast.tw11270601678559067406 : True := trivial
theorem PySem.W.Fast.tw6250839451502928142 : True := trivial
theorem PySem.W.Fast.tw10177014863210854702 : True := trivial
theorem PySem.W.Fast.tw1984380746667672910 : True := trivial
theorem PySem.W.Fast.tw10253637009731656078 : True := trivial
theorem PySem.W.Fast.tw10910143027622464974 : True := trivial
theorem PySem.W.Fast.tw3618671953452955086 : True := trivial
theorem PySem.W.Fast.tw15883230987987877326 : True := trivial
theorem PySem.W.Fast.tw16582121445949228526 : True := trivial
theorem PySem.W.Fast.tw5649688057325529614 : True := trivial
theorem PySem.W.Fast.tw10259645578741397038 : True := trivial
theorem PySem.W.Fast.tw8317582750977718830 : True := trivial
theorem PySem.W.Fast.tw14376857811195231790 : True := trivial
theorem PySem.W.Fast.tw6401912215012205134 : True := trivial
theorem PySem.W.Fast.tw12758247690741784206 : True := trivial
theorem PySem.W.Fast.tw13507662749394787982 : True := trivial
theorem PySem.W.Fast.tw14176902958184464014 : True := trivial
theorem PySem.W.Fast.tw1537722214591890126 : True := trivial
theorem PySem.W.Fast.tw884952540595830478 : True := trivial
theorem PySem.W.Fast.tw11898384332549356270 : True := trivial
theorem PySem.W.Fast.tw5814732703953953582 : True := trivial
theorem PySem.W.Fast.tw315977967674317614 : True := trivial
theorem PySem.W.Fast.tw4870611647164828494 : True := trivial
theorem PySem.W.Fast.tw11285425519192167278 : True := trivial
theorem PySem.W.Fast.tw5276912042243687310 : True := trivial
theorem PySem.W.Fast.tw8724986403071576974 : True := trivial
theorem PySem.W.Fast.tw13688295376251532206 : True := trivial
theorem PySem.W.Fast.tw7260502935909427215 : True := trivial
theorem PySem.W.Fast.tw2660095756212655151 : True := trivial
theorem PySem.W.Fast.tw10717762598237001839 : True := trivial
theorem PySem.W.Fast.tw9223303201528991855 : True := trivial
theorem PySem.W.Fast.tw8806453197563853967 : True := trivial
theorem PySem.W.Fast.tw10209886313359394991 : True := trivial
theorem PySem.W.Fast.tw47507054723329199 : True := trivial
theorem PySem.W.Fast.tw4013185645248594127 : True := trivial
theorem PySem.W.Fast.tw17510888649312447759 : True := trivial
theorem PySem.W.Fast.tw10862202581633617199 : True := trivial
theorem PySem.W.Fast.tw8043929517284805935 : True := trivial
theorem PySem.W.Fast.tw812751262594332975 : True := trivial
theorem PySem.W.Fast.tw7309843869780033903 : True := trivial
theorem PySem.W.Fast.tw4335104000664985999 : True := trivial
theorem PySem.W.Fast.tw10554529873210386895 : True := trivial
theorem PySem.W.Fast.tw9519433032507656719 : True := trivial
theorem PySem.W.Fast.tw17942420751221270095 : True := trivial
theorem PySem.W.Fast.tw10989783187898813103 : True := trivial
theorem PySem.W.Fast.tw17615321124805660335 : True := trivial
theorem PySem.W.Fast.tw12113593883967704751 : True := trivial
theorem PySem.W.Fast.tw6916906763901162191 : True := trivial
theorem PySem.W.Fast.tw16942911754510230223 : True := trivial
theorem PySem.W.Fast.tw18046578433749314287 : True := trivial
theorem PySem.W.Fast.tw3516658169428945679 : True := trivial
theorem PySem.W.Fast.tw15351558163417718543 : True := trivial
theorem PySem.W.Fast.tw13083579123472099087 : True := trivial
theorem PySem.W.Fast.tw16626239977595289455 : True := trivial
theorem PySem.W.Fast.tw9792807780104919951 : True := trivial
theorem PySem.W.Fast.tw15983554842162063279 : True := trivial
theorem PySem.W.Fast.tw17833680542763653039 : True := trivial
theorem PySem.W.Fast.tw17869279637998902223 : True := trivial
theorem PySem.W.Fast.tw3876896245513792463 : True := trivial
theorem PySem.W.Fast.tw3058186958593912848 : True := trivial
theorem PySem.W.Fast.tw13826171603587683408 : True := trivial
theorem PySem.W.Fast.tw5876714470394388560 : True := trivial
theorem PySem.W.Fast.tw13575670844502639728 : True := trivial
theorem PySem.W.Fast.tw15488517581583396976 : True := trivial
theorem PySem.W.Fast.tw7686154036932294768 : True := trivial
theorem PySem.W.Fast.tw11281077977067079792 : True := trivial
theorem PySem.W.Fast.tw23408993684783248 : True := trivial
theorem PySem.W.Fast.tw17049834263976156304 : True := trivial
theorem PySem.W.Fast.tw7411578333249323152 : True := trivial
theorem PySem.W.Fast.tw9496716549542594704 : True := trivial
theorem PySem.W.Fast.tw18230451676896808112 : True := trivial
theorem PySem.W.Fast.tw7515092540466209968 : True := trivial
theorem PySem.W.Fast.tw10726568755225390352 : True := trivial
theorem PySem.W.Fast.tw14455932359095806320 : True := trivial
theorem PySem.W.Fast.tw13973973033417572752 : True := trivial
theorem PySem.W.Fast.tw15773486192182941072 : True := trivial
theorem PySem.W.Fast.tw11925908390610394608 : True := trivial
theorem PySem.W.Fast.tw10480757841489604176 : True := trivial
theorem PySem.W.Fast.tw11673855896741078608 : True := trivial
theorem PySem.W.Fast.tw13181017347972011632 : True := trivial
theorem PySem.W.Fast.tw11329200259332312752 : True := trivial
theorem PySem.W.Fast.tw16748757545127208624 : True := trivial
theorem PySem.W.Fast.tw1011218452569616080 : True := trivial
theorem PySem.W.Fast.tw7989082911028136688 : True := trivial
theorem PySem.W.Fast.tw75331951011874544 : True := trivial
theorem PySem.W.Fast.tw4075732587760070448 : True := trivial
theorem PySem.W.Fast.tw178973416811452240 : True := trivial
theorem PySem.W.Fast.tw1954691575130992528 : True := trivial
theorem PySem.W.Fast.tw17545652516185633712 : True := trivial
theorem PySem.W.Fast.tw4046201630922579920 : True := trivial
theorem PySem.W.Fast.tw12449400416729646032 : True := trivial
theorem PySem.W.Fast.tw12801919465135403984 : True := trivial
theorem PySem.W.Fast.tw2110007855529326544 : True := trivial
theorem PySem.W.Fast.tw6079998068477474833 : True := trivial
theorem PySem.W.Fast.tw17546780998320809073 : True := trivial
theorem PySem.W.Fast.tw15889404568468954289 : True := trivial
theorem PySem.W.Fast.tw15607749212794883249 : True := trivial
theorem PySem.W.Fast.tw4663570447915620561 : True := trivial
theorem PySem.W.Fast.tw6887471540646816977 : True := trivial
theorem PySem.W.Fast.tw5559718656957795537 : True := trivial
theorem PySem.W.Fast.tw3413298110962005233 : True := trivial
theorem PySem.W.Fast.tw17497321828211390801 : True := trivial
theorem PySem.W.Fast.tw1352614885780266385 : True := trivial
theorem PySem.W.Fast.tw5963676923062394257 : True := trivial
theorem PySem.W.Fast.tw16017031953663587729 : True := trivial
theorem PySem.W.Fast.tw1800638140383310257 : True := trivial
theorem PySem.W.Fast.tw5906267333464421809 : True := trivial
theorem PySem.W.Fast.tw12991711937282244017 : True := trivial
theorem PySem.W.Fast.tw5307887630672797169 : True := trivial
theorem PySem.W.Fast.tw5090262635050344945 : True := trivial
theorem PySem.W.Fast.tw15411331435308787185 : True := trivial
theorem PySem.W.Fast.tw4714630937525632497 : True := trivial
theorem PySem.W.Fast.tw18431436704934570513 : True := trivial
theorem PySem.W.Fast.tw14974659166899682833 : True := trivial
theorem PySem.W.Fast.tw3761720268919798353 : True := trivial
theorem PySem.W.Fast.tw14496953504199806545 : True := trivial
theorem PySem.W.Fast.tw9501515624539689681 : True := trivial
theorem PySem.W.Fast.tw11343884309844069169 : True := trivial
theorem PySem.W.Fast.tw18347945551334936465 : True := trivial
theorem PySem.W.Fast.tw13903053368584789905 : True := trivial
theorem PySem.W.Fast.tw16194498676945067953 : True := trivial
theorem PySem.W.Fast.tw4981327418340046801 : True := trivial
theorem PySem.W.Fast.tw6487640297061025777 : True := trivial
theorem PySem.W.Fast.tw15400964959393678418 : True := trivial
theorem PySem.W.Fast.tw5002571190567887986 : True := trivial
theorem PySem.W.Fast.tw15720154128030654578 : True := trivial
theorem PySem.W.Fast.tw372784585634917618 : True := trivial
theorem PySem.W.Fast.tw15275832539017822450 : True := trivial
theorem PySem.W.Fast.tw601360075732863250 : True := trivial
theorem PySem.W.Fast.tw17485875768750286098 : True := trivial
theorem PySem.W.Fast.tw12358545843783798130 : True := trivial
theorem PySem.W.Fast.tw12500624334694444402 : True := trivial
theorem PySem.W.Fast.tw3525811884421792146 : True := trivial
theorem PySem.W.Fast.tw3189546352112341426 : True := trivial
theorem PySem.W.Fast.tw14518053563181405650 : True := trivial
theorem PySem.W.Fast.tw13647566345341290994 : True := trivial
theorem PySem.W.Fast.tw7033369037868753394 : True := trivial
theorem PySem.W.Fast.tw1110052678711764530 : True := trivial
theorem PySem.W.Fast.tw8549617281059574354 : True := trivial
theorem PySem.W.Fast.tw14336803775485721234 : True := trivial
theorem PySem.W.Fast.tw12459978310188198546 : True := trivial
theorem PySem.W.Fast.tw12368977266807706290 : True := trivial
theorem PySem.W.Fast.tw6792706391394944722 : True := trivial
theorem PySem.W.Fast.tw18232366396923743954 : True := trivial
theorem PySem.W.Fast.tw7279068572561241842 : True := trivial
theorem PySem.W.Fast.tw496804889429742322 : True := trivial
theorem PySem.W.Fast.tw17882782869555071762 : True := trivial
theorem PySem.W.Fast.tw2842638003096573810 : True := trivial
theorem PySem.W.Fast.tw14753039425980518258 : True := trivial
theorem PySem.W.Fast.tw7627141413015857042 : True := trivial
theorem PySem.W.Fast.tw271567825459343282 : True := trivial
theorem PySem.W.Fast.tw2504192498627658738 : True := trivial
theorem PySem.W.Fast.tw4328618312817975347 : True := trivial
theorem PySem.W.Fast.tw1143025376899728467 : True := trivial
theorem PySem.W.Fast.tw14278122998907675731 : True := trivial
theorem PySem.W.Fast.tw6592280659212878963 : True := trivial
theorem PySem.W.Fast.tw17348325723224720499 : True := trivial
theorem PySem.W.Fast.tw623466905802296435 : True := trivial
theorem PySem.W.Fast.tw8765658135752267891 : True := trivial
theorem PySem.W.Fast.tw10528892704072269971 : True := trivial
theorem PySem.W.Fast.tw12582736368102036627 : True := trivial
theorem PySem.W.Fast.tw12495066686614498483 : True := trivial
theorem PySem.W.Fast.tw7312286893103093971 : True := trivial
theorem PySem.W.Fast.tw4457090288068479187 : True := trivial
theorem PySem.W.Fast.tw12293085400495017171 : True := trivial
theorem PySem.W.Fast.tw9454558293905863891 : True := trivial
theorem PySem.W.Fast.tw806924980713617619 : True := trivial
theorem PySem.W.Fast.tw10062288171263281491 : True := trivial
theorem PySem.W.Fast.tw6610507996264118643 : True := trivial
theorem PySem.W.Fast.tw12405093226185275763 : True := trivial
theorem PySem.W.Fast.tw11496462037533356467 : True := trivial
theorem PySem.W.Fast.tw6951670855969043891 : True := trivial
theorem PySem.W.Fast.tw350459353294470611 : True := trivial
theorem PySem.W.Fast.tw9656921860148974067 : True := trivial
theorem PySem.W.Fast.tw17900248695442493971 : True := trivial
theorem PySem.W.Fast.tw9834147471820528211 : True := trivial
theorem PySem.W.Fast.tw8663643593884934739 : True := trivial
theorem PySem.W.Fast.tw463245594707646035 : True := trivial
theorem PySem.W.Fast.tw8220433193701401171 : True := trivial
theorem PySem.W.Fast.tw17099826471992391251 : True := trivial
theorem PySem.W.Fast.tw2319514197763466899 : True := trivial
theorem PySem.W.Fast.tw4828227174357133971 : True := trivial
theorem PySem.W.Fast.tw14207621811675883251 : True := trivial
theorem PySem.W.Fast.tw4342612844626524947 : True := trivial
theorem PySem.W.Fast.tw9971229359071287155 : True := trivial
theorem PySem.W.Fast.tw4227136535904377779 : True := trivial
theorem PySem.W.Fast.tw2520775064305188787 : True := trivial
theorem PySem.W.Fast.tw13922824250289210355 : True := trivial
theorem PySem.W.Fast.tw4236250449324365811 : True := trivial
theorem PySem.W.Fast.tw5625256840705012723 : True := trivial
theorem PySem.W.Fast.tw18068971766351039508 : True := trivial
theorem PySem.W.Fast.tw8099225999001792564 : True := trivial
theorem PySem.W.Fast.tw13801680430095663220 : True := trivial
theorem PySem.W.Fast.tw17658353418774118548 : True := trivial
theorem PySem.W.Fast.tw7844050952178283668 : True := trivial
theorem PySem.W.Fast.tw11452922875336770708 : True := trivial
theorem PySem.W.Fast.tw6657292854628928692 : True := trivial
theorem PySem.W.Fast.tw2451766107471323348 : True := trivial
theorem PySem.W.Fast.tw6751672750940447956 : True := trivial
theorem PySem.W.Fast.tw3054642289077671188 : True := trivial
theorem PySem.W.Fast.tw18279661589584551188 : True := trivial
theorem PySem.W.Fast.tw13636896135005059380 : True := trivial
theorem PySem.W.Fast.tw16365650298524166484 : True := trivial
theorem PySem.W.Fast.tw5622265543713293748 : True := trivial
theorem PySem.W.Fast.tw7481655290001231284 : True := trivial
theorem PySem.W.Fast.tw16686013197774247348 : True := trivial
theorem PySem.W.Fast.tw16800107010581296596 : True := trivial
theorem PySem.W.Fast.tw16556017883395702260 : True := trivial
theorem PySem.W.Fast.tw14918835792633735732 : True := trivial
theorem PySem.W.Fast.tw1024095566991611508 : True := trivial
theorem PySem.W.Fast.tw13305673259513592468 : True := trivial
theorem PySem.W.Fast.tw9394246882372347540 : True := trivial
theorem PySem.W.Fast.tw18426287573621300916 : True := trivial
theorem PySem.W.Fast.tw170664076426637012 : True := trivial
theorem PySem.W.Fast.tw15850214019505856244 : True := trivial
theorem PySem.W.Fast.tw16242050557306666772 : True := trivial
theorem PySem.W.Fast.tw7698947608052593492 : True := trivial
theorem PySem.W.Fast.tw2265726881122594676 : True := trivial
theorem PySem.W.Fast.tw9886607887338653556 : True := trivial
theorem PySem.W.Fast.tw2876524491369507732 : True := trivial
theorem PySem.W.Fast.tw3965371571201981364 : True := trivial
theorem PySem.W.Fast.tw13169821559287659444 : True := trivial
theorem PySem.W.Fast.tw3415871134936739796 : True := trivial
theorem PySem.W.Fast.tw5200354306735836181 : True := trivial
theorem PySem.W.Fast.tw2981383371123157013 : True := trivial
theorem PySem.W.Fast.tw3827976110344342613 : True := trivial
theorem PySem.W.Fast.tw5545698045251142741 : True := trivial
theorem PySem.W.Fast.tw18214029720590647477 : True := trivial
theorem PySem.W.Fast.tw17709124618790748341 : True := trivial
theorem PySem.W.Fast.tw9771566417285763253 : True := trivial
theorem PySem.W.Fast.tw6389995330771827925 : True := trivial
theorem PySem.W.Fast.tw10929647211941001461 : True := trivial
theorem PySem.W.Fast.tw15419853764024145205 : True := trivial
theorem PySem.W.Fast.tw13814595326656076085 : True := trivial
theorem PySem.W.Fast.tw3128093853492281717 : True := trivial
theorem PySem.W.Fast.tw15245926257385881973 : True := trivial
theorem PySem.W.Fast.tw429358122308300149 : True := trivial
theorem PySem.W.Fast.tw10306784964318837141 : True := trivial
theorem PySem.W.Fast.tw11949860981601628565 : True := trivial
theorem PySem.W.Fast.tw1561895092297286069 : True := trivial
theorem PySem.W.Fast.tw1836172496262122933 : True := trivial
theorem PySem.W.Fast.tw18102155823622615477 : True := trivial
theorem PySem.W.Fast.tw13665119728569981397 : True := trivial
theorem PySem.W.Fast.tw382245927757666773 : True := trivial
theorem PySem.W.Fast.tw14083332702177562101 : True := trivial
theorem PySem.W.Fast.tw12319316533995682293 : True := trivial
theorem PySem.W.Fast.tw3931872790566593013 : True := trivial
theorem PySem.W.Fast.tw4139801484152874549 : True := trivial
theorem PySem.W.Fast.tw10443494119678116405 : True := trivial
theorem PySem.W.Fast.tw12879995930206466677 : True := trivial
theorem PySem.W.Fast.tw10128196344456750741 : True := trivial
theorem PySem.W.Fast.tw9017022490850161301 : True := trivial
theorem PySem.W.Fast.tw10597925436126022325 : True := trivial
theorem PySem.W.Fast.tw11498350708827775701 : True := trivial
theorem PySem.W.Fast.tw15531806979908529877 : True := trivial
theorem PySem.W.Fast.tw10714510290798092021 : True := trivial
theorem PySem.W.Fast.tw18130084903753955061 : True := trivial
theorem PySem.W.Fast.tw6624875651549942517 : True := trivial
theorem PySem.W.Fast.tw10026582607861193525 : True := trivial
theorem PySem.W.Fast.tw14633840485821248309 : True := trivial
theorem PySem.W.Fast.tw15263272789252137813 : True := trivial
theorem PySem.W.Fast.tw13969952805446999957 : True := trivial
theorem PySem.W.Fast.tw7534907256773682133 : True := trivial
theorem PySem.W.Fast.tw6297357421485192149 : True := trivial
theorem PySem.W.Fast.tw131097986314279958 : True := trivial
theorem PySem.W.Fast.tw16303332012683045910 : True := trivial
theorem PySem.W.Fast.tw11679770545345852438 : True := trivial
theorem PySem.W.Fast.tw6542189123915182166 : True := trivial
theorem PySem.W.Fast.tw16073787206302900470 : True := trivial
theorem PySem.W.Fast.tw18125876408504038646 : True := trivial
theorem PySem.W.Fast.tw9471638647811233046 : True := trivial
theorem PySem.W.Fast.tw12405404433842195766 : True := trivial
theorem PySem.W.Fast.tw2284002375359384918 : True := trivial
theorem PySem.W.Fast.tw8846379312406836630 : True := trivial
theorem PySem.W.Fast.tw13786569870840130966 : True := trivial
theorem PySem.W.Fast.tw12541110423508578710 : True := trivial
theorem PySem.W.Fast.tw10454662486005392854 : True := trivial
theorem PySem.W.Fast.tw10782673749405226486 : True := trivial
theorem PySem.W.Fast.tw1971750835990734326 : True := trivial
theorem PySem.W.Fast.tw12671672825036961270 : True := trivial
theorem PySem.W.Fast.tw7477934695378276886 : True := trivial
theorem PySem.W.Fast.tw7595194605588334134 : True := trivial
theorem PySem.W.Fast.tw6296567582507446870 : True := trivial
theorem PySem.W.Fast.tw10368348091655309942 : True := trivial
theorem PySem.W.Fast.tw17939447509708523158 : True := trivial
theorem PySem.W.Fast.tw14934420123070530230 : True := trivial
theorem PySem.W.Fast.tw9308456753124306614 : True := trivial
theorem PySem.W.Fast.tw8202676456097871542 : True := trivial
theorem PySem.W.Fast.tw14767262940546947894 : True := trivial
theorem PySem.W.Fast.tw5292519379187535766 : True := trivial
theorem PySem.W.Fast.tw17849516320488871830 : True := trivial
theorem PySem.W.Fast.tw117568316423544790 : True := trivial
theorem PySem.W.Fast.tw6522762837817454582 : True := trivial
theorem PySem.W.Fast.tw17506271433231285238 : True := trivial
theorem PySem.W.Fast.tw13056487778073644087 : True := trivial
theorem PySem.W.Fast.tw4770388811954499639 : True := trivial
theorem PySem.W.Fast.tw10603111337726508119 : True := trivial
theorem PySem.W.Fast.tw734226085781549207 : True := trivial
theorem PySem.W.Fast.tw7099484155073776823 : True := trivial
theorem PySem.W.Fast.tw17482372493304829111 : True := trivial
theorem PySem.W.Fast.tw15420747333586396439 : True := trivial
theorem PySem.W.Fast.tw16265825140167681303 : True := trivial
theorem PySem.W.Fast.tw16238906134801272087 : True := trivial
theorem PySem.W.Fast.tw2575047590313026839 : True := trivial
theorem PySem.W.Fast.tw1540613062491379127 : True := trivial
theorem PySem.W.Fast.tw4024281126881468855 : True := trivial
theorem PySem.W.Fast.tw5346695853145875895 : True := trivial
theorem PySem.W.Fast.tw1559611518035924439 : True := trivial
theorem PySem.W.Fast.tw11701408167026150871 : True := trivial
theorem PySem.W.Fast.tw11103711438597365303 : True := trivial
theorem PySem.W.Fast.tw6643808391413554743 : True := trivial
theorem PySem.W.Fast.tw9492273742829055575 : True := trivial
theorem PySem.W.Fast.tw17026928305561942647 : True := trivial
theorem PySem.W.Fast.tw14123975881674501783 : True := trivial
theorem PySem.W.Fast.tw11233347192729173655 : True := trivial
theorem PySem.W.Fast.tw17999249312533395127 : True := trivial
theorem PySem.W.Fast.tw10521371715703513847 : True := trivial
theorem PySem.W.Fast.tw1548692730880162551 : True := trivial
theorem PySem.W.Fast.tw13336024196794101527 : True := trivial
theorem PySem.W.Fast.tw14455122586515663671 : True := trivial
theorem PySem.W.Fast.tw18073139586752015159 : True := trivial
theorem PySem.W.Fast.tw6525912503166140215 : True := trivial
theorem PySem.W.Fast.tw11987569788709862263 : True := trivial
theorem PySem.W.Fast.tw1298162345198474103 : True := trivial
theorem PySem.W.Fast.tw18284299957480765367 : True := trivial
theorem PySem.W.Fast.tw7590000485451541463 : True := trivial
theorem PySem.W.Fast.tw2645492519771256823 : True := trivial
theorem PySem.W.Fast.tw5717213499370321911 : True := trivial
theorem PySem.W.Fast.tw7788332306217026584 : True := trivial
theorem PySem.W.Fast.tw8395239073063328856 : True := trivial
theorem PySem.W.Fast.tw364297838913252472 : True := trivial
theorem PySem.W.Fast.tw8846464350318916728 : True := trivial
theorem PySem.W.Fast.tw18062457826146801816 : True := trivial
theorem PySem.W.Fast.tw6052334687740880024 : True := trivial
theorem PySem.W.Fast.tw7257805054614596760 : True := trivial
theorem PySem.W.Fast.tw18118214373357657272 : True := trivial
theorem PySem.W.Fast.tw1612381506569708728 : True := trivial
theorem PySem.W.Fast.tw6205878604513130680 : True := trivial
theorem PySem.W.Fast.tw2830665802088910040 : True := trivial
theorem PySem.W.Fast.tw18261992613336069336 : True := trivial
theorem PySem.W.Fast.tw17518056244719674616 : True := trivial
theorem PySem.W.Fast.tw10690557544086208792 : True := trivial
theorem PySem.W.Fast.tw4862952669216851256 : True := trivial
theorem PySem.W.Fast.tw14952309327742644568 : True := trivial
theorem PySem.W.Fast.tw4884779268803558744 : True := trivial
theorem PySem.W.Fast.tw3449148147457347960 : True := trivial
theorem PySem.W.Fast.tw3154232201203911032 : True := trivial
theorem PySem.W.Fast.tw5413111779298623928 : True := trivial
theorem PySem.W.Fast.tw8007215809574784440 : True := trivial
theorem PySem.W.Fast.tw6977667869527460344 : True := trivial
theorem PySem.W.Fast.tw6936006231437487672 : True := trivial
theorem PySem.W.Fast.tw2246508754010948152 : True := trivial
theorem PySem.W.Fast.tw2398090441345386072 : True := trivial
theorem PySem.W.Fast.tw5356793878090411608 : True := trivial
theorem PySem.W.Fast.tw16936099887147204216 : True := trivial
theorem PySem.W.Fast.tw15497605121173701240 : True := trivial
theorem PySem.W.Fast.tw5378446833468626584 : True := trivial
theorem PySem.W.Fast.tw16777287098106346136 : True := trivial
theorem PySem.W.Fast.tw17596218698246717112 : True := trivial
theorem PySem.W.Fast.tw5676634068666118936 : True := trivial
theorem PySem.W.Fast.tw12209955351294681912 : True := trivial
theorem PySem.W.Fast.tw11908903478025928504 : True := trivial
theorem PySem.W.Fast.tw16520108262308311864 : True := trivial
theorem PySem.W.Fast.tw10786764324074190648 : True := trivial
theorem PySem.W.Fast.tw2559343947803233112 : True := trivial
theorem PySem.W.Fast.tw3655542606232700760 : True := trivial
theorem PySem.W.Fast.tw6494255240993368920 : True := trivial
theorem PySem.W.Fast.tw6881637469644535672 : True := trivial
theorem PySem.W.Fast.tw17785155881421942648 : True := trivial
theorem PySem.W.Fast.tw13124258827060451224 : True := trivial
theorem PySem.W.Fast.tw3968665808115943320 : True := trivial
theorem PySem.W.Fast.tw13819621760268237849 : True := trivial
theorem PySem.W.Fast.tw11187333155118926937 : True := trivial
theorem PySem.W.Fast.tw12413355587470043289 : True := trivial
theorem PySem.W.Fast.tw10677752627050557625 : True := trivial
theorem PySem.W.Fast.tw8640320459150716153 : True := trivial
theorem PySem.W.Fast.tw9037031508322454841 : True := trivial
theorem PySem.W.Fast.tw3815972271480412473 : True := trivial
theorem PySem.W.Fast.tw14767877727708473689 : True := trivial
theorem PySem.W.Fast.tw1986572716542308729 : True := trivial
theorem PySem.W.Fast.tw6543824893623058809 : True := trivial
theorem PySem.W.Fast.tw15167806360002467225 : True := trivial
theorem PySem.W.Fast.tw14373241601285003673 : True := trivial
theorem PySem.W.Fast.tw12385388408841714073 : True := trivial
theorem PySem.W.Fast.tw1142582498070551993 : True := trivial
theorem PySem.W.Fast.tw18037817660625274361 : True := trivial
theorem PySem.W.Fast.tw3697597826307074585 : True := trivial
theorem PySem.W.Fast.tw15257703711457072697 : True := trivial
theorem PySem.W.Fast.tw13549368101273137721 : True := trivial
theorem PySem.W.Fast.tw6991577597898324537 : True := trivial
theorem PySem.W.Fast.tw17882632106609197657 : True := trivial
theorem PySem.W.Fast.tw202621629251408473 : True := trivial
theorem PySem.W.Fast.tw15787869938969899609 : True := trivial
theorem PySem.W.Fast.tw2939630874369865337 : True := trivial
theorem PySem.W.Fast.tw15844902755121732249 : True := trivial
theorem PySem.W.Fast.tw2032612880793589401 : True := trivial
theorem PySem.W.Fast.tw16226019953008893625 : True := trivial
theorem PySem.W.Fast.tw1332145650083241721 : True := trivial
theorem PySem.W.Fast.tw9593982162464335609 : True := trivial
theorem PySem.W.Fast.tw4441251424023935737 : True := trivial
theorem PySem.W.Fast.tw9437181768463122169 : True := trivial
theorem PySem.W.Fast.tw13463745345420213017 : True := trivial
theorem PySem.W.Fast.tw11342075667274510137 : True := trivial
theorem PySem.W.Fast.tw12568362719687656249 : True := trivial
theorem PySem.W.Fast.tw11416826494304501593 : True := trivial
theorem PySem.W.Fast.tw18031272827750073209 : True := trivial
theorem PySem.W.Fast.tw15077646352691946361 : True := trivial
theorem PySem.W.Fast.tw9744272979280556025 : True := trivial
theorem PySem.W.Fast.tw13492387886182554650 : True := trivial
theorem PySem.W.Fast.tw2001336687464590394 : True := trivial
theorem PySem.W.Fast.tw10015084774478252122 : True := trivial
theorem PySem.W.Fast.tw12333919669937670234 : True := trivial
theorem PySem.W.Fast.tw13328821332786351194 : True := trivial
theorem PySem.W.Fast.tw2793524369311745146 : True := trivial
theorem PySem.W.Fast.tw4183393433190812826 : True := trivial
theorem PySem.W.Fast.tw8462412084316027034 : True := trivial
theorem PySem.W.Fast.tw13922300928870950074 : True := trivial
theorem PySem.W.Fast.tw2004031905357447354 : True := trivial
theorem PySem.W.Fast.tw8643973265638084858 : True := trivial
theorem PySem.W.Fast.tw7547745496272372122 : True := trivial
theorem PySem.W.Fast.tw2293505938061372826 : True := trivial
theorem PySem.W.Fast.tw1458692480366932378 : True := trivial
theorem PySem.W.Fast.tw12286834132012334522 : True := trivial
theorem PySem.W.Fast.tw1927148967996572122 : True := trivial
theorem PySem.W.Fast.tw317650146273377786 : True := trivial
theorem PySem.W.Fast.tw13981084351279051290 : True := trivial
theorem PySem.W.Fast.tw2203973980571763258 : True := trivial
theorem PySem.W.Fast.tw9177369423618611770 : True := trivial
theorem PySem.W.Fast.tw483313679131667066 : True := trivial
theorem PySem.W.Fast.tw12053363696705210010 : True := trivial
theorem PySem.W.Fast.tw6924809722814925466 : True := trivial
theorem PySem.W.Fast.tw6272494181814317722 : True := trivial
theorem PySem.W.Fast.tw1855626020446027418 : True := trivial
theorem PySem.W.Fast.tw3097108022647871130 : True := trivial
theorem PySem.W.Fast.tw14798722364503209690 : True := trivial
theorem PySem.W.Fast.tw12422242995801594618 : True := trivial
theorem PySem.W.Fast.tw7297101228564493050 : True := trivial
theorem PySem.W.Fast.tw10521233855688625914 : True := trivial
theorem PySem.W.Fast.tw958908012503727866 : True := trivial
theorem PySem.W.Fast.tw4041411970087387930 : True := trivial
theorem PySem.W.Fast.tw6344495138585393946 : True := trivial
theorem PySem.W.Fast.tw2219968017516993402 : True := trivial
theorem PySem.W.Fast.tw5251955044922148794 : True := trivial
theorem PySem.W.Fast.tw10510131330244950010 : True := trivial
theorem PySem.W.Fast.tw9103642750337934330 : True := trivial
theorem PySem.W.Fast.tw14654469140949295131 : True := trivial
theorem PySem.W.Fast.tw6459405829537074267 : True := trivial
theorem PySem.W.Fast.tw1719518994727245947 : True := trivial
theorem PySem.W.Fast.tw1953670560752274683 : True := trivial
theorem PySem.W.Fast.tw12251374991184996699 : True := trivial
theorem PySem.W.Fast.tw9321603807492487579 : True := trivial
theorem PySem.W.Fast.tw2732301297317858747 : True := trivial
theorem PySem.W.Fast.tw6443767312323493339 : True := trivial
theorem PySem.W.Fast.tw2133139796936456763 : True := trivial
theorem PySem.W.Fast.tw14304463588136576571 : True := trivial
theorem PySem.W.Fast.tw13187637459695341179 : True := trivial
theorem PySem.W.Fast.tw18045197777109141115 : True := trivial
theorem PySem.W.Fast.tw389920945282097851 : True := trivial
theorem PySem.W.Fast.tw11506599468880487099 : True := trivial
theorem PySem.W.Fast.tw16008150178008861435 : True := trivial
theorem PySem.W.Fast.tw5495685863435576123 : True := trivial
theorem PySem.W.Fast.tw12830797024996310843 : True := trivial
theorem PySem.W.Fast.tw15656526208266465083 : True := trivial
theorem PySem.W.Fast.tw4507283984333308763 : True := trivial
theorem PySem.W.Fast.tw4314675354122240955 : True := trivial
theorem PySem.W.Fast.tw8216556656139212763 : True := trivial
theorem PySem.W.Fast.tw8776859527152196571 : True := trivial
theorem PySem.W.Fast.tw17249541372175400955 : True := trivial
theorem PySem.W.Fast.tw648796035121556540 : True := trivial
theorem PySem.W.Fast.tw10658487882675878972 : True := trivial
theorem PySem.W.Fast.tw11574936978606749820 : True := trivial
theorem PySem.W.Fast.tw3697774785591633084 : True := trivial
theorem PySem.W.Fast.tw5078188937317797084 : True := trivial
theorem PySem.W.Fast.tw5416171847852055804 : True := trivial
theorem PySem.W.Fast.tw9240154971134737660 : True := trivial
theorem PySem.W.Fast.tw3380054499718411516 : True := trivial
theorem PySem.W.Fast.tw2541163416445564188 : True := trivial
theorem PySem.W.Fast.tw3272689948946825500 : True := trivial
theorem PySem.W.Fast.tw13562236157034024220 : True := trivial
theorem PySem.W.Fast.tw14922024193640708444 : True := trivial
theorem PySem.W.Fast.tw4978214586554567164 : True := trivial
theorem PySem.W.Fast.tw256830435068546588 : True := trivial
theorem PySem.W.Fast.tw526606922985656956 : True := trivial
theorem PySem.W.Fast.tw4705032267583586972 : True := trivial
theorem PySem.W.Fast.tw13352721146624844540 : True := trivial
theorem PySem.W.Fast.tw2408486576209707772 : True := trivial
theorem PySem.W.Fast.tw15758985536056972092 : True := trivial
theorem PySem.W.Fast.tw11251406561454526364 : True := trivial
theorem PySem.W.Fast.tw1823864917371288476 : True := trivial
theorem PySem.W.Fast.tw16872945614810087388 : True := trivial
theorem PySem.W.Fast.tw13281973227996788732 : True := trivial
theorem PySem.W.Fast.tw17519576537839289340 : True := trivial
theorem PySem.W.Fast.tw12633492634425682973 : True := trivial
theorem PySem.W.Fast.tw3028771513368805533 : True := trivial
theorem PySem.W.Fast.tw13620207982554811549 : True := trivial
theorem PySem.W.Fast.tw7892178245501343901 : True := trivial
theorem PySem.W.Fast.tw6671180892403854525 : True := trivial
theorem PySem.W.Fast.tw5555249451959021789 : True := trivial
theorem PySem.W.Fast.tw16617769798034982109 : True := trivial
theorem PySem.W.Fast.tw14984108019383576861 : True := trivial
theorem PySem.W.Fast.tw16657312129341749597 : True := trivial
theorem PySem.W.Fast.tw7190985571179545981 : True := trivial
theorem PySem.W.Fast.tw17661214898799529341 : True := trivial
theorem PySem.W.Fast.tw4000303680666040765 : True := trivial
theorem PySem.W.Fast.tw11499964887880238621 : True := trivial
theorem PySem.W.Fast.tw16768950012583172637 : True := trivial
theorem PySem.W.Fast.tw13151686837321636413 : True := trivial
theorem PySem.W.Fast.tw11648031793275131453 : True := trivial
theorem PySem.W.Fast.tw1813708163701925437 : True := trivial
theorem PySem.W.Fast.tw4300583156493852285 : True := trivial
theorem PySem.W.Fast.tw6759344887477670621 : True := trivial
theorem PySem.W.Fast.tw3283547746660636445 : True := trivial
theorem PySem.W.Fast.tw16651476757434203965 : True := trivial
theorem PySem.W.Fast.tw2112565494455827261 : True := trivial
theorem PySem.W.Fast.tw4019498510871494525 : True := trivial
theorem PySem.W.Fast.tw8981980257755598749 : True := trivial
theorem PySem.W.Fast.tw12770426714768875421 : True := trivial
theorem PySem.W.Fast.tw16088074336869200797 : True := trivial
theorem PySem.W.Fast.tw16381814531271084957 : True := trivial
theorem PySem.W.Fast.tw1767820426176489405 : True := trivial
theorem PySem.W.Fast.tw9318466125292993501 : True := trivial
theorem PySem.W.Fast.tw17045901438916862973 : True := trivial
theorem PySem.W.Fast.tw7444487290763311166 : True := trivial
theorem PySem.W.Fast.tw16312662861089289310 : True := trivial
theorem PySem.W.Fast.tw18067042404759865470 : True := trivial
theorem PySem.W.Fast.tw16006918303191501950 : True := trivial
theorem PySem.W.Fast.tw10500087676782950558 : True := trivial
theorem PySem.W.Fast.tw16045568142244086974 : True := trivial
theorem PySem.W.Fast.tw6981471380527775966 : True := trivial
theorem PySem.W.Fast.tw8159506001127449822 : True := trivial
theorem PySem.W.Fast.tw15100823622517216478 : True := trivial
theorem PySem.W.Fast.tw10057020352532732126 : True := trivial
theorem PySem.W.Fast.tw14535903844940307678 : True := trivial
theorem PySem.W.Fast.tw1236153003166923998 : True := trivial
theorem PySem.W.Fast.tw1628488199147839742 : True := trivial
theorem PySem.W.Fast.tw17219918598427962622 : True := trivial
theorem PySem.W.Fast.tw9310153114985984318 : True := trivial
theorem PySem.W.Fast.tw18221680383382595934 : True := trivial
theorem PySem.W.Fast.tw547741094116817310 : True := trivial
theorem PySem.W.Fast.tw1114560982428483038 : True := trivial
theorem PySem.W.Fast.tw14346464037270310398 : True := trivial
theorem PySem.W.Fast.tw6213634103656520254 : True := trivial
theorem PySem.W.Fast.tw18393868360842394174 : True := trivial
theorem PySem.W.Fast.tw16260736439591958142 : True := trivial
theorem PySem.W.Fast.tw9343777537885979326 : True := trivial
theorem PySem.W.Fast.tw2261631002453487326 : True := trivial
theorem PySem.W.Fast.tw2084369071211521758 : True := trivial
theorem PySem.W.Fast.tw12204626820743755518 : True := trivial
theorem PySem.W.Fast.tw11463956600267056894 : True := trivial
theorem PySem.W.Fast.tw9131716986057712414 : True := trivial
theorem PySem.W.Fast.tw1255163654612857662 : True := trivial
theorem PySem.W.Fast.tw1433992713055822654 : True := trivial
theorem PySem.W.Fast.tw537781524690543454 : True := trivial
theorem PySem.W.Fast.tw6492710641373813662 : True := trivial
theorem PySem.W.Fast.tw17388029072273034142 : True := trivial
theorem PySem.W.Fast.tw1065537945777491870 : True := trivial
theorem PySem.W.Fast.tw10771223231378040798 : True := trivial
theorem PySem.W.Fast.tw10864895522604824542 : True := trivial
theorem PySem.W.Fast.tw17760204932679278590 : True := trivial
theorem PySem.W.Fast.tw1940069591482350590 : True := trivial
theorem PySem.W.Fast.tw15724084913884264446 : True := trivial
theorem PySem.W.Fast.tw8503096712373036063 : True := trivial
theorem PySem.W.Fast.tw6453474157830929439 : True := trivial
theorem PySem.W.Fast.tw7084190211982081087 : True := trivial
theorem PySem.W.Fast.tw15700511149639225407 : True := trivial
theorem PySem.W.Fast.tw4911522163849416767 : True := trivial
theorem PySem.W.Fast.tw17573959902409514047 : True := trivial
theorem PySem.W.Fast.tw2236390150916766815 : True := trivial
theorem PySem.W.Fast.tw11480870353491363967 : True := trivial
theorem PySem.W.Fast.tw16358715926341303423 : True := trivial
theorem PySem.W.Fast.tw8360898288322701439 : True := trivial
theorem PySem.W.Fast.tw13746295668171764863 : True := trivial
theorem PySem.W.Fast.tw14352511296945516703 : True := trivial
theorem PySem.W.Fast.tw11690983851108444351 : True := trivial
theorem PySem.W.Fast.tw17359777486594955455 : True := trivial
theorem PySem.W.Fast.tw11320893998182653119 : True := trivial
theorem PySem.W.Fast.tw6172561695581467839 : True := trivial
theorem PySem.W.Fast.tw11524380742256043231 : True := trivial
theorem PySem.W.Fast.tw12722877114304198879 : True := trivial
theorem PySem.W.Fast.tw14792714489539865855 : True := trivial
theorem PySem.W.Fast.tw5089272146016148735 : True := trivial
theorem PySem.W.Fast.tw958274906420078879 : True := trivial
theorem PySem.W.Fast.tw4886191391697041695 : True := trivial
theorem PySem.W.Fast.tw13803853477260490047 : True := trivial
theorem PySem.W.Fast.tw6037814650439664991 : True := trivial
theorem PySem.W.Fast.tw6148302002924502367 : True := trivial
theorem PySem.W.Fast.tw16318443993391986015 : True := trivial
theorem PySem.W.Fast.tw5979192008022367647 : True := trivial
theorem PySem.W.Fast.tw2850553158371074463 : True := trivial
theorem PySem.W.Fast.tw10636237507981825471 : True := trivial
theorem PySem.W.Fast.tw8801428248103852607 : True := trivial
theorem PySem.W.Fast.tw3676752048275567167 : True := trivial
theorem PySem.W.Fast.tw5770533999148833375 : True := trivial
theorem PySem.W.Fast.tw562544137905158751 : True := trivial
theorem PySem.W.Fast.tw12404548424202375839 : True := trivial
theorem PySem.W.Fast.tw12231833432547977887 : True := trivial
theorem PySem.W.Fast.tw4146574430745632447 : True := trivial
theorem PySem.W.Fast.tw18233824390605478591 : True := trivial
theorem PySem.W.Fast.tw6393693528152494815 : True := trivial
theorem PySem.W.Fast.tw4245669303892880191 : True := trivial
theorem PySem.W.Fast.tw18395061480874299199 : True := trivial
theorem PySem.W.Fast.tw14773193408854558559 : True := trivial
theorem PySem.W.Fast.tw12264328082812542847 : True := trivial
theorem PySem.W.Fast.tw4209701550758470559 : True := trivial
theorem PySem.W.Fast.tw14284657549441611679 : True := trivial
theorem PySem.W.Fast.tw18398045374918974367 : True := trivial
theorem PySem.W.Fast.tw8043219295126576031 : True := trivial
theorem PySem.W.Fast.tw5747477614140600255 : True := trivial
theorem PySem.W.Fast.tw5254609216731689919 : True := trivial
theorem PySem.W.Fast.tw9193051629586735039 : True := trivial
theorem PySem.W.Fast.tw17972463272883284927 : True := trivial
theorem PySem.W.Fast.tw11222152009564945375 : True := trivial
theorem PySem.W.Fast.tw8321246342006147071 : True := trivial
theorem PySem.W.Fast.tw17149152130724335245 : True := trivial
set_option maxRecDepth 100000 in
set_option maxHeartbeats 0 in
theorem PySem.Challenge.cw_onecrest_k21_whole_pieces_and_halves_holds : PySem.Challenge.rw_onecrest_k21_whole_pieces_and_halves.Holds := by
  w_on; o_law; k_head; (case hw => w_witness2)
  k_fill
  refine DL.walk_gn (l := PySem.Challenge.rw_onecrest_k21_whole_pieces_and_halves) (n := 63) (k := 13) (x := "_law_script") (sp := fun w => DL.lift _ K21.spLaw) rfl (by decide) rfl ⟨rfl, by decide, by decide⟩ (fun w h Y => PySem.W.kIn_of Y) ?F (fun _ H a ns _ hS => K21.law_gives H a ns hS)
  case F =>
    intro w mg fa h KX G hmg
    refine' K21.lw_mk KX G hmg ?aC ?aCB ?a_isint ?F_isint ?a_iscount ?F_iscount ?a_islist ?F_islist ?a_counts ?F_counts ?a_small ?F_small ?a_rising ?F_rising ?a_isnum ?F_isnum ?a_above ?F_above ?a_ratof ?F_ratof ?a_let ?F_let ?a_gath ?F_gath ?a_entry ?F_entry ?a_ck ?F_ck ?a_pi ?F_pi ?a_wh ?F_wh ?a_hv ?F_hv ?a_lo ?F_lo ?a_ti ?F_ti ?a_pot ?F_pot ?a_draw ?F_draw ?a_pick ?F_pick ?a_mix ?F_mix ?a_lt ?F_lt ?a_ac ?F_ac ?a_fo ?F_fo ?a_pd ?F_pd ?a_sz ?F_sz ?a_amt ?F_amt ?a_bld ?F_bld ?a_dw ?F_dw ?a_ls ?F_ls ?a_lp ?F_lp ?a_hr ?F_hr ?a_right ?F_right ?a_law ?F_law ?a_init ?i_init ?F_init ?a_binit ?i_binit ?F_binit ?t2 ?a_add ?i_add ?F_add ?a_radd ?i_radd ?F_radd ?a_mul ?i_mul ?F_mul ?a_rmul ?i_rmul ?F_rmul ?a_eq ?i_eq ?F_eq ?a_repr ?i_repr ?F_repr ?a_ptop ?g_ptop ?t_ptop ?c_ptop ?F_ptop ?a_pbot ?g_pbot ?t_pbot ?c_pbot ?F_pbot ?a_psign ?g_psign ?t_psign ?c_psign ?F_psign ?a_bents ?i_bents ?F_bents ?a_bam ?i_bam ?F_bam ?a_badd ?i_badd ?F_badd ?a_beq ?i_beq ?F_beq ?a_brep ?i_brep ?F_brep ?a_brs ?i_brs ?F_brs ?a_blet ?g_blet ?t_blet ?c_blet ?F_blet ?a_bdeg ?g_bdeg ?t_bdeg ?c_bdeg ?F_bdeg ?a_bno ?g_bno ?t_bno ?c_bno ?F_bno ?pg ?hd ?po ?sa ?mk ?kc ?nT ?nB ?ne ?sf ?nf ?ni ?sub_is ?sub_ob ?sub_li ?sub_tu ?ca ?cm ?pgB ?hdB ?poB ?saB ?mkB ?kcB ?nL ?nD ?nA ?neB ?sfB ?nfB ?niB ?sub_isB ?sub_obB ?caB ?cmB ?cn ?ct ?tyCB ?tyC ?s_NoneType ?s_bool ?s_str ?s_tuple ?s_list ?s_int ?s_dict ?s_listB ?s_strB ?nlB ?nsB ?s_intB ?lm ?la ?z_gcd ?z_ml ?z_md ?z_me ?z_isinstance ?z_int ?z_bool ?z_list ?z_tuple ?z_abs ?z_len ?z_max ?z_divmod ?z_str ?z_repr ?z_range ?z_all ?z_zip ?z_enumerate ?z_sorted ?z_sum ?z_min ?z_dict ?z_any ?z_set
    (case aC => k_is)
    (case aCB => k_is)
    (case a_isint => k_is)
    (case F_isint => (refine' ⟨_, L2.fun_mk ?l ?c ?k⟩; (case l => k_is); (case c => k_is); (case k => k_is)))
    (case a_iscount => k_is)
    (case F_iscount => (refine' ⟨_, L2.fun_mk ?l ?c ?k⟩; (case l => k_is); (case c => k_is); (case k => k_is)))
    (case a_islist => k_is)
    (case F_islist => (refine' ⟨_, L2.fun_mk ?l ?c ?k⟩; (case l => k_is); (case c => k_is); (case k => k_is)))
    (case a_counts => k_is)
    (case F_counts => (refine' ⟨_, L2.fun_mk ?l ?c ?k⟩; (case l => k_is); (case c => k_is); (case k => k_is)))
    (case a_small => k_is)
    (case F_small => (refine' ⟨_, L2.fun_mk ?l ?c ?k⟩; (case l => k_is); (case c => k_is); (case k => k_is)))
    (case a_rising => k_is)
    (case F_rising => (refine' ⟨_, L2.fun_mk ?l ?c ?k⟩; (case l => k_is); (case c => k_is); (case k => k_is)))
    (case a_isnum => k_is)
    (case F_isnum => (refine' ⟨_, L2.fun_mk ?l ?c ?k⟩; (case l => k_is); (case c => k_is); (case k => k_is)))
    (case a_above => k_is)
    (case F_above => (refine' ⟨_, L2.fun_mk ?l ?c ?k⟩; (case l => k_is); (case c => k_is); (case k => k_is)))
    (case a_ratof => k_is)
    (case F_ratof => (refine' ⟨_, L2.fun_mk ?l ?c ?k⟩; (case l => k_is); (case c => k_is); (case k => k_is)))
    (case a_let => k_is)
    (case F_let => (refine' ⟨_, L2.fun_mk ?l ?c ?k⟩; (case l => k_is); (case c => k_is); (case k => k_is)))
    (case a_gath => k_is)
    (case F_gath => (refine' ⟨_, L2.fun_mk ?l ?c ?k⟩; (case l => k_is); (case c => k_is); (case k => k_is)))
    (case a_entry => k_is)
    (case F_entry => (refine' ⟨_, L2.fun_mk ?l ?c ?k⟩; (case l => k_is); (case c => k_is); (case k => k_is)))
    (case a_ck => k_is)
    (case F_ck => (refine' ⟨_, L2.fun_mk ?l ?c ?k⟩; (case l => k_is); (case c => k_is); (case k => k_is)))
    (case a_pi => k_is)
    (case F_pi => (refine' ⟨_, L2.fun_mk ?l ?c ?k⟩; (case l => k_is); (case c => k_is); (case k => k_is)))
    (case a_wh => k_is)
    (case F_wh => (refine' ⟨_, L2.fun_mk ?l ?c ?k⟩; (case l => k_is); (case c => k_is); (case k => k_is)))
    (case a_hv => k_is)
    (case F_hv => (refine' ⟨_, L2.fun_mk ?l ?c ?k⟩; (case l => k_is); (case c => k_is); (case k => k_is)))
    (case a_lo => k_is)
    (case F_lo => (refine' ⟨_, L2.fun_mk ?l ?c ?k⟩; (case l => k_is); (case c => k_is); (case k => k_is)))
    (case a_ti => k_is)
    (case F_ti => (refine' ⟨_, L2.fun_mk ?l ?c ?k⟩; (case l => k_is); (case c => k_is); (case k => k_is)))
    (case a_pot => k_is)
    (case F_pot => (refine' ⟨_, L2.fun_mk ?l ?c ?k⟩; (case l => k_is); (case c => k_is); (case k => k_is)))
    (case a_draw => k_is)
    (case F_draw => (refine' ⟨_, L2.fun_mk ?l ?c ?k⟩; (case l => k_is); (case c => k_is); (case k => k_is)))
    (case a_pick => k_is)
    (case F_pick => (refine' ⟨_, L2.fun_mk ?l ?c ?k⟩; (case l => k_is); (case c => k_is); (case k => k_is)))
    (case a_mix => k_is)
    (case F_mix => (refine' ⟨_, L2.fun_mk ?l ?c ?k⟩; (case l => k_is); (case c => k_is); (case k => k_is)))
    (case a_lt => k_is)
    (case F_lt => (refine' ⟨_, L2.fun_mk ?l ?c ?k⟩; (case l => k_is); (case c => k_is); (case k => k_is)))
    (case a_ac => k_is)
    (case F_ac => (refine' ⟨_, L2.fun_mk ?l ?c ?k⟩; (case l => k_is); (case c => k_is); (case k => k_is)))
    (case a_fo => k_is)
    (case F_fo => (refine' ⟨_, L2.fun_mk ?l ?c ?k⟩; (case l => k_is); (case c => k_is); (case k => k_is)))
    (case a_pd => k_is)
    (case F_pd => (refine' ⟨_, L2.fun_mk ?l ?c ?k⟩; (case l => k_is); (case c => k_is); (case k => k_is)))
    (case a_sz => k_is)
    (case F_sz => (refine' ⟨_, L2.fun_mk ?l ?c ?k⟩; (case l => k_is); (case c => k_is); (case k => k_is)))
    (case a_amt => k_is)
    (case F_amt => (refine' ⟨_, L2.fun_mk ?l ?c ?k⟩; (case l => k_is); (case c => k_is); (case k => k_is)))
    (case a_bld => k_is)
    (case F_bld => (refine' ⟨_, L2.fun_mk ?l ?c ?k⟩; (case l => k_is); (case c => k_is); (case k => k_is)))
    (case a_dw => k_is)
    (case F_dw => (refine' ⟨_, L2.fun_mk ?l ?c ?k⟩; (case l => k_is); (case c => k_is); (case k => k_is)))
    (case a_ls => k_is)
    (case F_ls => (refine' ⟨_, L2.fun_mk ?l ?c ?k⟩; (case l => k_is); (case c => k_is); (case k => k_is)))
    (case a_lp => k_is)
    (case F_lp => (refine' ⟨_, L2.fun_mk ?l ?c ?k⟩; (case l => k_is); (case c => k_is); (case k => k_is)))
    (case a_hr => k_is)
    (case F_hr => (refine' ⟨_, L2.fun_mk ?l ?c ?k⟩; (case l => k_is); (case c => k_is); (case k => k_is)))
    (case a_right => k_is)
    (case F_right => (refine' ⟨_, L2.fun_mk ?l ?c ?k⟩; (case l => k_is); (case c => k_is); (case k => k_is)))
    (case a_law => k_is)
    (case F_law => (refine' ⟨_, L2.fun_mk ?l ?c ?k⟩; (case l => k_is); (case c => k_is); (case k => k_is)))
    (case a_init => k_is)
    (case i_init => k_is)
    (case F_init => (refine' ⟨_, K21.fund1 ?l ?c ?k ?t⟩; (case l => k_is); (case c => k_is); (case k => k_is); (case t => k_is)))
    (case a_binit => k_is)
    (case i_binit => k_is)
    (case F_binit => (refine' ⟨_, K21.fundT ?l ?c ?k ?t⟩; (case l => k_is); (case c => k_is); (case k => k_is); (case t => k_is)))
    (case t2 => k_is)
    (case a_add => k_is)
    (case i_add => k_is)
    (case F_add => (refine' ⟨_, L2.fun_mk ?l ?c ?k⟩; (case l => k_is); (case c => k_is); (case k => k_is)))
    (case a_radd => k_is)
    (case i_radd => k_is)
    (case F_radd => (refine' ⟨_, L2.fun_mk ?l ?c ?k⟩; (case l => k_is); (case c => k_is); (case k => k_is)))
    (case a_mul => k_is)
    (case i_mul => k_is)
    (case F_mul => (refine' ⟨_, L2.fun_mk ?l ?c ?k⟩; (case l => k_is); (case c => k_is); (case k => k_is)))
    (case a_rmul => k_is)
    (case i_rmul => k_is)
    (case F_rmul => (refine' ⟨_, L2.fun_mk ?l ?c ?k⟩; (case l => k_is); (case c => k_is); (case k => k_is)))
    (case a_eq => k_is)
    (case i_eq => k_is)
    (case F_eq => (refine' ⟨_, L2.fun_mk ?l ?c ?k⟩; (case l => k_is); (case c => k_is); (case k => k_is)))
    (case a_repr => k_is)
    (case i_repr => k_is)
    (case F_repr => (refine' ⟨_, L2.fun_mk ?l ?c ?k⟩; (case l => k_is); (case c => k_is); (case k => k_is)))
    (case a_ptop => k_is)
    (case g_ptop => k_is)
    (case t_ptop => k_is)
    (case c_ptop => k_is)
    (case F_ptop => (refine' ⟨_, L2.fun_mk ?l ?c ?k⟩; (case l => k_is); (case c => k_is); (case k => k_is)))
    (case a_pbot => k_is)
    (case g_pbot => k_is)
    (case t_pbot => k_is)
    (case c_pbot => k_is)
    (case F_pbot => (refine' ⟨_, L2.fun_mk ?l ?c ?k⟩; (case l => k_is); (case c => k_is); (case k => k_is)))
    (case a_psign => k_is)
    (case g_psign => k_is)
    (case t_psign => k_is)
    (case c_psign => k_is)
    (case F_psign => (refine' ⟨_, L2.fun_mk ?l ?c ?k⟩; (case l => k_is); (case c => k_is); (case k => k_is)))
    (case a_bents => k_is)
    (case i_bents => k_is)
    (case F_bents => (refine' ⟨_, L2.fun_mk ?l ?c ?k⟩; (case l => k_is); (case c => k_is); (case k => k_is)))
    (case a_bam => k_is)
    (case i_bam => k_is)
    (case F_bam => (refine' ⟨_, L2.fun_mk ?l ?c ?k⟩; (case l => k_is); (case c => k_is); (case k => k_is)))
    (case a_badd => k_is)
    (case i_badd => k_is)
    (case F_badd => (refine' ⟨_, L2.fun_mk ?l ?c ?k⟩; (case l => k_is); (case c => k_is); (case k => k_is)))
    (case a_beq => k_is)
    (case i_beq => k_is)
    (case F_beq => (refine' ⟨_, L2.fun_mk ?l ?c ?k⟩; (case l => k_is); (case c => k_is); (case k => k_is)))
    (case a_brep => k_is)
    (case i_brep => k_is)
    (case F_brep => (refine' ⟨_, L2.fun_mk ?l ?c ?k⟩; (case l => k_is); (case c => k_is); (case k => k_is)))
    (case a_brs => k_is)
    (case i_brs => k_is)
    (case F_brs => (refine' ⟨_, L2.fun_mk ?l ?c ?k⟩; (case l => k_is); (case c => k_is); (case k => k_is)))
    (case a_blet => k_is)
    (case g_blet => k_is)
    (case t_blet => k_is)
    (case c_blet => k_is)
    (case F_blet => (refine' ⟨_, L2.fun_mk ?l ?c ?k⟩; (case l => k_is); (case c => k_is); (case k => k_is)))
    (case a_bdeg => k_is)
    (case g_bdeg => k_is)
    (case t_bdeg => k_is)
    (case c_bdeg => k_is)
    (case F_bdeg => (refine' ⟨_, L2.fun_mk ?l ?c ?k⟩; (case l => k_is); (case c => k_is); (case k => k_is)))
    (case a_bno => k_is)
    (case g_bno => k_is)
    (case t_bno => k_is)
    (case c_bno => k_is)
    (case F_bno => (refine' ⟨_, L2.fun_mk ?l ?c ?k⟩; (case l => k_is); (case c => k_is); (case k => k_is)))
    (case pg => k_is)
    (case hd => k_is)
    (case po => k_is)
    (case sa => k_is)
    (case mk => k_is)
    (case kc => k_is)
    (case nT => k_is)
    (case nB => k_is)
    (case ne => k_is)
    (case sf => k_is)
    (case nf => k_is)
    (case ni => k_is)
    (case sub_is => k_is)
    (case sub_ob => k_is)
    (case sub_li => k_is)
    (case sub_tu => k_is)
    (case ca => k_is)
    (case cm => k_is)
    (case pgB => k_is)
    (case hdB => k_is)
    (case poB => k_is)
    (case saB => k_is)
    (case mkB => k_is)
    (case kcB => k_is)
    (case nL => k_is)
    (case nD => k_is)
    (case nA => k_is)
    (case neB => k_is)
    (case sfB => k_is)
    (case nfB => k_is)
    (case niB => k_is)
    (case sub_isB => k_is)
    (case sub_obB => k_is)
    (case caB => k_is)
    (case cmB => k_is)
    (case cn => k_is)
    (case ct => k_is)
    (case tyCB => k_is)
    (case tyC => k_is)
    (case s_NoneType => k_is)
    (case s_bool => k_is)
    (case s_str => k_is)
    (case s_tuple => k_is)
    (case s_list => k_is)
    (case s_int => k_is)
    (case s_dict => k_is)
    (case s_listB => k_is)
    (case s_strB => k_is)
    (case nlB => k_is)
    (case nsB => k_is)
    (case s_intB => k_is)
    (case lm => k_is)
    (case la => k_is)
    (case z_gcd => k_is)
    (case z_ml => k_is)
    (case z_md => k_is)
    (case z_me => k_is)
    (case z_isinstance => k_is)
    (case z_int => k_is)
    (case z_bool => k_is)
    (case z_list => k_is)
    (case z_tuple => k_is)
    (case z_abs => k_is)
    (case z_len => k_is)
    (case z_max => k_is)
    (case z_divmod => k_is)
    (case z_str => k_is)
    (case z_repr => k_is)
    (case z_range => k_is)
    (case z_all => k_is)
    (case z_zip => k_is)
    (case z_enumerate => k_is)
    (case z_sorted => k_is)
    (case z_sum => k_is)
    (case z_min => k_is)
    (case z_dict => k_is)
    (case z_any => k_is)
    (case z_set => k_is)

