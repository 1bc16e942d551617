import PyProof.Rows.All
import Wide.All
import OpenK.AllK
import Wide.FinOn
import HandS.ForMost
import HandS.Property
import HandS.Defaults
import HandS.IsInst
import HandS.Wide
import HandS.WideBits
import HandS.ClsMeth
import HandS.MakeKw
import HandS.MakeKwOnly
import HandS.FStr
import HandS.RaiseMore
import HandS.Gcd
import KE.KFmtOwn
import PyProof.ReprNest
import PyProof.ReprRoads
import HandS.Zip
import HandS.List
import PyProof.StrOps2
import HandS.Dict
import HandS.Walk
import HandS.Conv
import HandS.TupLen
import HandS.TupSets
import HandS.DictComp
import KE.KDictPairs
import HandS.DictTup
import HandS.OwnEq
import HandS.DictEq
import KE.GoesZip
import HandS.Text
import HandS.Codes
import HandS.StrMore
import KE.KMathGC
import KE.GoesEnum
import PyProof.CollectStr
import PyProof.ListStr
import HandS.More
import HandS.TupAny
import KE.SortKeyHeap
import HandS.SortKw
import PyProof.TupleOfSeq
import HandS.Deep
import KE.GoesMore
import HandS.Ends
import KE.IntBitsLaws
import PySem.Challenge.RW_onecrest_k61_whole_lots_judged
set_option Elab.async false
set_option linter.all false
set_option maxRecDepth 100000
set_option maxHeartbeats 2000000
/-! DL: a layer of data over the heap: what an expression, a statement, a def does, told of data alone (immutable data, lists owned by one name, pots) -/
namespace DL
open PySem L2

/-! ### data -/
inductive D where
  | non | bl (b : Bool) | int (i : Int) | str (s : Str) | ty (n : String) | cls (a : Addr)
  | tup (l : List D) | lst (l : List D) | frl (l : List Int)
  | obj (C : Addr) (fs : List (Str × D))
  | dct
  | dcT (kvs : List (List Key × D)) | dcK (kvs : List (Key × D))

mutual
/-- v is the datum d, in the heap I of what never changes -/
inductive Dn (K : PySem.W.Frag) (I : Hp) : D → V → Prop
  | non : Dn K I .non .non
  | bl (b) : Dn K I (.bl b) (.bl b)
  | int (i) : Dn K I (.int i) (.int i)
  | str (s) : Dn K I (.str s) (.str s)
  | ty (n) : Dn K I (.ty n) (.ty n)
  | cls (a) : Dn K I (.cls a) (.ref a)
  | tup {l a xs} : I a = some (.tup xs) → Dns K I l xs → Dn K I (.tup l) (.ref a)
  | lst {l a xs} : I a = some (.lst xs) → Dns K I l xs → Dn K I (.lst l) (.ref a)
  | frl {l : List Int} {a} : SqL K I a (l.map V.int) → Dn K I (.frl l) (.ref a)
  | obj {C fs a dx vs} : I a = some (.ins C dx vs) → Dnf K I fs vs → Dn K I (.obj C fs) (.ref a)
  | dct {a kvs} : I a = some (.dK kvs) → Dn K I .dct (.ref a)
  | dcT {kvs a o ws} : I a = some (.frz o (.dT ws)) → Dnt K I kvs ws → Dn K I (.dcT kvs) (.ref a)
  | dcK {kvs a ws} : I a = some (.dK ws) → Dnk K I kvs ws → Dn K I (.dcK kvs) (.ref a)
inductive Dns (K : PySem.W.Frag) (I : Hp) : List D → List V → Prop
  | nil : Dns K I [] []
  | cons {d v l xs} : Dn K I d v → Dns K I l xs → Dns K I (d :: l) (v :: xs)
inductive Dnf (K : PySem.W.Frag) (I : Hp) : List (Str × D) → List (Str × V) → Prop
  | nil : Dnf K I [] []
  | cons {f d v l xs} : Dn K I d v → Dnf K I l xs → Dnf K I ((f, d) :: l) ((f, v) :: xs)
inductive Dnt (K : PySem.W.Frag) (I : Hp) : List (List Key × D) → List (List Key × V) → Prop
  | nil : Dnt K I [] []
  | cons {f d v l xs} : Dn K I d v → Dnt K I l xs → Dnt K I ((f, d) :: l) ((f, v) :: xs)
inductive Dnk (K : PySem.W.Frag) (I : Hp) : List (Key × D) → List (Key × V) → Prop
  | nil : Dnk K I [] []
  | cons {f d v l xs} : Dn K I d v → Dnk K I l xs → Dnk K I ((f, d) :: l) ((f, v) :: xs)
end
def Ex (H H' : Hp) : Prop := ∀ a o, H a = some o → H' a = some o
theorem Ex.refl (H : Hp) : Ex H H := fun _ _ h => h
theorem Ex.trans {H H1 H2 : Hp} (a : Ex H H1) (b : Ex H1 H2) : Ex H H2 := fun x o h => b x o (a x o h)
theorem Ex.new {H : Hp} {p : Addr} {o : HO} (h : H p = none) : Ex H (upd H p o) := fun a u e => by
  rw [upd_ne (ne_of_none e h)]
  exact e
theorem Ex.free {H H' : Hp} (e : Ex H H') {p : Addr} (h : H' p = none) : H p = none := by
  cases h1 : H p with
  | none => rfl
  | some o =>
    rw [e p o h1] at h
    cases h
theorem Ex.l {K : PySem.W.Frag} {H H' : Hp} {a : Addr} {xs : List V} (e : Ex H H') (h : SqL K H a xs) : SqL K H' a xs := by
  rcases h with (h | ⟨o, h⟩) | h
  · exact .inl (.inl (e _ _ h))
  · exact .inl (.inr ⟨o, e _ _ h⟩)
  · exact .inr h
section
variable {K : PySem.W.Frag} {I I' : Hp}
mutual
theorem Dn.mono (e : Ex I I') : ∀ {d : D} {v : V}, Dn K I d v → Dn K I' d v
  | _, _, .non => .non
  | _, _, .bl b => .bl b
  | _, _, .int i => .int i
  | _, _, .str s => .str s
  | _, _, .ty n => .ty n
  | _, _, .cls a => .cls a
  | _, _, .tup h r => .tup (e _ _ h) (Dns.mono e r)
  | _, _, .lst h r => .lst (e _ _ h) (Dns.mono e r)
  | _, _, .frl h => .frl (e.l h)
  | _, _, .obj h r => .obj (e _ _ h) (Dnf.mono e r)
  | _, _, .dct h => .dct (e _ _ h)
  | _, _, .dcT h r => .dcT (e _ _ h) (Dnt.mono e r)
  | _, _, .dcK h r => .dcK (e _ _ h) (Dnk.mono e r)
theorem Dns.mono (e : Ex I I') : ∀ {l : List D} {xs : List V}, Dns K I l xs → Dns K I' l xs
  | _, _, .nil => .nil
  | _, _, .cons h r => .cons (Dn.mono e h) (Dns.mono e r)
theorem Dnf.mono (e : Ex I I') : ∀ {l : List (Str × D)} {xs : List (Str × V)}, Dnf K I l xs → Dnf K I' l xs
  | _, _, .nil => .nil
  | _, _, .cons h r => .cons (Dn.mono e h) (Dnf.mono e r)
theorem Dnt.mono (e : Ex I I') : ∀ {l : List (List Key × D)} {xs : List (List Key × V)}, Dnt K I l xs → Dnt K I' l xs
  | _, _, .nil => .nil
  | _, _, .cons h r => .cons (Dn.mono e h) (Dnt.mono e r)
theorem Dnk.mono (e : Ex I I') : ∀ {l : List (Key × D)} {xs : List (Key × V)}, Dnk K I l xs → Dnk K I' l xs
  | _, _, .nil => .nil
  | _, _, .cons h r => .cons (Dn.mono e h) (Dnk.mono e r)
end
theorem Dns.length : ∀ {l : List D} {xs : List V}, Dns K I l xs → l.length = xs.length
  | _, _, .nil => rfl
  | _, _, .cons _ r => congrArg (· + 1) (Dns.length r)
theorem Dns.append : ∀ {l m : List D} {xs ys : List V}, Dns K I l xs → Dns K I m ys → Dns K I (l ++ m) (xs ++ ys)
  | _, _, _, _, .nil, s => s
  | _, _, _, _, .cons h r, s => .cons h (Dns.append r s)
theorem Dns.get : ∀ {l : List D} {xs : List V} {i : Nat} {v : V}, Dns K I l xs → xs[i]? = some v → ∃ d, l[i]? = some d ∧ Dn K I d v
  | _, _, _, _, .nil, e => by simp at e
  | _, _, 0, _, .cons h _, e => by
    simp at e
    subst e
    exact ⟨_, rfl, h⟩
  | _, _, i + 1, _, .cons _ r, e => by
    obtain ⟨d, h1, h2⟩ := Dns.get (i := i) r (by simpa using e)
    exact ⟨d, by simpa using h1, h2⟩
theorem Dns.get' : ∀ {l : List D} {xs : List V} {i : Nat} {d : D}, Dns K I l xs → l[i]? = some d → ∃ v, xs[i]? = some v ∧ Dn K I d v
  | _, _, _, _, .nil, e => by simp at e
  | _, _, 0, _, .cons h _, e => by
    simp at e
    subst e
    exact ⟨_, rfl, h⟩
  | _, _, i + 1, _, .cons _ r, e => by
    obtain ⟨d, h1, h2⟩ := Dns.get' (i := i) r (by simpa using e)
    exact ⟨d, by simpa using h1, h2⟩
end

/-! ### worlds -/
/-- what never changes; which addresses are pots -/
structure Wd where
  I : Hp
  P : Addr → Prop
def PotAt (H : Hp) (a : Addr) : Prop := ∃ x y : Int, H a = some (.lst [.int x, .int y]) ∧ 0 ≤ y ∧ y < 2 ^ 31
def InG (g : List Code) (b : Addr) : Prop := ∃ id rest kw, Code.builtin id ⟨.ref b :: rest, kw⟩ ∈ g
theorem clear_of {g : List Code} {b : Addr} (h : ¬ InG g b) : Clear g b := fun id v rest kw hm e => h ⟨id, rest, kw, e ▸ hm⟩
/-- the guards that stand around: what is being written as a text -/
def gOf (X : Cx) : List Code := X.A.guards.getD []
structure Ok (g : List Code) (W : Wd) (H : Hp) : Prop where
  gd : ∀ b, InG g b → W.I b = none ∧ H b ≠ none ∧ ∀ ks : List Key, H b ≠ some (.tup (ks.map kV))
  ex : Ex W.I H
  pot : ∀ a, W.P a → W.I a = none ∧ PotAt H a
structure Stp (W : Wd) (H : Hp) (W' : Wd) (H' : Hp) : Prop where
  I : Ex W.I W'.I
  P : ∀ a, W.P a → W'.P a
  keep : ∀ b o, H b = some o → ¬ W.P b → H' b = some o
  old : ∀ b o, H b = some o → (∀ xs, o ≠ .tup xs) → W.I b = none → W'.I b = none
  oldP : ∀ b o, H b = some o → W'.P b → W.P b
section
variable {g : List Code} {W W1 W2 : Wd} {H H1 H2 : Hp}
theorem Stp.refl : Stp W H W H := ⟨Ex.refl _, fun _ h => h, fun _ _ h _ => h, fun _ _ _ _ h => h, fun _ _ _ h => h⟩
theorem Stp.some (a : Stp W H W1 H1) (ok : Ok g W1 H1) {b : Addr} {o : HO} (h : H b = .some o) : ∃ o', H1 b = .some o' := by
  by_cases q : W.P b
  · obtain ⟨x, y, e, _⟩ := (ok.pot b (a.P b q)).2
    exact ⟨_, e⟩
  · exact ⟨o, a.keep b o h q⟩
theorem Stp.trans (a : Stp W H W1 H1) (ok : Ok g W1 H1) (b : Stp W1 H1 W2 H2) : Stp W H W2 H2 where
  I := a.I.trans b.I
  P := fun x h => b.P x (a.P x h)
  keep := fun x o h n => b.keep x o (a.keep x o h n) fun z => n (a.oldP x o h z)
  old := fun x o h t n => by
    by_cases q : W.P x
    · obtain ⟨y1, y2, e, _⟩ := (ok.pot x (a.P x q)).2
      exact b.old x _ e (fun _ z => by cases z) (a.old x o h t n)
    · exact b.old x o (a.keep x o h q) t (a.old x o h t n)
  oldP := fun x o h p => by
    obtain ⟨o', h'⟩ := a.some ok h
    exact a.oldP x o h (b.oldP x o' h' p)
theorem Stp.free (a : Stp W H W1 H1) (ok : Ok g W1 H1) {p : Addr} (h : H1 p = none) : H p = none := by
  cases e : H p with
  | none => rfl
  | some o =>
    obtain ⟨o', e'⟩ := a.some ok e
    rw [h] at e'
    cases e'
theorem Ok.free (ok : Ok g W H) {p : Addr} (h : H p = none) : W.I p = none := ok.ex.free h
theorem Ok.notP (ok : Ok g W H) {p : Addr} (h : H p = none) : ¬ W.P p := fun z => by
  obtain ⟨x, y, e, _⟩ := (ok.pot p z).2
  rw [h] at e
  cases e
/-- something new that never changes -/
abbrev Wd.new (W : Wd) (p : Addr) (o : HO) : Wd := ⟨upd W.I p o, W.P⟩
theorem Ok.new {p : Addr} {o : HO} (ok : Ok g W H) (h : H p = none) : Ok g (W.new p o) (upd H p o) where
  gd := fun b hb => by
    obtain ⟨n, m, m2⟩ := ok.gd b hb
    have ne : b ≠ p := fun z => m (z ▸ h)
    refine ⟨?_, by rw [upd_ne ne]; exact m, by rw [upd_ne ne]; exact m2⟩
    show upd W.I p o b = none
    rw [upd_ne ne]
    exact n
  ex := fun a u e => by
    have e' : upd W.I p o a = some u := e
    by_cases q : a = p
    · subst q
      rw [upd_same] at e' ⊢
      exact e'
    · rw [upd_ne q] at e' ⊢
      exact ok.ex a u e'
  pot := fun a pa => by
    have q : a ≠ p := fun z => ok.notP h (z ▸ pa)
    obtain ⟨n, x, y, e⟩ := ok.pot a pa
    refine ⟨?_, x, y, ?_⟩
    · show upd W.I p o a = none
      rw [upd_ne q]
      exact n
    · rw [upd_ne q]
      exact e
theorem Stp.new {p : Addr} {o : HO} (ok : Ok g W H) (h : H p = none) : Stp W H (W.new p o) (upd H p o) where
  I := Ex.new (ok.free h)
  P := fun _ z => z
  keep := fun b u e _ => Ex.new h b u e
  old := fun b u e _ n => by
    show upd W.I p o b = none
    rw [upd_ne (ne_of_none e h)]
    exact n
  oldP := fun _ _ _ z => z
/-- a new object that is not (yet) part of what never changes -/
theorem Ok.own {p : Addr} {o : HO} (ok : Ok g W H) (h : H p = none) : Ok g W (upd H p o) where
  gd := fun b hb => by
    obtain ⟨n, m, m2⟩ := ok.gd b hb
    have ne : b ≠ p := fun z => m (z ▸ h)
    exact ⟨n, by rw [upd_ne ne]; exact m, by rw [upd_ne ne]; exact m2⟩
  ex := ok.ex.trans (Ex.new h)
  pot := fun a pa => by
    obtain ⟨n, x, y, e⟩ := ok.pot a pa
    exact ⟨n, x, y, Ex.new h _ _ e.1, e.2⟩
theorem Stp.own {p : Addr} {o : HO} (h : H p = none) : Stp W H W (upd H p o) :=
  ⟨Ex.refl _, fun _ z => z, fun b u e _ => Ex.new h b u e, fun _ _ _ _ n => n, fun _ _ _ z => z⟩
end

/-! ### slots -/
inductive Sl where
  | val (d : D) | own (l : List D) | pot | inst (C p dx : Addr) (fs : List (Str × D))
  | ownT (kvs : List (List Key × D))
abbrev En := List (Option Sl)
/-- dicts owned by unlike names are unlike -/
def DistT (S : En) (σ : L2.St) : Prop := ∀ (i j : Nat) (l m : List (List Key × D)) (p : Addr), i ≠ j → S[i]? = some (some (Sl.ownT l)) → S[j]? = some (some (Sl.ownT m)) → σ[i]? = some (some (.ref p)) → σ[j]? ≠ some (some (.ref p))
theorem DistT.set {S : En} {σ : L2.St} (h : DistT S σ) (i : Nat) {x : Option Sl} {y : Option V} (hx : ∀ l, x ≠ some (Sl.ownT l)) : DistT (S.set i x) (σ.set i y) := fun a b l m p ne e1 e2 e3 => by
  have key : ∀ c l, (S.set i x)[c]? = some (some (Sl.ownT l)) → i ≠ c := fun c l e z => by
    subst z
    by_cases q : i < S.length
    · rw [List.getElem?_set_self q] at e
      exact hx l (Option.some.inj e)
    · rw [List.getElem?_eq_none (by simpa using q)] at e
      cases e
  have qa := key a l e1
  have qb := key b m e2
  rw [List.getElem?_set_ne qa] at e1 e3
  rw [List.getElem?_set_ne qb] at e2 ⊢
  exact h a b l m p ne e1 e2 e3
theorem DistT.setS {S : En} {σ : L2.St} (h : DistT S σ) (i : Nat) {x : Option Sl} (hx : ∀ l, x = some (Sl.ownT l) → ∃ m, S[i]? = some (some (Sl.ownT m))) : DistT (S.set i x) σ := fun a b l m p ne e1 e2 e3 => by
  have key : ∀ c l, (S.set i x)[c]? = some (some (Sl.ownT l)) → ∃ m, S[c]? = some (some (Sl.ownT m)) := fun c l e => by
    by_cases z : i = c
    · subst z
      by_cases q : i < S.length
      · rw [List.getElem?_set_self q] at e
        exact hx l (Option.some.inj e)
      · rw [List.getElem?_eq_none (by simpa using q)] at e
        cases e
    · rw [List.getElem?_set_ne z] at e
      exact ⟨l, e⟩
  obtain ⟨l', f1⟩ := key a l e1
  obtain ⟨m', f2⟩ := key b m e2
  exact h a b l' m' p ne f1 f2 e3
section
variable (K : PySem.W.Frag)
def SlOk (B : Hp) (W : Wd) (H : Hp) : Sl → V → Prop
  | .val d, v => Dn K W.I d v
  | .own l, v => ∃ p xs, v = .ref p ∧ B p = none ∧ ¬ W.P p ∧ W.I p = none ∧ H p = some (.lst xs) ∧ Dns K W.I l xs
  | .pot, v => ∃ p, v = .ref p ∧ W.P p
  | .ownT kvs, v => ∃ p ws, v = .ref p ∧ B p = none ∧ ¬ W.P p ∧ W.I p = none ∧ H p = some (.dT ws) ∧ Dnt K W.I kvs ws
  | .inst C p dx fs, v => ∃ vs, v = .ref p ∧ B p = none ∧ B dx = none ∧ dx ≠ p ∧ ¬ W.P p ∧ ¬ W.P dx ∧ W.I p = none ∧ W.I dx = none ∧ H p = some (.ins C dx vs) ∧ H dx = some (.own p) ∧ Dnf K W.I fs vs
structure Rep (g : List Code) (B : Hp) (S : En) (σ : L2.St) (W : Wd) (H : Hp) : Prop where
  ok : Ok g W H
  gb : ∀ b, InG g b → B b ≠ none
  len : S.length = σ.length
  sl : ∀ (i : Nat) (s : Sl), S[i]? = some (some s) → ∃ v, σ[i]? = some (some v) ∧ SlOk K B W H s v
  dist : ∀ (i j : Nat) (l m : List D) (p : Addr), i ≠ j → S[i]? = some (some (.own l)) → S[j]? = some (some (.own m)) → σ[i]? = some (some (.ref p)) → σ[j]? ≠ some (some (.ref p))
  distT : DistT S σ
end
section
variable {K : PySem.W.Frag} {g : List Code} {B : Hp} {S : En} {σ : L2.St} {W W1 : Wd} {H H1 : Hp}
theorem SlOk.step {s : Sl} {v : V} (h : SlOk K B W H s v) (a : Stp W H W1 H1) : SlOk K B W1 H1 s v := by
  cases s with
  | val d => exact Dn.mono a.I h
  | own l =>
    obtain ⟨p, xs, e, b, n, i, hp, r⟩ := h
    exact ⟨p, xs, e, b, fun z => n (a.oldP p _ hp z), a.old p _ hp (fun _ z => by cases z) i, a.keep p _ hp n, r.mono a.I⟩
  | ownT l =>
    obtain ⟨p, xs, e, b, n, i, hp, r⟩ := h
    exact ⟨p, xs, e, b, fun z => n (a.oldP p _ hp z), a.old p _ hp (fun _ z => by cases z) i, a.keep p _ hp n, r.mono a.I⟩
  | pot =>
    obtain ⟨p, e, z⟩ := h
    exact ⟨p, e, a.P p z⟩
  | inst C p dx fs =>
    obtain ⟨vs, e, b, b2, ne, n, n2, i, i2, hp, hd, r⟩ := h
    exact ⟨vs, e, b, b2, ne, fun z => n (a.oldP p _ hp z), fun z => n2 (a.oldP dx _ hd z), a.old p _ hp (fun _ z => by cases z) i, a.old dx _ hd (fun _ z => by cases z) i2, a.keep p _ hp n, a.keep dx _ hd n2, r.mono a.I⟩
theorem Rep.step (r : Rep K g B S σ W H) (a : Stp W H W1 H1) (ok : Ok g W1 H1) : Rep K g B S σ W1 H1 :=
  ⟨ok, r.gb, r.len, fun i s e => let ⟨v, h1, h2⟩ := r.sl i s e; ⟨v, h1, h2.step a⟩, r.dist, r.distT⟩
theorem Rep.set {i : Nat} {d : D} {v : V} (r : Rep K g B S σ W H) (h : Dn K W.I d v) : Rep K g B (S.set i (some (.val d))) (σ.set i (some v)) W H where
  ok := r.ok
  gb := r.gb
  len := by simpa using r.len
  sl := fun j s e => by
    by_cases q : i = j
    · subst q
      by_cases z : i < S.length
      · rw [List.getElem?_set_self z] at e
        cases e
        exact ⟨v, List.getElem?_set_self (r.len ▸ z), h⟩
      · rw [List.getElem?_eq_none (by simpa using z)] at e
        cases e
    · rw [List.getElem?_set_ne q] at e ⊢
      exact r.sl j s e
  dist := fun a b l m p n e1 e2 e3 => by
    have qa : i ≠ a := fun z => by
      subst z
      by_cases y : i < S.length
      · rw [List.getElem?_set_self y] at e1; cases e1
      · rw [List.getElem?_eq_none (by simpa using y)] at e1; cases e1
    have qb : i ≠ b := fun z => by
      subst z
      by_cases y : i < S.length
      · rw [List.getElem?_set_self y] at e2; cases e2
      · rw [List.getElem?_eq_none (by simpa using y)] at e2; cases e2
    rw [List.getElem?_set_ne qa] at e1 e3
    rw [List.getElem?_set_ne qb] at e2 ⊢
    exact r.dist a b l m p n e1 e2 e3
  distT := r.distT.set i fun l z => by cases z
end

/-! ### the weakest readings -/
section
variable (X : Cx)
def WE (e : Expr) : TE := fun σ H Q => ∀ pins s, Inv X pins σ H s → wpAny (model X.prog X.w) X.A (eval e X.env) (EP X pins σ Q) X.xe s
def WT (e : Expr) : TT := fun σ H Q => ∀ pins s, Inv X pins σ H s → wpAny (model X.prog X.w) X.A (isTrue e X.env (eval e X.env)) (TP X pins σ Q) X.xe s
def WW (e : Expr) : TT := fun σ H Q => ∀ whole pins s, Inv X pins σ H s → wpAny (model X.prog X.w) X.A (isTrue e X.env whole) (TP X pins σ Q) X.xe s
def WA (es : List Expr) : TA := fun σ H Q => ∀ pos pins s, Inv X pins σ H s → wpAny (model X.prog X.w) X.A (spliced (backTo pos (starEach es X.env))) (AP X pins σ Q) X.xe s
def WS (st : Stmt) : TS := fun Dd σ H => ∀ pins s, Inv X pins σ H s → wpAny (model X.prog X.w) X.A (exec st X.env) (SP X pins Dd) X.xe s
def WSs (sts : List Stmt) : TS := fun Dd σ H => ∀ pins s, Inv X pins σ H s → wpAny (model X.prog X.w) X.A (execs sts X.env) (SP X pins Dd) X.xe s
def WO (f : Value → Value → Sem Value) : R2 := fun x y H Q => ∀ pins s σ v u, Inv X pins σ H s → RelV x v → RelV y u → wpAny (model X.prog X.w) X.A (f v u) (EP X pins σ Q) X.xe s
end
section
variable {X : Cx} {e : Expr} {es : List Expr} {st : Stmt} {sts : List Stmt}
theorem we_pe : PE X e (WE X e) := ⟨fun pins s _ _ _ I h => h pins s I⟩
theorem wt_pt : PT X e (WT X e) := ⟨fun pins s _ _ _ I h => h pins s I⟩
theorem ww_pw : PW X e (WW X e) := ⟨fun wh pins s _ _ _ I h => h wh pins s I⟩
theorem wa_pa : PA X es (WA X es) := ⟨fun pos pins s _ _ _ I h => h pos pins s I⟩
theorem ws_ps : PS X st (WS X st) := ⟨fun pins s _ _ _ I h => h pins s I⟩
theorem wss_pss : PSs X sts (WSs X sts) := ⟨fun pins s _ _ _ I h => h pins s I⟩
theorem wo_op {f : Value → Value → Sem Value} : OpR X f (WO X f) := fun pins s σ _ _ _ v u _ I r1 r2 h => h pins s σ v u I r1 r2
theorem PE.w {t : TE} (h : PE X e t) {σ : L2.St} {H : Hp} {Q : VK} (q : t σ H Q) : WE X e σ H Q := fun pins s I => h.run pins s σ H Q I q
theorem PT.w {t : TT} (h : PT X e t) {σ : L2.St} {H : Hp} {Q : Bool → Hp → Prop} (q : t σ H Q) : WT X e σ H Q := fun pins s I => h.run pins s σ H Q I q
theorem PW.w {t : TT} (h : PW X e t) {σ : L2.St} {H : Hp} {Q : Bool → Hp → Prop} (q : t σ H Q) : WW X e σ H Q := fun wh pins s I => h.run wh pins s σ H Q I q
theorem PA.w {t : TA} (h : PA X es t) {σ : L2.St} {H : Hp} {Q : List V → Hp → Prop} (q : t σ H Q) : WA X es σ H Q := fun pos pins s I => h.run pos pins s σ H Q I q
theorem PS.w {t : TS} (h : PS X st t) {σ : L2.St} {H : Hp} {Dd : Ends} (q : t Dd σ H) : WS X st Dd σ H := fun pins s I => h.run pins s σ H Dd I q
theorem PSs.w {t : TS} (h : PSs X sts t) {σ : L2.St} {H : Hp} {Dd : Ends} (q : t Dd σ H) : WSs X sts Dd σ H := fun pins s I => h.run pins s σ H Dd I q
theorem OpR.w {f : Value → Value → Sem Value} {r : R2} (h : OpR X f r) {x y : V} {H : Hp} {Q : VK} (q : r x y H Q) : WO X f x y H Q := fun pins s σ v u I r1 r2 => h pins s σ H x y v u Q I r1 r2 q
end

/-! ### judgements on data -/
/-- what follows: from any later world, a value that is a datum wanted -/
def Cont (K : PySem.W.Frag) (g : List Code) (W : Wd) (H : Hp) (Q : D → Prop) (R : VK) : Prop := ∀ d v W' H', Stp W H W' H' → Ok g W' H' → Dn K W'.I d v → Q d → R v H'
def ContB (g : List Code) (W : Wd) (H : Hp) (Q : Bool → Prop) (R : Bool → Hp → Prop) : Prop := ∀ b W' H', Stp W H W' H' → Ok g W' H' → Q b → R b H'
/-- arguments: data, or pots -/
def Arg (K : PySem.W.Frag) (W : Wd) : Sl → V → Prop
  | .val d, v => Dn K W.I d v
  | .pot, v => ∃ p, v = .ref p ∧ W.P p
  | .own _, _ => False
  | .ownT _, _ => False
  | .inst _ _ _ _, _ => False
abbrev Args (K : PySem.W.Frag) (W : Wd) (as : List Sl) (vs : List V) : Prop := Paired (Arg K W) as vs
def ContA (K : PySem.W.Frag) (g : List Code) (W : Wd) (H : Hp) (Q : List Sl → Prop) (R : List V → Hp → Prop) : Prop := ∀ as vs W' H', Stp W H W' H' → Ok g W' H' → Args K W' as vs → Q as → R vs H'
section
variable (X : Cx) (B : Hp) (S : En)
def ED (e : Expr) (Q : D → Prop) : Prop := ∀ σ W H, Rep X.K (gOf X) B S σ W H → ∀ R, Cont X.K (gOf X) W H Q R → WE X e σ H R
def TD (e : Expr) (Q : Bool → Prop) : Prop := ∀ σ W H, Rep X.K (gOf X) B S σ W H → ∀ R, ContB (gOf X) W H Q R → WT X e σ H R
def TW (e : Expr) (Q : Bool → Prop) : Prop := ∀ σ W H, Rep X.K (gOf X) B S σ W H → ∀ R, ContB (gOf X) W H Q R → WW X e σ H R
def AD (es : List Expr) (Q : List Sl → Prop) : Prop := ∀ σ W H, Rep X.K (gOf X) B S σ W H → ∀ R, ContA X.K (gOf X) W H Q R → WA X es σ H R
def OD (f : Value → Value → Sem Value) (x y : D) (Q : D → Prop) : Prop := ∀ v u W H, Ok (gOf X) W H → Dn X.K W.I x v → Dn X.K W.I y u → ∀ R, Cont X.K (gOf X) W H Q R → WO X f v u H R
end
section
variable {K : PySem.W.Frag} {g : List Code} {W W1 : Wd} {H H1 : Hp}
theorem Cont.step {Q : D → Prop} {R : VK} (c : Cont K g W H Q R) (a : Stp W H W1 H1) (ok : Ok g W1 H1) : Cont K g W1 H1 Q R := fun d v W' H' b ok' h q => c d v W' H' (a.trans ok b) ok' h q
theorem Cont.now {Q : D → Prop} {R : VK} (c : Cont K g W H Q R) (ok : Ok g W H) {d : D} {v : V} (h : Dn K W.I d v) (q : Q d) : R v H := c d v W H Stp.refl ok h q
theorem ContB.step {Q : Bool → Prop} {R : Bool → Hp → Prop} (c : ContB g W H Q R) (a : Stp W H W1 H1) (ok : Ok g W1 H1) : ContB g W1 H1 Q R := fun b W' H' s ok' q => c b W' H' (a.trans ok s) ok' q
theorem ContB.now {Q : Bool → Prop} {R : Bool → Hp → Prop} (c : ContB g W H Q R) (ok : Ok g W H) {b : Bool} (q : Q b) : R b H := c b W H Stp.refl ok q
theorem Args.step {as : List Sl} {vs : List V} (h : Args K W as vs) (a : Stp W H W1 H1) : Args K W1 as vs := by
  refine Paired.mapP h fun x v h1 => ?_
  · cases x with
    | val d => exact Dn.mono a.I h1
    | own l => exact h1
    | pot => obtain ⟨p, e, q⟩ := h1; exact ⟨p, e, a.P p q⟩
    | inst _ _ _ _ => exact h1
    | ownT _ => exact h1
end

/-! ### expressions -/
section
variable {X : Cx} {B : Hp} {S : En} {pos : Pos} {Q : D → Prop} {a b : Expr}
theorem ed_name {x : Str} {d : D} (i : Nat) (hN : X.N[i]? = some x) (h : S[i]? = some (some (.val d))) (q : Q d) (hv : Vis X.env.scope x := by first | exact Or.inl rfl | exact Or.inr (Or.inl rfl) | exact Or.inr (Or.inr rfl))
    (hd : (x == ("__debug__" : Str)) = false := by decide) (hcd : (x == ("__classdict__" : Str)) = false := by decide) : ED X B S (.Name x pos) Q := fun σ W H r R c => by
  obtain ⟨v, e, z⟩ := r.sl i _ h
  exact PE.w (pe_var hN hv hd hcd) ⟨v, e, c.now r.ok z q⟩
theorem ed_int {i j} (q : Q (.int i)) : ED X B S (.Constant (.int i) j pos) Q := fun σ W H r R c => PE.w pe_int (c.now r.ok (.int i) q)
theorem ed_bl {b j} (q : Q (.bl b)) : ED X B S (.Constant (.bool b) j pos) Q := fun σ W H r R c => PE.w pe_bl (c.now r.ok (.bl b) q)
theorem ed_non {j} (q : Q .non) : ED X B S (.Constant .none j pos) Q := fun σ W H r R c => PE.w pe_non (c.now r.ok .non q)
theorem ed_str {x j} (q : Q (.str x)) : ED X B S (.Constant (.str x) j pos) Q := fun σ W H r R c => PE.w pe_str (c.now r.ok (.str x) q)
theorem ed_two {f : Value → Value → Sem Value} (h : ED X B S a fun x => ED X B S b fun y => OD X f x y Q) {σ : L2.St} {W : Wd} {H : Hp} (r : Rep X.K (gOf X) B S σ W H) {R : VK} (c : Cont X.K (gOf X) W H Q R) :
    WE X a σ H fun x H1 => WE X b σ H1 fun y H2 => WO X f x y H2 R := by
  refine h σ W H r _ fun d v W1 H1 s1 ok1 n1 q1 => ?_
  refine q1 σ W1 H1 (r.step s1 ok1) _ fun d2 u W2 H2 s2 ok2 n2 q2 => ?_
  exact q2 v u W2 H2 ok2 (n1.mono s2.I) n2 R ((c.step s1 ok1).step s2 ok2)
theorem ed_bin {op : Operator} (h : ED X B S a fun x => ED X B S b fun y => OD X (binaryOp op) x y Q) : ED X B S (.BinOp a op b pos) Q := fun σ W H r R c =>
  PE.w (pe_op wo_op we_pe we_pe) (ed_two h r c)
theorem ed_cmp {op : CmpOp} (h : ED X B S a fun x => ED X B S b fun y => OD X (compareOp op) x y Q) (hm : behindInMarks op b = false := by first | exact nomark _ | rfl) : ED X B S (.Compare a [op] [b] pos) Q := fun σ W H r R c =>
  PE.w (pe_cmpR wo_op we_pe we_pe hm) (ed_two h r c)
theorem od_of {f : Value → Value → Sem Value} {r : R2} (ho : OpR X f r) {x y : D} (h : ∀ v u W H, Ok (gOf X) W H → Dn X.K W.I x v → Dn X.K W.I y u → ∀ R, Cont X.K (gOf X) W H Q R → r v u H R) : OD X f x y Q :=
  fun v u W H ok h1 h2 R c => OpR.w ho (h v u W H ok h1 h2 R c)
/-- operators on ints -/
theorem od_I0 {f : Value → Value → Sem Value} {g : Int → Int → V} {i j : Int} {d : D} (ho : OpR X f (rI0 g)) (hg : ∀ K I, Dn K I d (g i j)) (q : Q d) : OD X f (.int i) (.int j) Q := by
  refine od_of ho fun v u W H ok h1 h2 R c => ?_
  cases h1; cases h2
  exact ⟨i, j, rfl, rfl, c.now ok (hg _ _) q⟩
theorem od_I {f : Value → Value → Sem Value} {C : Int → Int → Prop} {g : Int → Int → V} {i j : Int} {d : D} (ho : OpR X f (rI C g)) (hc : C i j) (hg : ∀ K I, Dn K I d (g i j)) (q : Q d) : OD X f (.int i) (.int j) Q := by
  refine od_of ho fun v u W H ok h1 h2 R c => ?_
  cases h1; cases h2
  exact ⟨i, j, rfl, rfl, hc, c.now ok (hg _ _) q⟩
theorem od_add {i j : Int} (q : Q (.int (i + j))) : OD X (binaryOp .Add) (.int i) (.int j) Q := od_I0 op_add (fun _ _ => .int _) q
theorem od_sub {i j : Int} (q : Q (.int (i - j))) : OD X (binaryOp .Sub) (.int i) (.int j) Q := od_I0 op_sub (fun _ _ => .int _) q
theorem od_lt {i j : Int} (q : Q (.bl (decide (i < j)))) : OD X (compareOp .Lt) (.int i) (.int j) Q := od_I0 op_lt (fun _ _ => .bl _) q
theorem od_le {i j : Int} (q : Q (.bl (decide (i ≤ j)))) : OD X (compareOp .LtE) (.int i) (.int j) Q := od_I0 op_le (fun _ _ => .bl _) q
theorem od_gt {i j : Int} (q : Q (.bl (decide (j < i)))) : OD X (compareOp .Gt) (.int i) (.int j) Q := od_I0 op_gt (fun _ _ => .bl _) q
theorem od_ge {i j : Int} (q : Q (.bl (decide (j ≤ i)))) : OD X (compareOp .GtE) (.int i) (.int j) Q := od_I0 op_ge (fun _ _ => .bl _) q
end
end DL

set_option Elab.async false
set_option linter.all false
set_option maxRecDepth 100000
set_option maxHeartbeats 2000000
/-! what a def promises where it is known what is being written as a text around it (the guards) -/
namespace DL
open PySem PySem.Spec PyProof.Rows L2
abbrev SpG := List Code → List V → Hp → VK → Prop
structure GnOk (P : Program) (w : World) (K : PySem.W.Frag) (mg : Str → Option Value) (base : Heap) (k : Nat) (f : Addr) (fd : FuncData) (ps : List Str) (sp : SpG) : Prop where
  len : ∀ g vs H Q, sp g vs H Q → vs.length = ps.length
  run : ∀ (A : Around) (g : List Code) (outer : List Env) (s : Shared) (H : Hp) (args : PySem.Args) (us : List Value) (vs : List V) (Q : VK), Room k A → A.guards = some g → Env0 P w K mg base A outer s H → BindsTo s fd args (ps.zip us) → Vals vs us → sp g vs H Q →
    codeAny (model P w) A (.call (.ref f) args) (CR CX0 outer P w H s Q E0) s
/-- a def of the text, its defaults whatever they are -/
structure FunS (K : PySem.W.Frag) (x qual : Str) (st : Stmt) (f : Addr) (fd : FuncData) : Prop where
  ex : ∃ (oc : Value) (od : Option Addr) (dV kV doc pm : Value) (an : Option Addr) (cdv ct : Value) (osl : Array (Option Value)),
    fd = PySem.W.fnOf x qual (defArgs st) (defBody st) (defScope st) dV kV doc pm an cdv ct ∧ K.lookup f = some ⟨oc, od, .func fd, osl⟩ ∧ PySem.W.codeIn K cdv qual = true
  kp : PySem.W.keepIn K (.ref f) = true
theorem fun_s {K : PySem.W.Frag} {x qual : Str} {st : Stmt} {f : Addr} {fd : FuncData} (F : Fun K x qual st f fd) : FunS K x qual st f fd :=
  ⟨let ⟨oc, od, kV, doc, pm, an, cdv, ct, osl, a, b, c⟩ := F.ex; ⟨oc, od, .none, kV, doc, pm, an, cdv, ct, osl, a, b, c⟩, F.kp⟩
section
variable {P : Program} {w : World} {K : PySem.W.Frag} {mg : Str → Option Value} {base : Heap} {j k : Nat} {f : Addr} {fd : FuncData} {ps : List Str} {sp sp' : SpG}
abbrev Bx (P : Program) (w : World) (K : PySem.W.Frag) (mg : Str → Option Value) (base : Heap) (N : List Str) (qual : Str) (st : Stmt) (f : Addr) (cdv : Value) (A : Around) (outer : List Env) (s : Shared) (H : Hp) : Cx := (cxOf CX0 P w K mg base N qual (defScope st) f cdv A outer s H E0).nox
/-- a def by its body, the guards known -/
theorem gn_of {x qual : Str} {st : Stmt} {N : List Str} (F : FunS K x qual st f fd) (S : FnScope N ps (defScope st)) (len : ∀ g vs H Q, sp g vs H Q → vs.length = ps.length)
    (body : ∀ cdv A outer s H g vs Q, Room k (A.deeper (PyProof.Rows.envOfC qual (defScope st) s.heap.objs.size f cdv)) → A.guards = some g → sp g vs H Q →
      ∃ t, PSs (Bx P w K mg base N qual st f cdv A outer s H) (defBody st) t ∧ t { nx := fun _ H' => Q .non H', rt := Q } (L2.start N vs) H) : GnOk P w K mg base (k + 1) f fd ps sp := by
  obtain ⟨oc, od, dV, kV, doc, pm, an, cdv, ct, osl, rfl, lk, hcd⟩ := F.ex
  refine ⟨len, fun A g outer s H args us vs Q hr hg e0 hb r hsp => ?_⟩
  have old := fun b o (e : base.get? b = some o) => (e0.bs b o e).1
  have KX : K.In s.heap := e0.mod.kin.keeps old
  have par : ∀ y ∈ ps.zip us, (defScope st).names.lookup y.1 = some .local ∨ ((defScope st).names.lookup y.1 = some .cell ∧ ((cellsFrom (s.heap.objs.size + 1) (defScope st).names []).lookup y.1).isSome = true) := fun y hy =>
    (S.par y.1 (List.of_mem_zip (show (y.1, y.2) ∈ _ from hy)).1).imp id fun q => ⟨q, PySem.W.cellsFrom_some _ _ _ (.inl q)⟩
  refine codeAny_call_function hr.depth (KX _ _ lk) rfl S.co S.gen rfl (PySem.W.codeRec_of KX hcd) (hb _ _ _ _ ?_)
  refine wpAny_newFunctionEnv_cells S.kind par fun env he s1 x => ?_
  subst he
  refine ⟨(e0.mod.nolimit.keeps old).keeps x.toInCall.keep, codeAny_func ?_⟩
  obtain ⟨t, ht, hq⟩ := body cdv A outer s H g vs Q (hr.deeper _) hg hsp
  have I := inv_start (CX := CX0) (E := E0) S hr.hd e0 (len _ _ _ _ hsp) r x
  refine wpAny_mono (ht.nox.run [] s1 (L2.start N vs) H _ I hq) (fun fl s' hs => ?_) fun e s' hs => hs
  match fl, hs with
  | .ret u, ⟨v, σ', H', J, rv, q⟩ => exact ⟨v, H', J.os, J.bare, J.base, J.hok, rv, q⟩
  | .next, ⟨σ', H', J, q⟩ => exact ⟨V.non, H', J.os, J.bare, J.base, J.hok, rfl, q⟩
  | .brk, ⟨_, _, _, q⟩ => exact q.elim
  | .cont, ⟨_, _, _, q⟩ => exact q.elim
theorem deeper_guards {A : Around} {qual : Str} {sc : Scope} {n : Nat} {f : Addr} {cdv : Value} {g : List Code} (h : A.guards = some g) : (A.deeper (PyProof.Rows.envOfC qual sc n f cdv)).guards = some g := by
  first | exact h | (simpa [Around.deeper] using h)
end
section
variable {X : Cx} {k : Nat} {f C g0 : Addr} {fd : FuncData} {ps : List Str} {sp : SpG} {dvs : List V} {ds : List Value} {x m : Str} {p pos apos : Pos} {e o : Expr} {es : List Expr} {g : List Code}
theorem run_cr {pins : List (Addr × Obj)} {σ : L2.St} {H : Hp} {s : Shared} {Q : VK} {c : Code} {A : Around} (I : Inv X pins σ H s) (h : codeAny (model X.prog X.w) A c (CR CX0 X.stack X.prog X.w H s Q E0) s) :
    codeAny (model X.prog X.w) A c (fun r s' => match r with | .ok (.ret v) => EP X pins σ Q v s' | .ok _ => False | .error e => False) s := by
  refine codeAny_mono h fun r s' hq => ?_
  match r, hq with
  | .error e, hq => exact hq
  | .ok (.ret u), hq => exact I.after hq
/-- the callee runs -/
theorem run_gn {A : Around} {pins : List (Addr × Obj)} {σ : L2.St} {H : Hp} {s : Shared} {Q : VK} {us : List Value} {vs : List V} {R : PySem.Result → Shared → Prop} (F : GnOk X.prog X.w X.K X.mg X.base k f fd ps sp) (hr : Room k A) (hG : A.guards = some g) (e0 : Env0 X.prog X.w X.K X.mg X.base A X.stack s H)
    (hb : Binds X.K fd ps ds) (hd : Vals dvs ds) (I : Inv X pins σ H s) (r : Vals vs us) (h : sp g (vs ++ dvs) H Q) (k : ∀ v s', EP X pins σ Q v s' → R (.ok (.ret v)) s') : codeAny (model X.prog X.w) A (.call (.ref f) ⟨us, []⟩) R s := by
  have r2 : Vals (vs ++ dvs) (us ++ ds) := r.append hd
  have hl : (us ++ ds).length = ps.length := r2.length.symm.trans (F.len _ _ _ _ h)
  refine codeAny_mono (run_cr I (F.run A g X.stack s H ⟨us, []⟩ (us ++ ds) (vs ++ dvs) Q hr hG e0 (hb s us I.kIn hl) r2 h)) fun r s' hq => ?_
  match r, hq with
  | .error e, hq => exact hq.elim
  | .ok (.ret u), hq => exact k u s' hq
/-- .. its arguments bound in any way -/
theorem run_gb {A : Around} {pins : List (Addr × Obj)} {σ : L2.St} {H : Hp} {s : Shared} {Q : VK} {args : PySem.Args} {us : List Value} {vs : List V} {R : PySem.Result → Shared → Prop} (F : GnOk X.prog X.w X.K X.mg X.base k f fd ps sp) (hr : Room k A) (hG : A.guards = some g) (e0 : Env0 X.prog X.w X.K X.mg X.base A X.stack s H)
    (hb : BindsTo s fd args (ps.zip us)) (I : Inv X pins σ H s) (r : Vals vs us) (h : sp g vs H Q) (k : ∀ v s', EP X pins σ Q v s' → R (.ok (.ret v)) s') : codeAny (model X.prog X.w) A (.call (.ref f) args) R s := by
  refine codeAny_mono (run_cr I (F.run A g X.stack s H args us vs Q hr hG e0 hb r h)) fun r s' hq => ?_
  match r, hq with
  | .error e, hq => exact hq.elim
  | .ok (.ret u), hq => exact k u s' hq
theorem call_gn {pins : List (Addr × Obj)} {σ : L2.St} {H : Hp} {s : Shared} {Q : VK} {us : List Value} {vs : List V} {E : Value → Shared → Prop} (F : GnOk X.prog X.w X.K X.mg X.base k f fd ps sp) (hr : Room k X.A) (hG : X.A.guards = some g)
    (hb : Binds X.K fd ps ds) (hd : Vals dvs ds) (I : Inv X pins σ H s) (r : Vals vs us) (h : sp g (vs ++ dvs) H Q) : wpAny (model X.prog X.w) X.A (call (.ref f) us) (EP X pins σ Q) E s :=
  wpAny_call (run_gn F hr hG I.env0 hb hd I r h fun _ _ q => q)
/-- f(e, ..) -/
theorem we_call {σ : L2.St} {H : Hp} {Q : VK} (F : GnOk X.prog X.w X.K X.mg X.base k f fd ps sp) (hr : Room k X.A) (hG : X.A.guards = some g) (hg : Gl X x) (hm : X.mg x = some (.ref f)) (hk : PySem.W.keepIn X.K (.ref f) = true) (hb : Binds X.K fd ps ds) (hd : Vals dvs ds)
    (h : WA X (e :: es) σ H fun vs H1 => sp g (vs ++ dvs) H1 Q) (hdb : (x == ("__debug__" : Str)) = false) (he : starEach (e :: es) X.env = (false, eval e X.env) :: starEach es X.env) (hpl : (backTo pos (starEach es X.env)).any (·.1) = false) : WE X (.Call (.Name x p) (e :: es) [] pos) σ H Q := fun pins s I =>
  wpAny_Call_Name_kw (ld_glob I hg hm (PySem.W.callWith_K (h₀ := X.base) I.ok.mod.kin hk (thn (h pos pins s I) fun us s1 ⟨vs, H1, I1, r, q⟩ => ⟨I1.kIn, call_gn F hr hG hb hd I1 r q⟩) he hpl) hdb)
end
end DL

set_option Elab.async false
set_option linter.all false
set_option maxRecDepth 100000
set_option maxHeartbeats 2000000
namespace DL
open PySem L2

/-! ### more expressions -/
section
variable {X : Cx} {B : Hp} {S : En} {pos : Pos} {Q : D → Prop} {QB : Bool → Prop} {a b c e : Expr} {es : List Expr}

theorem ed_one {op} (h : ED X B S a Q) : ED X B S (.BoolOp op [a] pos) Q := fun σ W H r R k => PE.w (pe_one we_pe) (h σ W H r R k)
theorem ed_and {rest : List Expr} (h : ED X B S a fun x => ∃ k, x = .bl k ∧ if k = true then ED X B S (.BoolOp .And (b :: rest) pos) Q else Q (.bl false)) : ED X B S (.BoolOp .And (a :: b :: rest) pos) Q := fun σ W H r R k => by
  refine PE.w (pe_and we_pe we_pe) ?_
  refine h σ W H r _ fun d v W1 H1 s1 ok1 n1 q1 => ?_
  obtain ⟨t, e, q1⟩ := q1
  subst e
  cases n1
  refine ⟨t, rfl, ?_⟩
  cases t with
  | false => exact iteF ((k.step s1 ok1).now ok1 (.bl false) (by simpa using q1))
  | true => exact iteT ((show ED X B S (.BoolOp .And (b :: rest) pos) Q by simpa using q1) σ W1 H1 (r.step s1 ok1) R (k.step s1 ok1))
theorem ed_not (h : ED X B S a fun x => ∃ k, x = .bl k ∧ Q (.bl (!k))) : ED X B S (.UnaryOp .Not a pos) Q := fun σ W H r R k => by
  refine PE.w (pe_not we_pe) ?_
  refine h σ W H r _ fun d v W1 H1 s1 ok1 n1 q1 => ?_
  obtain ⟨t, e, q1⟩ := q1
  subst e
  cases n1
  exact ⟨t, rfl, (k.step s1 ok1).now ok1 (.bl _) q1⟩
theorem ed_ifx (h : TD X B S c fun k => if k = true then ED X B S a Q else ED X B S b Q) : ED X B S (.IfExp c a b pos) Q := fun σ W H r R k => by
  refine PE.w (pe_ifExp wt_pt we_pe we_pe) ?_
  refine h σ W H r _ fun t W1 H1 s1 ok1 q1 => ?_
  cases t with
  | true => exact iteT ((show ED X B S a Q by simpa using q1) σ W1 H1 (r.step s1 ok1) R (k.step s1 ok1))
  | false => exact iteF ((show ED X B S b Q by simpa using q1) σ W1 H1 (r.step s1 ok1) R (k.step s1 ok1))
theorem ed_neg (h : ED X B S a fun x => ∃ i, x = .int i ∧ Q (.int (-i))) : ED X B S (.UnaryOp .USub a pos) Q := fun σ W H r R k => by
  refine PE.w (pe_un un_neg we_pe) ?_
  refine h σ W H r _ fun d v W1 H1 s1 ok1 n1 q1 => ?_
  obtain ⟨i, e, q1⟩ := q1
  subst e
  cases n1
  exact ⟨i, rfl, (k.step s1 ok1).now ok1 (.int _) q1⟩

/-! ### tests -/
theorem td_val (h : ED X B S e fun x => ∃ k, x = .bl k ∧ QB k) (he : ∀ whole, isTrue e X.env whole = (do let v ← whole; standAt e.pos; holding [v] (truthy v)) := by intro _; rfl) : TD X B S e QB := fun σ W H r R k => by
  refine PT.w (pt_val we_pe he) ?_
  refine h σ W H r _ fun d v W1 H1 s1 ok1 n1 q1 => ?_
  obtain ⟨t, e, q1⟩ := q1
  subst e
  cases n1
  exact ⟨t, rfl, (k.step s1 ok1).now ok1 q1⟩
theorem td_cmp {op : CmpOp} (h : ED X B S a fun x => ED X B S b fun y => OD X (compareOp op) x y fun z => ∃ k, z = .bl k ∧ QB k) (hm : behindInMarks op b = false := by first | exact nomark _ | rfl) : TD X B S (.Compare a [op] [b] pos) QB := fun σ W H r R k => by
  refine PT.w (pt_cmpR wo_op we_pe we_pe hm) ?_
  refine h σ W H r _ fun d v W1 H1 s1 ok1 n1 q1 => ?_
  refine q1 σ W1 H1 (r.step s1 ok1) _ fun d2 u W2 H2 s2 ok2 n2 q2 => ?_
  refine q2 v u W2 H2 ok2 (n1.mono s2.I) n2 _ fun d3 z W3 H3 s3 ok3 n3 q3 => ?_
  obtain ⟨t, e, q3⟩ := q3
  subst e
  cases n3
  exact ⟨t, rfl, (((k.step s1 ok1).step s2 ok2).step s3 ok3).now ok3 q3⟩
theorem td_of (h : TW X B S e QB) : TD X B S e QB := fun σ W H r R k => PT.w (PW.pt ww_pw) (h σ W H r R k)
theorem tw_and1 (h : TD X B S a QB) : TW X B S (.BoolOp .And [a] pos) QB := fun σ W H r R k => PW.w (pw_and1 wt_pt) (h σ W H r R k)
theorem tw_or1 (h : TD X B S a QB) : TW X B S (.BoolOp .Or [a] pos) QB := fun σ W H r R k => PW.w (pw_or1 wt_pt) (h σ W H r R k)
theorem tw_and {rest : List Expr} (h : TD X B S a fun k => if k = true then TW X B S (.BoolOp .And (b :: rest) pos) QB else QB false) : TW X B S (.BoolOp .And (a :: b :: rest) pos) QB := fun σ W H r R k => by
  refine PW.w (pw_and wt_pt ww_pw) ?_
  refine h σ W H r _ fun t W1 H1 s1 ok1 q1 => ?_
  cases t with
  | false => exact iteF ((k.step s1 ok1).now ok1 (by simpa using q1))
  | true => exact iteT ((show TW X B S (.BoolOp .And (b :: rest) pos) QB by simpa using q1) σ W1 H1 (r.step s1 ok1) R (k.step s1 ok1))
theorem tw_or {rest : List Expr} (h : TD X B S a fun k => if k = true then QB true else TW X B S (.BoolOp .Or (b :: rest) pos) QB) : TW X B S (.BoolOp .Or (a :: b :: rest) pos) QB := fun σ W H r R k => by
  refine PW.w (pw_or wt_pt ww_pw) ?_
  refine h σ W H r _ fun t W1 H1 s1 ok1 q1 => ?_
  cases t with
  | true => exact iteT ((k.step s1 ok1).now ok1 (by simpa using q1))
  | false => exact iteF ((show TW X B S (.BoolOp .Or (b :: rest) pos) QB by simpa using q1) σ W1 H1 (r.step s1 ok1) R (k.step s1 ok1))
theorem td_not (h : TD X B S a fun k => QB (!k)) : TD X B S (.UnaryOp .Not a pos) QB := fun σ W H r R k => by
  refine PT.w (pt_not wt_pt) ?_
  exact h σ W H r _ fun t W1 H1 s1 ok1 q1 => (k.step s1 ok1).now ok1 q1
/-- the truth of a datum -/
def Tru : D → Bool → Prop
  | .non, k => k = false
  | .bl b, k => k = b
  | .int i, k => k = (i != 0)
  | .str y, k => y.length ≤ sizeLine ∧ k = ((y.length : Int) != 0)
  | .lst l, k => k = !l.isEmpty
  | .tup l, k => k = !l.isEmpty
  | _, _ => False
theorem Dns.isEmpty {K : PySem.W.Frag} {I : Hp} {l : List D} {xs : List V} (h : Dns K I l xs) : l.isEmpty = xs.isEmpty := by
  cases h <;> rfl
theorem td_truth (h : ED X B S e fun x => ∃ k, Tru x k ∧ QB k) (he : ∀ whole, isTrue e X.env whole = (do let v ← whole; standAt e.pos; holding [v] (truthy v)) := by intro _; rfl) : TD X B S e QB := fun σ W H r R k => by
  refine PT.w (pt_truth we_pe he) ?_
  refine h σ W H r _ fun d v W1 H1 s1 ok1 n1 q1 => ?_
  obtain ⟨t, tr, q1⟩ := q1
  refine ⟨t, ?_, (k.step s1 ok1).now ok1 q1⟩
  cases n1 with
  | non => exact tr
  | bl _ => exact tr
  | int _ => exact tr
  | str _ => exact tr
  | ty _ => exact tr
  | cls _ => exact tr.elim
  | tup h z => exact .inr (.inl ⟨_, SqT.of (ok1.ex _ _ h), by rw [← z.isEmpty]; exact tr⟩)
  | lst h z => exact .inl ⟨_, SqL.of (ok1.ex _ _ h), by rw [← z.isEmpty]; exact tr⟩
  | frl h => exact tr.elim
  | obj _ _ => exact tr.elim
  | dct _ => exact tr.elim
  | dcT _ _ => exact tr.elim
  | dcK _ _ => exact tr.elim

/-! ### arguments -/
theorem ad_nil {Q : List Sl → Prop} (q : Q []) : AD X B S [] Q := fun σ W H r R k => PA.w pa_nil (k [] [] W H Stp.refl r.ok .nil q)
theorem ad_cons {Q : List Sl → Prop} (h : ED X B S e fun d => AD X B S es fun as => Q (.val d :: as)) (hs : starEach (e :: es) X.env = (false, eval e X.env) :: starEach es X.env := by rfl) : AD X B S (e :: es) Q := fun σ W H r R k => by
  refine PA.w (pa_cons we_pe wa_pa hs) ?_
  refine h σ W H r _ fun d v W1 H1 s1 ok1 n1 q1 => ?_
  refine q1 σ W1 H1 (r.step s1 ok1) _ fun as vs W2 H2 s2 ok2 n2 q2 => ?_
  exact k _ _ W2 H2 (s1.trans ok1 s2) ok2 (.cons (show Arg X.K W2 (.val d) v from n1.mono s2.I) n2) q2
theorem ad_pot {Q : List Sl → Prop} {x : Str} (i : Nat) (hN : X.N[i]? = some x) (h : S[i]? = some (some .pot)) (q : AD X B S es fun as => Q (.pot :: as)) (hv : Vis X.env.scope x := by first | exact Or.inl rfl | exact Or.inr (Or.inl rfl) | exact Or.inr (Or.inr rfl))
    (hd : (x == ("__debug__" : Str)) = false := by decide) (hcd : (x == ("__classdict__" : Str)) = false := by decide) (hs : starEach (.Name x pos :: es) X.env = (false, eval (.Name x pos) X.env) :: starEach es X.env := by rfl) : AD X B S (.Name x pos :: es) Q := fun σ W H r R k => by
  refine PA.w (pa_cons (pe_var hN hv hd hcd) wa_pa hs) ?_
  obtain ⟨v, e, p, ev, hp⟩ := r.sl i _ h
  refine ⟨v, e, ?_⟩
  refine q σ W H r _ fun as vs W2 H2 s2 ok2 n2 q2 => ?_
  exact k _ _ W2 H2 s2 ok2 (.cons (show Arg X.K W2 .pot v from ⟨p, ev, s2.P p hp⟩) n2) q2

/-! ### displays, items -/
theorem Args.vals {K : PySem.W.Frag} {W : Wd} : ∀ {ds : List D} {vs : List V}, Args K W (ds.map Sl.val) vs → Dns K W.I ds vs
  | [], _, .nil => .nil
  | _ :: _, _, .cons h r => .cons h (Args.vals r)
theorem ed_tup {k0} (h : AD X B S es fun as => ∃ ds, as = ds.map Sl.val ∧ ds.length ≤ 100000 ∧ Q (.tup ds)) : ED X B S (.Tuple es k0 pos) Q := fun σ W H r R k => by
  refine PE.w (pe_tup wa_pa) ?_
  refine h σ W H r _ fun as vs W1 H1 s1 ok1 n1 q1 => ?_
  obtain ⟨ds, rfl, hl, q1⟩ := q1
  have n := n1.vals
  refine ⟨Nat.le_trans (n.length ▸ hl) (by decide), fun p hp => ?_⟩
  have st := Stp.new (o := .tup vs) ok1 hp
  exact k (.tup ds) (.ref p) _ _ (s1.trans ok1 st) (ok1.new hp) (.tup (show upd W1.I p _ p = _ from upd_same) (n.mono st.I)) q1
theorem ed_lst (h : AD X B S es fun as => ∃ ds, as = ds.map Sl.val ∧ ds.length ≤ 100000 ∧ Q (.lst ds)) : ED X B S (.List es pos) Q := fun σ W H r R k => by
  refine PE.w (pe_lst wa_pa) ?_
  refine h σ W H r _ fun as vs W1 H1 s1 ok1 n1 q1 => ?_
  obtain ⟨ds, rfl, hl, q1⟩ := q1
  have n := n1.vals
  refine ⟨Nat.le_trans (n.length ▸ hl) (by decide), fun p hp => ?_⟩
  have st := Stp.new (o := .lst vs) ok1 hp
  exact k (.lst ds) (.ref p) _ _ (s1.trans ok1 st) (ok1.new hp) (.lst (show upd W1.I p _ p = _ from upd_same) (n.mono st.I)) q1
theorem Dns.at {K : PySem.W.Frag} {I : Hp} {l : List D} {xs : List V} {i : Int} {d : D} (h : Dns K I l xs) (e : atI l i = some d) : ∃ v, atI xs i = some v ∧ Dn K I d v := by
  unfold atI at e ⊢
  rw [← h.length]
  cases q : ixN l.length i with
  | none => rw [q] at e; cases e
  | some j =>
    rw [q, Option.bind_some] at e
    obtain ⟨v, h1, h2⟩ := h.get' e
    exact ⟨v, h1, h2⟩
theorem od_ixL {l : List D} {i : Int} {d : D} {σ : L2.St} {W : Wd} {H : Hp} {R : VK} {v u : V} (ok : Ok (gOf X) W H) (h1 : Dn X.K W.I (.lst l) v) (h2 : Dn X.K W.I (.int i) u) (e : atI l i = some d) (q : Q d) (k : Cont X.K (gOf X) W H Q R) : rIxL X.K v u H R := by
  cases h1 with
  | lst h z =>
    cases h2
    obtain ⟨v, e1, n⟩ := z.at e
    exact ⟨_, _, i, v, rfl, rfl, SqL.of (ok.ex _ _ h), e1, k.now ok n q⟩
/-- x[i] of a list, of a tuple -/
theorem ed_ix (h : ED X B S a fun x => ED X B S b fun y => ∃ l i d, (x = .lst l ∨ x = .tup l) ∧ y = .int i ∧ atI l i = some d ∧ Q d) (hs : PlainIx b := by exact fun _ _ => rfl) : ED X B S (.Subscript a b pos) Q := fun σ W H r R k => by
  refine PE.w (pe_ix ix_seq we_pe we_pe hs) ?_
  refine h σ W H r _ fun d v W1 H1 s1 ok1 n1 q1 => ?_
  refine q1 σ W1 H1 (r.step s1 ok1) _ fun d2 u W2 H2 s2 ok2 n2 q2 => ?_
  obtain ⟨l, i, d3, hx, rfl, e, q⟩ := q2
  have k2 := (k.step s1 ok1).step s2 ok2
  have n1' := n1.mono s2.I
  rcases hx with rfl | rfl
  · exact .inl (od_ixL (σ := σ) ok2 n1' n2 e q k2)
  · cases n1' with
    | tup h z =>
      cases n2
      obtain ⟨v, e1, n⟩ := z.at e
      exact .inr (.inl ⟨_, _, i, v, rfl, rfl, SqT.of (ok2.ex _ _ h), e1, k2.now ok2 n q⟩)
/-- p[0], p[1] of a pot: some int -/
theorem ed_potix {x : Str} {px : Pos} {j : Nat} {j2 pos2} (i : Nat) (hN : X.N[i]? = some x) (h : S[i]? = some (some .pot)) (hj : j < 2) (q : ∀ z : Int, (j = 1 → 0 ≤ z ∧ z < 2 ^ 31) → Q (.int z)) (hv : Vis X.env.scope x := by first | exact Or.inl rfl | exact Or.inr (Or.inl rfl) | exact Or.inr (Or.inr rfl))
    (hd : (x == ("__debug__" : Str)) = false := by decide) (hcd : (x == ("__classdict__" : Str)) = false := by decide) : ED X B S (.Subscript (.Name x px) (.Constant (.int (j : Int)) j2 pos2) pos) Q := fun σ W H r R k => by
  refine PE.w (pe_ix ix_list (pe_var hN hv hd hcd) pe_int (fun _ _ => rfl)) ?_
  obtain ⟨v, e, p, ev, hp⟩ := r.sl i _ h
  subst ev
  obtain ⟨n, y, z, hH, hb⟩ := r.ok.pot p hp
  refine ⟨_, e, p, _, (j : Int), if j = 0 then .int y else .int z, rfl, rfl, SqL.of hH, ?_, ?_⟩
  · match j, hj with
    | 0, _ => exact atI_nat (j := 0) rfl
    | 1, _ => exact atI_nat (j := 1) rfl
  · match j, hj with
    | 0, _ => exact k.now r.ok (.int y) (q y fun z => absurd z (by decide))
    | 1, _ => exact k.now r.ok (.int z) (q z fun _ => hb)
end

/-! ### what a def promises, on data -/
abbrev SpD := List Sl → (D → Prop) → Prop
def lift (K : PySem.W.Frag) (sp : SpD) : SpG := fun g vs H R => ∃ as W Q, Ok g W H ∧ Args K W as vs ∧ sp as Q ∧ Cont K g W H Q R
/-- the def that the module calls x: its level, its parameters, its promise -/
structure Df (P : Program) (w : World) (K : PySem.W.Frag) (mg : Str → Option Value) (base : Heap) (x : Str) (k : Nat) (n : Nat) (sp : SpD) : Prop where
  ex : ∃ f fd ps, GnOk P w K mg base k f fd ps (lift K sp) ∧ mg x = some (.ref f) ∧ PySem.W.keepIn K (.ref f) = true ∧ Binds K fd ps [] ∧ ps.length = n
section
variable {X : Cx} {B : Hp} {S : En} {pos p : Pos} {Q : D → Prop} {e : Expr} {es : List Expr} {x : Str} {k n : Nat} {sp : SpD}
theorem ed_call (F : Df X.prog X.w X.K X.mg X.base x k n sp) (hr : Room k X.A) (hG : X.A.guards = some (gOf X)) (h : AD X B S (e :: es) fun as => sp as Q) (hg : Gl X x := by rfl) (hdb : (x == ("__debug__" : Str)) = false := by decide)
    (he : starEach (e :: es) X.env = (false, eval e X.env) :: starEach es X.env := by rfl) (hpl : (backTo pos (starEach es X.env)).any (·.1) = false := by rfl) : ED X B S (.Call (.Name x p) (e :: es) [] pos) Q := fun σ W H r R c => by
  obtain ⟨f, fd, ps, F, hm, hk, hb, _⟩ := F.ex
  refine we_call F hr hG hg hm hk hb .nil ?_ hdb he hpl
  refine h σ W H r _ fun as vs W1 H1 s1 ok1 n1 q1 => ?_
  rw [List.append_nil]
  exact ⟨as, W1, Q, ok1, n1, q1, c.step s1 ok1⟩
/-- a call of a value on data -/
def CD (X : Cx) (f : Value) (as : List Sl) (Q : D → Prop) : Prop := ∀ vs W H, Ok (gOf X) W H → Args X.K W as vs → ∀ R, Cont X.K (gOf X) W H Q R → ∀ pins s σ us, Inv X pins σ H s → Vals vs us → wpAny (model X.prog X.w) X.A (call f us) (EP X pins σ R) X.xe s
def WC (X : Cx) (f : Value) : List V → Hp → VK → Prop := fun vs H R => ∀ pins s σ us, Inv X pins σ H s → Vals vs us → wpAny (model X.prog X.w) X.A (call f us) (EP X pins σ R) X.xe s
theorem wc_call {f : Value} : CallR X f (WC X f) := fun pins s σ _ _ us _ I r h => h pins s σ us I r
theorem cd_of {f : Value} {r : List V → Hp → VK → Prop} {as : List Sl} (hc : CallR X f r) (h : ∀ vs W H, Ok (gOf X) W H → Args X.K W as vs → ∀ R, Cont X.K (gOf X) W H Q R → r vs H R) : CD X f as Q := fun vs W H ok ha R c pins s σ us I rv =>
  hc pins s σ H vs us R I rv (h vs W H ok ha R c)
theorem ed_callB {id : String} (hm : X.mg x = none) (h : AD X B S (e :: es) fun as => CD X (.builtin id) as Q) (hv : bootBuiltins x = some (.builtin id) := by first | rfl | decide +kernel) (hg : Gl X x := by rfl) (hn : x ≠ "__name__" := by decide) (hdb : (x == ("__debug__" : Str)) = false := by decide)
    (he : starEach (e :: es) X.env = (false, eval e X.env) :: starEach es X.env := by rfl) (hpl : (backTo pos (starEach es X.env)).any (·.1) = false := by rfl) : ED X B S (.Call (.Name x p) (e :: es) [] pos) Q := fun σ W H r R c => by
  refine PE.w (pe_callB wc_call hg hm hv wa_pa hn hdb he hpl) ?_
  refine h σ W H r _ fun as vs W1 H1 s1 ok1 n1 q1 => ?_
  exact q1 vs W1 H1 ok1 n1 R (c.step s1 ok1)
theorem ed_callTy {T : String} (hm : X.mg x = none) (h : AD X B S (e :: es) fun as => CD X (.type T) as Q) (hv : bootBuiltins x = some (.type T) := by first | rfl | decide +kernel) (hg : Gl X x := by rfl) (hn : x ≠ "__name__" := by decide) (hdb : (x == ("__debug__" : Str)) = false := by decide)
    (he : starEach (e :: es) X.env = (false, eval e X.env) :: starEach es X.env := by rfl) (hpl : (backTo pos (starEach es X.env)).any (·.1) = false := by rfl) : ED X B S (.Call (.Name x p) (e :: es) [] pos) Q := fun σ W H r R c => by
  refine PE.w (pe_callTy wc_call hg hm hv wa_pa hn hdb he hpl) ?_
  refine h σ W H r _ fun as vs W1 H1 s1 ok1 n1 q1 => ?_
  exact q1 vs W1 H1 ok1 n1 R (c.step s1 ok1)
/-- a built-in function that the module imported -/
theorem one_arg {K : PySem.W.Frag} {W : Wd} {d : D} {vs : List V} (h : Args K W [.val d] vs) : ∃ v, vs = [v] ∧ Dn K W.I d v := by
  cases h with
  | cons h r => cases r; exact ⟨_, rfl, h⟩
theorem two_args {K : PySem.W.Frag} {W : Wd} {d d' : D} {vs : List V} (h : Args K W [.val d, .val d'] vs) : ∃ v u, vs = [v, u] ∧ Dn K W.I d v ∧ Dn K W.I d' u := by
  cases h with
  | cons h r => cases r with
    | cons h' r' => cases r'; exact ⟨_, _, rfl, h, h'⟩
theorem cd_abs {i : Int} (q : Q (.int (if i < 0 then -i else i))) : CD X (.builtin "abs") [.val (.int i)] Q := cd_of call_abs fun vs W H ok ha R c => by
  obtain ⟨v, rfl, h⟩ := one_arg ha
  cases h
  exact ⟨i, rfl, c.now ok (.int _) q⟩
theorem cd_int {i : Int} (q : Q (.int i)) : CD X (.type "int") [.val (.int i)] Q := cd_of call_int1 fun vs W H ok ha R c => by
  obtain ⟨v, rfl, h⟩ := one_arg ha
  cases h
  exact .inl ⟨i, rfl, c.now ok (.int _) q⟩
theorem cd_max {i j : Int} (hc : X.calm = true) (q : Q (.int (if j > i then j else i))) : CD X (.builtin "max") [.val (.int i), .val (.int j)] Q := cd_of (call_max2 hc) fun vs W H ok ha R c => by
  obtain ⟨v, u, rfl, h, h'⟩ := two_args ha
  cases h; cases h'
  exact ⟨i, j, rfl, c.now ok (.int _) q⟩
theorem cd_divmod {i j : Int} (hj : CDiv i j) (q : Q (.tup [.int (i / j), .int (i % j)])) : CD X (.builtin "divmod") [.val (.int i), .val (.int j)] Q := cd_of call_divmod fun vs W H ok ha R c => by
  obtain ⟨v, u, rfl, h, h'⟩ := two_args ha
  cases h; cases h'
  refine ⟨i, j, rfl, hj, fun p hp => ?_⟩
  have st := Stp.new (o := .tup [.int (i / j), .int (i % j)]) ok hp
  exact c _ _ _ _ st (ok.new hp) (.tup (show upd W.I p _ p = _ from upd_same) (.cons (.int _) (.cons (.int _) .nil))) q
theorem cd_len {x : D} {l : List D} (hx : x = .lst l ∨ x = .tup l) (q : Q (.int (l.length : Int))) : CD X (.builtin "len") [.val x] Q := cd_of call_len_seq fun vs W H ok ha R c => by
  obtain ⟨v, rfl, h⟩ := one_arg ha
  rcases hx with rfl | rfl
  · cases h with
    | lst h z => exact ⟨_, _, rfl, .inl (SqL.of (ok.ex _ _ h)), by rw [← z.length]; exact c.now ok (.int _) q⟩
  · cases h with
    | tup h z => exact ⟨_, _, rfl, .inr (SqT.of (ok.ex _ _ h)), by rw [← z.length]; exact c.now ok (.int _) q⟩
theorem cd_lenF {l : List Int} (q : Q (.int (l.length : Int))) : CD X (.builtin "len") [.val (.frl l)] Q := cd_of call_len_seq fun vs W H ok ha R c => by
  obtain ⟨v, rfl, h⟩ := one_arg ha
  cases h with
  | frl h => exact ⟨_, _, rfl, .inl (ok.ex.l h), by rw [List.length_map]; exact c.now ok (.int _) q⟩
end
end DL

set_option Elab.async false
set_option linter.all false
set_option maxRecDepth 100000
set_option maxHeartbeats 2000000
namespace DL
open PySem L2

/-! ### statements -/
structure Ends' where
  nx : En → Prop
  rt : D → Prop
  bk : En → Prop := fun _ => False
  ct : En → Prop := fun _ => False
structure Sub (K : PySem.W.Frag) (g : List Code) (B : Hp) (W0 : Wd) (I : Hp) (E : Ends') (D' : Ends) : Prop where
  nx : ∀ S σ W H, Rep K g B S σ W H → Stp W0 B W H → Ex I W.I → E.nx S → D'.nx σ H
  rt : ∀ d v W H, Ok g W H → Stp W0 B W H → Ex I W.I → Dn K W.I d v → E.rt d → D'.rt v H
  bk : ∀ S σ W H, Rep K g B S σ W H → Stp W0 B W H → Ex I W.I → E.bk S → D'.bk σ H
  ct : ∀ S σ W H, Rep K g B S σ W H → Stp W0 B W H → Ex I W.I → E.ct S → D'.ct σ H
theorem Sub.mono {K : PySem.W.Frag} {g : List Code} {B : Hp} {W0 : Wd} {I I' : Hp} {E : Ends'} {D' : Ends} (k : Sub K g B W0 I E D') (e : Ex I I') : Sub K g B W0 I' E D' :=
  ⟨fun S σ W H r z x => k.nx S σ W H r z (e.trans x), fun d v W H r z x => k.rt d v W H r z (e.trans x), fun S σ W H r z x => k.bk S σ W H r z (e.trans x), fun S σ W H r z x => k.ct S σ W H r z (e.trans x)⟩
def WG (X : Cx) (tg : Expr) : TG := fun v σ H Q => ∀ pins s u, Inv X pins σ H s → RelV v u → wpAny (model X.prog X.w) X.A (assign tg X.env u) (fun _ s' => ∃ σ' H', Inv X pins σ' H' s' ∧ Q σ' H') X.xe s
def WGs (X : Cx) (ts : List Expr) : TGs := fun vs σ H Q => ∀ pins s us, Inv X pins σ H s → Vals vs us → wpAny (model X.prog X.w) X.A (assignInOrder ((assignEach ts X.env).map (·.2)) us) (fun _ s' => ∃ σ' H', Inv X pins σ' H' s' ∧ Q σ' H') X.xe s
theorem wg_pg {X : Cx} {tg : Expr} : PG X tg (WG X tg) := ⟨fun pins s _ _ _ u _ I r h => h pins s u I r⟩
theorem wgs_pgs {X : Cx} {ts : List Expr} : PGs X ts (WGs X ts) := ⟨fun pins s _ _ _ us _ I r h => h pins s us I r⟩
theorem PG.w {X : Cx} {tg : Expr} {t : TG} (h : PG X tg t) {v : V} {σ : L2.St} {H : Hp} {Q : L2.St → Hp → Prop} (q : t v σ H Q) : WG X tg v σ H Q := fun pins s u I r => h.run pins s σ H v u Q I r q
theorem PGs.w {X : Cx} {ts : List Expr} {t : TGs} (h : PGs X ts t) {vs : List V} {σ : L2.St} {H : Hp} {Q : L2.St → Hp → Prop} (q : t vs σ H Q) : WGs X ts vs σ H Q := fun pins s us I r => h.run pins s σ H vs us Q I r q
section
variable (X : Cx) (B : Hp) (W0 : Wd) (S : En)
def SD (st : Stmt) (E : Ends') : Prop := ∀ σ W H, Rep X.K (gOf X) B S σ W H → Stp W0 B W H → ∀ D', Sub X.K (gOf X) B W0 W.I E D' → WS X st D' σ H
def SDs (sts : List Stmt) (E : Ends') : Prop := ∀ σ W H, Rep X.K (gOf X) B S σ W H → Stp W0 B W H → ∀ D', Sub X.K (gOf X) B W0 W.I E D' → WSs X sts D' σ H
def ContG (K : PySem.W.Frag) (g : List Code) (I : Hp) (Q : En → Prop) (R : L2.St → Hp → Prop) : Prop := ∀ S σ W H, Rep K g B S σ W H → Stp W0 B W H → Ex I W.I → Q S → R σ H
def GD (tg : Expr) (d : D) (Q : En → Prop) : Prop := ∀ σ W H v, Rep X.K (gOf X) B S σ W H → Stp W0 B W H → Dn X.K W.I d v → ∀ R, ContG B W0 X.K (gOf X) W.I Q R → WG X tg v σ H R
def GDs (ts : List Expr) (ds : List D) (Q : En → Prop) : Prop := ∀ σ W H vs, Rep X.K (gOf X) B S σ W H → Stp W0 B W H → Dns X.K W.I ds vs → ∀ R, ContG B W0 X.K (gOf X) W.I Q R → WGs X ts vs σ H R
end
section
variable {X : Cx} {B : Hp} {W0 : Wd} {S : En} {st : Stmt} {sts : List Stmt} {E : Ends'} {pos : Pos} {e a b : Expr} {Q : En → Prop}

/-! targets -/
theorem gd_name {x : Str} {d : D} (i : Nat) (hN : X.N.Nodup) (hi : X.N[i]? = some x) (q : Q (S.set i (some (.val d)))) (hx : Loc X.env.scope x := by first | exact Or.inl rfl | exact Or.inr rfl)
    (hf : X.fn x = true ∨ X.env.scope.names.lookup x = some .local := by first | exact .inl rfl | exact .inr rfl) : GD X B W0 S (.Name x pos) d Q := fun σ W H v r z n R k =>
  PG.w (pg_name hN hi hx hf) (k _ _ W H (r.set n) z (Ex.refl _) q)
theorem gds_nil (q : Q S) : GDs X B W0 S [] [] Q := fun σ W H vs r z n R k => by
  cases n
  exact PGs.w pgs_nil ⟨rfl, k _ _ W H r z (Ex.refl _) q⟩
theorem gds_cons {tg : Expr} {ts : List Expr} {d : D} {ds : List D} (h : GD X B W0 S tg d fun S' => GDs X B W0 S' ts ds Q) (hs : (assignEach (tg :: ts) X.env).map (·.2) = assign tg X.env :: (assignEach ts X.env).map (·.2) := by rfl) : GDs X B W0 S (tg :: ts) (d :: ds) Q := fun σ W H vs r z n R k => by
  cases n with
  | @cons _ v _ xs n1 n2 =>
    refine PGs.w (pgs_cons wg_pg wgs_pgs hs) ⟨_, _, rfl, ?_⟩
    exact h σ W H v r z n1 _ fun S' σ' W' H' r' z' e' q' => q' σ' W' H' xs r' z' (n2.mono e') R fun S2 σ2 W2 H2 r2 z2 e2 q2 => k S2 σ2 W2 H2 r2 z2 (e'.trans e2) q2
theorem gd_tup {es : List Expr} {k0 : Nat} {ds : List D} {n : Nat} (hc : X.calm = true) (h : GDs X B W0 S es ds Q) (hl : ds.length = n) (hn : (assignEach es X.env).length = n := by rfl) (hst : (assignEach es X.env).findIdx? (·.1) = none := by rfl) : GD X B W0 S (.Tuple es k0 pos) (.tup ds) Q := fun σ W H v r z m R k => by
  cases m with
  | tup hp m => exact PG.w (pg_tup hc wgs_pgs hn hst) ⟨_, _, rfl, SqT.of (r.ok.ex _ _ hp), by rw [← m.length]; exact hl, h σ W H _ r z m R k⟩
/-- p[j] = an int, p a pot -/
theorem gd_pot {x : Str} {px : Pos} {j : Nat} {j2 pos2} {m : Int} (i : Nat) (hN : X.N[i]? = some x) (h : S[i]? = some (some .pot)) (hj : j < 2) (hm : j = 1 → 0 ≤ m ∧ m < 2 ^ 31) (q : Q S) (hv : Vis X.env.scope x := by first | exact Or.inl rfl | exact Or.inr (Or.inl rfl) | exact Or.inr (Or.inr rfl))
    (hd : (x == ("__debug__" : Str)) = false := by decide) (hcd : (x == ("__classdict__" : Str)) = false := by decide)
    (ha : ∀ v, assign (.Subscript (.Name x px) (.Constant (.int (j : Int)) j2 pos2) pos) X.env v = (do
      let ov ← holding [v] (eval (.Name x px) X.env)
      let iv ← holding [v, ov] (eval (.Constant (.int (j : Int)) j2 pos2) X.env)
      standAt pos
      holding [v, ov, iv] (setItem ov iv v)
      release [v, ov, iv] []) := by intro _; rfl) : GD X B W0 S (.Subscript (.Name x px) (.Constant (.int (j : Int)) j2 pos2) pos) (.int m) Q := fun σ W H v r z n R k => by
  cases n
  obtain ⟨v, e, p, ev, hp⟩ := r.sl i _ h
  subst ev
  obtain ⟨ni, y, w, hH, hbb⟩ := r.ok.pot p hp
  refine PG.w (pg_sub (pe_var hN hv hd hcd) pe_int set_list ha) ⟨_, e, p, _, (j : Int), j, rfl, rfl, hH, ?_, ?_⟩
  · match j, hj with
    | 0, _ => rfl
    | 1, _ => rfl
  · have ht : ∃ y' w', ([V.int y, V.int w].set j (.int m)) = [V.int y', V.int w'] ∧ 0 ≤ w' ∧ w' < 2 ^ 31 := by
      match j, hj with
      | 0, _ => exact ⟨m, w, rfl, hbb⟩
      | 1, _ => exact ⟨y, m, rfl, hm rfl⟩
    obtain ⟨y', w', et, hw'⟩ := ht
    rw [et]
    have pn : ∀ b o, H b = some o → ¬ W.P b → b ≠ p := fun b o _ n z => n (z ▸ hp)
    have ok : Ok (gOf X) W (upd H p (.lst [.int y', .int w'])) := {
      gd := fun b hb => by
        obtain ⟨n1, n2⟩ := r.ok.gd b hb
        refine ⟨n1, ?_⟩
        by_cases q : b = p
        · subst q
          rw [upd_same]
          exact ⟨(fun z => by cases z), (fun _ z => by cases z)⟩
        · rw [upd_ne q]
          exact n2
      ex := fun b o hb => by
        rw [upd_ne (fun z => by rw [z, ni] at hb; cases hb)]
        exact r.ok.ex b o hb
      pot := fun b hb => by
        obtain ⟨nb, y2, w2, h2⟩ := r.ok.pot b hb
        refine ⟨nb, ?_⟩
        by_cases q : b = p
        · subst q
          exact ⟨y', w', upd_same, hw'⟩
        · exact ⟨y2, w2, by rw [upd_ne q]; exact h2⟩ }
    have st : Stp W H W (upd H p (.lst [.int y', .int w'])) := ⟨Ex.refl _, fun _ h => h, fun b o hb n => by rw [upd_ne (pn b o hb n)]; exact hb, fun _ _ _ _ h => h, fun _ _ _ h => h⟩
    exact k S σ W _ (r.step st ok) (z.trans r.ok st) (Ex.refl _) q

/-! blocks -/
theorem sds_nil (q : E.nx S) : SDs X B W0 S [] E := fun σ W H r z D' k => PSs.w pss_nil (k.nx S σ W H r z (Ex.refl _) q)
theorem sds_cons (h : SD X B W0 S st { E with nx := fun S' => SDs X B W0 S' sts E }) : SDs X B W0 S (st :: sts) E := fun σ W H r z D' k => by
  refine PSs.w (pss_cons ws_ps wss_pss) ?_
  exact h σ W H r z _ ⟨fun S' σ' W' H' r' z' x' q => q σ' W' H' r' z' D' (k.mono x'), k.rt, k.bk, k.ct⟩
theorem sd_ret (h : ED X B S e E.rt) : SD X B W0 S (.Return (some e) pos) E := fun σ W H r z D' k => PS.w (ps_ret we_pe) (h σ W H r _ fun d v W1 H1 s1 ok1 n1 q1 => k.rt d v W1 H1 ok1 (z.trans r.ok s1) s1.I n1 q1)
theorem sd_expr (h : ED X B S e fun _ => E.nx S) (hs : swapsWith e none pos.line X.env = pure false := by rfl) : SD X B W0 S (.Expr e pos) E := fun σ W H r z D' k =>
  PS.w (ps_expr we_pe hs) (h σ W H r _ fun d v W1 H1 s1 ok1 n1 q1 => k.nx S σ W1 H1 (r.step s1 ok1) (z.trans r.ok s1) s1.I q1)
theorem sd_if {c : Expr} {x y : List Stmt} (h : TD X B S c fun t => if t = true then SDs X B W0 S x E else SDs X B W0 S y E) : SD X B W0 S (.If c x y pos) E := fun σ W H r z D' k => by
  refine PS.w (ps_if wt_pt wss_pss wss_pss) ?_
  refine h σ W H r _ fun t W1 H1 s1 ok1 q1 => ?_
  cases t with
  | true => exact iteT ((show SDs X B W0 S x E by simpa using q1) σ W1 H1 (r.step s1 ok1) (z.trans r.ok s1) D' (k.mono s1.I))
  | false => exact iteF ((show SDs X B W0 S y E by simpa using q1) σ W1 H1 (r.step s1 ok1) (z.trans r.ok s1) D' (k.mono s1.I))
theorem sd_set {x : Str} {pos' : Pos} (i : Nat) (hN : X.N.Nodup) (hi : X.N[i]? = some x) (h : ED X B S e fun d => E.nx (S.set i (some (.val d)))) (hx : Loc X.env.scope x := by first | exact Or.inl rfl | exact Or.inr rfl)
    (hs : swapsWith e (some (.Name x pos')) pos.line X.env = pure false := by rfl) (hf : X.fn x = true ∨ X.env.scope.names.lookup x = some .local := by first | exact .inl rfl | exact .inr rfl) : SD X B W0 S (.Assign [.Name x pos'] e pos) E := fun σ W H r z D' k =>
  PS.w (ps_set hN hi hx we_pe hs hf) (h σ W H r _ fun d v W1 H1 s1 ok1 n1 q1 => k.nx _ _ W1 H1 ((r.step s1 ok1).set n1) (z.trans r.ok s1) s1.I q1)
theorem sd_asg {tg : Expr} (h : ED X B S e fun d => GD X B W0 S tg d E.nx) (hs : swapsWithSole [tg] e pos.line X.env = pure false := by rfl) (hw : swappedStores [tg] e X.env = pure none := by rfl)
    (h1 : (assignEach [tg] X.env).map (·.2) = [assign tg X.env] := by rfl) : SD X B W0 S (.Assign [tg] e pos) E := fun σ W H r z D' k =>
  PS.w (ps_asg we_pe wg_pg hs hw h1) (h σ W H r _ fun d v W1 H1 s1 ok1 n1 q1 => q1 σ W1 H1 v (r.step s1 ok1) (z.trans r.ok s1) n1 _ fun S2 σ2 W2 H2 r2 z2 e2 q2 => k.nx S2 σ2 W2 H2 r2 z2 (s1.I.trans e2) q2)
theorem sd_par {x y : Str} {px py pt : Pos} {kt k2 pt2} (i j : Nat) (hc : X.calm = true) (hN : X.N.Nodup) (hi : X.N[i]? = some x) (hj : X.N[j]? = some y) (hij : i ≠ j)
    (hx : X.env.scope.names.lookup x = some .local) (hy : X.env.scope.names.lookup y = some .local) (h : AD X B S [a, b] fun as => ∃ d d', as = [.val d, .val d'] ∧ E.nx ((S.set i (some (.val d))).set j (some (.val d'))))
    (hps : PS X (.Assign [.Tuple [.Name x px, .Name y py] kt pt] (.Tuple [a, b] k2 pt2) pos) (tPar i j (WA X [a, b])) := by exact ps_par rfl (by assumption) rfl rfl (by decide) rfl rfl DL.wa_pa (by rfl)) :
    SD X B W0 S (.Assign [.Tuple [.Name x px, .Name y py] kt pt] (.Tuple [a, b] k2 pt2) pos) E := fun σ W H r z D' k => by
  refine PS.w hps ?_
  refine h σ W H r _ fun as vs W1 H1 s1 ok1 n1 q1 => ?_
  obtain ⟨d, d', rfl, q1⟩ := q1
  obtain ⟨v, u, rfl, m, m'⟩ := two_args n1
  exact ⟨v, u, rfl, k.nx _ _ W1 H1 (((r.step s1 ok1).set m).set m') (z.trans r.ok s1) s1.I q1⟩
/-! loops -/
theorem sd_forL {tg iter : Expr} {body : List Stmt} {l : List D} (hp : PassesOwn (model X.prog X.w) X.A X.env X.xe) (hc : X.calm = true) (Inv : Nat → En → Prop) (h : ED X B S iter fun d => (d = .lst l) ∧ Inv 0 S)
    (hs : ∀ (i : Nat) d S', l[i]? = some d → Inv i S' → GD X B W0 S' tg d fun S2 => SDs X B W0 S2 body { nx := Inv (i + 1), rt := E.rt, bk := E.nx, ct := Inv (i + 1) })
    (hd : ∀ S', Inv l.length S' → E.nx S') (hf : ∀ x, foldedSetIterable iter X.env x = pure x := by intro _; rfl) : SD X B W0 S (.For tg iter body [] pos) E := fun σ W H r z D' k => by
  refine PS.w (ps_for hp hc (pi_list we_pe) wg_pg wss_pss hf) ?_
  refine h σ W H r _ fun d v W1 H1 s1 ok1 n1 q1 => ?_
  obtain ⟨rfl, i0⟩ := q1
  cases n1 with
  | @lst _ a xs ha m =>
    refine ⟨a, rfl, ⟨xs, SqL.of (ok1.ex _ _ ha)⟩, for_list (K := X.K) (a := a) (xs := xs) (fun i σ' H' => ∃ S' W', Rep X.K (gOf X) B S' σ' W' H' ∧ Stp W0 B W' H' ∧ Ex W1.I W'.I ∧ Inv i S') ⟨S, W1, r.step s1 ok1, z.trans r.ok s1, Ex.refl _, i0⟩
      (fun i σ' H' _ ⟨S', W', r', _, e', _⟩ => SqL.of (r'.ok.ex _ _ (e' _ _ ha))) ?_ ?_⟩
    · rintro i x σ' H' hx ⟨S', W', r', z', e', i'⟩
      obtain ⟨d, hd', nd⟩ := m.get hx
      refine hs i d S' hd' i' σ' W' H' x r' z' (nd.mono e') _ fun S2 σ2 W2 H2 r2 z2 e2 q2 => ?_
      exact q2 σ2 W2 H2 r2 z2 _ ⟨fun S3 σ3 W3 H3 r3 z3 e3 q3 => ⟨S3, W3, r3, z3, (e'.trans e2).trans e3, q3⟩, fun d3 v3 W3 H3 r3 z3 e3 n3 q3 => k.rt d3 v3 W3 H3 r3 z3 (((s1.I.trans e').trans e2).trans e3) n3 q3,
        fun S3 σ3 W3 H3 r3 z3 e3 q3 => k.nx S3 σ3 W3 H3 r3 z3 (((s1.I.trans e').trans e2).trans e3) q3, fun S3 σ3 W3 H3 r3 z3 e3 q3 => ⟨S3, W3, r3, z3, (e'.trans e2).trans e3, q3⟩⟩
    · rintro σ' H' ⟨S', W', r', z', e', i'⟩
      rw [← m.length] at i'
      exact k.nx S' σ' W' H' r' z' (s1.I.trans e') (hd S' i')
theorem sd_forR {tg : Expr} {p pos1 : Pos} {n : Int} {body : List Stmt} (hp : PassesOwn (model X.prog X.w) X.A X.env X.xe) (hc : X.calm = true) (hm : X.mg "range" = none) (Inv : Nat → En → Prop) (h : AD X B S [e] fun as => as = [.val (.int n)] ∧ n < 2 ^ 62 ∧ -(2 ^ 62) ≤ n ∧ Inv 0 S)
    (hs : ∀ (i : Nat) S', i < n.toNat → Inv i S' → GD X B W0 S' tg (.int i) fun S2 => SDs X B W0 S2 body { nx := Inv (i + 1), rt := E.rt, bk := E.nx, ct := Inv (i + 1) })
    (hd : ∀ S', Inv n.toNat S' → E.nx S') (hg : Gl X "range" := by rfl) (hst : starEach [e] X.env = [(false, eval e X.env)] := by rfl) (hf : ∀ x, foldedSetIterable (.Call (.Name "range" p) [e] [] pos1) X.env x = pure x := by intro _; rfl) : SD X B W0 S (.For tg (.Call (.Name "range" p) [e] [] pos1) body [] pos) E := fun σ W H r z D' k => by
  refine PS.w (ps_for hp hc (pi_range1 hg hm wa_pa hst) wg_pg wss_pss hf) ?_
  refine h σ W H r _ fun as vs W1 H1 s1 ok1 n1 q1 => ?_
  obtain ⟨rfl, hn, hn2, i0⟩ := q1
  obtain ⟨v, rfl, m⟩ := one_arg n1
  cases m
  refine ⟨n, rfl, hn2, hn, for_range (lo := 0) (n := n.toNat) (fun i σ' H' => ∃ S' W', Rep X.K (gOf X) B S' σ' W' H' ∧ Stp W0 B W' H' ∧ Ex W1.I W'.I ∧ Inv i S') ⟨S, W1, r.step s1 ok1, z.trans r.ok s1, Ex.refl _, i0⟩ ?_ ?_⟩
  · rintro i σ' H' hi ⟨S', W', r', z', e', i'⟩
    rw [Int.zero_add]
    refine hs i S' hi i' σ' W' H' _ r' z' (.int _) _ fun S2 σ2 W2 H2 r2 z2 e2 q2 => ?_
    exact q2 σ2 W2 H2 r2 z2 _ ⟨fun S3 σ3 W3 H3 r3 z3 e3 q3 => ⟨S3, W3, r3, z3, (e'.trans e2).trans e3, q3⟩, fun d3 v3 W3 H3 r3 z3 e3 n3 q3 => k.rt d3 v3 W3 H3 r3 z3 (((s1.I.trans e').trans e2).trans e3) n3 q3,
      fun S3 σ3 W3 H3 r3 z3 e3 q3 => k.nx S3 σ3 W3 H3 r3 z3 (((s1.I.trans e').trans e2).trans e3) q3, fun S3 σ3 W3 H3 r3 z3 e3 q3 => ⟨S3, W3, r3, z3, (e'.trans e2).trans e3, q3⟩⟩
  · rintro σ' H' ⟨S', W', r', z', e', i'⟩
    exact k.nx S' σ' W' H' r' z' (s1.I.trans e') (hd S' i')
end

/-! ### a def by its body -/
def startE (N : List Str) (as : List Sl) : En := as.map some ++ List.replicate (N.length - as.length) none
theorem start_noT {K : PySem.W.Frag} {W : Wd} {N : List Str} {as : List Sl} {vs : List V} (h : Args K W as vs) (i : Nat) (l : List (List Key × D)) : (startE N as)[i]? ≠ some (some (.ownT l)) := by
  have key : ∀ {as : List Sl} {vs : List V} {n : Nat} {i : Nat}, Args K W as vs → (as.map some ++ List.replicate n none)[i]? = some (some (Sl.ownT l)) → False := by
    intro as vs n i h
    induction h generalizing i with
    | nil =>
      intro e
      simp only [List.map_nil, List.nil_append, List.getElem?_replicate] at e
      split at e <;> cases e
    | @cons a v as vs h1 _ ih =>
      intro e
      cases i with
      | zero =>
        simp only [List.map_cons, List.cons_append, List.getElem?_cons_zero, Option.some.injEq] at e
        subst e
        exact h1
      | succ i =>
        simp only [List.map_cons, List.cons_append, List.getElem?_cons_succ] at e
        exact ih e
  exact fun e => key h e
theorem rep_start {K : PySem.W.Frag} {g : List Code} {W : Wd} {H : Hp} {N : List Str} {as : List Sl} {vs : List V} (ok : Ok g W H) (h : Args K W as vs) : Rep K g H (startE N as) (L2.start N vs) W H := by
  have hl := Paired.length h
  refine ⟨ok, fun b hb => (ok.gd b hb).2.1, by unfold startE L2.start; simp [hl], fun i s e => ?_, fun i j l m p _ e => ?_, fun i j l m p _ e => absurd e (start_noT h i l)⟩
  · have key : ∀ {as : List Sl} {vs : List V} {n : Nat} {i : Nat} {s : Sl}, Args K W as vs → (as.map some ++ List.replicate n none)[i]? = some (some s) → ∃ v, (vs.map some ++ List.replicate n none)[i]? = some (some v) ∧ Arg K W s v := by
      intro as vs n i s h
      induction h generalizing i with
      | nil =>
        intro e
        simp only [List.map_nil, List.nil_append, List.getElem?_replicate] at e
        split at e <;> cases e
      | @cons a v as vs h1 _ ih =>
        intro e
        cases i with
        | zero =>
          simp only [List.map_cons, List.cons_append, List.getElem?_cons_zero, Option.some.injEq] at e
          subst e
          exact ⟨v, rfl, h1⟩
        | succ i =>
          simp only [List.map_cons, List.cons_append, List.getElem?_cons_succ] at e ⊢
          exact ih e
    unfold startE at e
    rw [show N.length - as.length = N.length - vs.length by rw [hl]] at e
    obtain ⟨v, e1, a1⟩ := key h e
    refine ⟨v, e1, ?_⟩
    cases s with
    | val d => exact a1
    | pot => exact a1
    | own l => exact a1.elim
    | inst _ _ _ _ => exact a1.elim
    | ownT _ => exact a1.elim
  · exfalso
    have key : ∀ {as : List Sl} {vs : List V} {n : Nat} {i : Nat}, Args K W as vs → (as.map some ++ List.replicate n none)[i]? = some (some (.own l)) → False := by
      intro as vs n i h
      induction h generalizing i with
      | nil =>
        intro e
        simp only [List.map_nil, List.nil_append, List.getElem?_replicate] at e
        split at e <;> cases e
      | @cons a v as vs h1 _ ih =>
        intro e
        cases i with
        | zero =>
          simp only [List.map_cons, List.cons_append, List.getElem?_cons_zero, Option.some.injEq] at e
          subst e
          exact h1
        | succ i =>
          simp only [List.map_cons, List.cons_append, List.getElem?_cons_succ] at e
          exact ih e
    exact key h e
section
variable {P : Program} {w : World} {K : PySem.W.Frag} {mg : Str → Option Value} {base : Heap}
theorem gOf_bx {N : List Str} {qual : Str} {st : Stmt} {f : Addr} {cdv : Value} {A : Around} {outer : List Env} {s : Shared} {H : Hp} {g : List Code} (h : A.guards = some g) : (Bx P w K mg base N qual st f cdv A outer s H).A.guards = some g ∧ gOf (Bx P w K mg base N qual st f cdv A outer s H) = g :=
  have e : (Bx P w K mg base N qual st f cdv A outer s H).A.guards = some g := deeper_guards h
  ⟨e, by unfold gOf; rw [e]; rfl⟩
theorem gn_dl {x qual : Str} {st : Stmt} {f : Addr} {fd : FuncData} {N ps : List Str} {k : Nat} {sp : SpD} (F : FunS K x qual st f fd) (hS : FnScope N ps (defScope st)) (len : ∀ as Q, sp as Q → as.length = ps.length)
    (body : ∀ cdv A outer s H, Room k (A.deeper (PyProof.Rows.envOfC qual (defScope st) s.heap.objs.size f cdv)) → (Bx P w K mg base N qual st f cdv A outer s H).A.guards = some (gOf (Bx P w K mg base N qual st f cdv A outer s H)) → ∀ W as Q, sp as Q → SDs (Bx P w K mg base N qual st f cdv A outer s H) H W (startE N as) (defBody st) { nx := fun _ => Q .non, rt := Q }) :
    GnOk P w K mg base (k + 1) f fd ps (lift K sp) := by
  refine gn_of F hS (fun g vs H Q h => ?_) (fun cdv A outer s H g vs R hr hG h => ?_)
  · obtain ⟨as, W, Qd, _, ha, hsp, _⟩ := h
    rw [← len _ _ hsp]
    exact (Paired.length ha).symm
  · obtain ⟨as, W, Qd, ok, ha, hsp, c⟩ := h
    obtain ⟨e1, e2⟩ := gOf_bx (P := P) (w := w) (K := K) (mg := mg) (base := base) (N := N) (qual := qual) (st := st) (f := f) (cdv := cdv) (outer := outer) (s := s) (H := H) hG
    refine ⟨WSs _ (defBody st), wss_pss, ?_⟩
    have bd := body cdv A outer s H hr (by rw [e2]; exact e1) W as Qd hsp
    refine bd (L2.start N vs) W H (by rw [e2]; exact rep_start ok ha) Stp.refl _ ?_
    rw [e2]
    exact ⟨fun S σ W' H' r z _ q => c .non .non W' H' z r.ok .non q, fun d v W' H' ok' z _ n q => c d v W' H' z ok' n q, fun _ _ _ _ _ _ _ q => q.elim, fun _ _ _ _ _ _ _ q => q.elim⟩
theorem df_of {x qual : Str} {st : Stmt} {f : Addr} {fd : FuncData} {ps : List Str} {k n : Nat} {sp : SpD} (F : FunS K x qual st f fd) (h : GnOk P w K mg base k f fd ps (lift K sp)) (hm : mg x = some (.ref f)) (hb : Binds K fd ps []) (hn : ps.length = n) : Df P w K mg base x k n sp :=
  ⟨f, fd, ps, h, hm, F.kp, hb, hn⟩
end
end DL

set_option Elab.async false
set_option linter.all false
set_option maxRecDepth 100000
set_option maxHeartbeats 2000000
namespace DL
open PySem L2

/-! ### lists that one name owns -/
theorem Ok.frz {g : List Code} {W : Wd} {H : Hp} {p : Addr} {o : HO} (ok : Ok g W H) (hp : H p = some o) (n : ¬ W.P p) (ng : ¬ InG g p) : Ok g (W.new p o) H where
  gd := fun b hb => by
    obtain ⟨n1, n2⟩ := ok.gd b hb
    refine ⟨?_, n2⟩
    show upd W.I p o b = none
    have ne : b ≠ p := fun z => ng (z ▸ hb)
    rw [upd_ne ne]
    exact n1
  ex := fun a u e => by
    have e' : upd W.I p o a = some u := e
    by_cases q : a = p
    · subst q
      rw [upd_same] at e'
      cases e'
      exact hp
    · rw [upd_ne q] at e'
      exact ok.ex a u e'
  pot := fun a pa => by
    obtain ⟨h, x⟩ := ok.pot a pa
    refine ⟨?_, x⟩
    show upd W.I p o a = none
    have ne : a ≠ p := fun z => n (z ▸ pa)
    rw [upd_ne ne]
    exact h
theorem Stp.frz {W W1 : Wd} {H H1 : Hp} {p : Addr} {o : HO} (a : Stp W H W1 H1) (hp : H p = none) (i : W1.I p = none) : Stp W H (W1.new p o) H1 where
  I := a.I.trans (Ex.new i)
  P := a.P
  keep := a.keep
  old := fun b u e t n => by
    show upd W1.I p o b = none
    rw [upd_ne (ne_of_none e hp)]
    exact a.old b u e t n
  oldP := a.oldP
/-- a new list, not yet part of what never changes -/
def ContF (K : PySem.W.Frag) (g : List Code) (W : Wd) (H : Hp) (Q : List D → Prop) (R : VK) : Prop := ∀ l p xs W' H', Stp W H W' H' → Ok g W' H' → H p = none → ¬ W'.P p → W'.I p = none → H' p = some (.lst xs) → Dns K W'.I l xs → Q l → R (.ref p) H'
def FD (X : Cx) (B : Hp) (S : En) (e : Expr) (Q : List D → Prop) : Prop := ∀ σ W H, Rep X.K (gOf X) B S σ W H → ∀ R, ContF X.K (gOf X) W H Q R → WE X e σ H R
/-- a tuple or a name: how an item comes to the names of a comprehension -/
def wipeE (S : En) : List Nat → En
  | [] => S
  | v :: vs => (wipeE S vs).set v none
theorem wipeE_some {S : En} {i : Nat} {x : Sl} : ∀ {vs : List Nat}, (wipeE S vs)[i]? = some (some x) → S[i]? = some (some x) ∧ i ∉ vs
  | [], h => ⟨h, by simp⟩
  | v :: vs, h => by
    unfold wipeE at h
    by_cases hi : v = i
    · subst hi
      by_cases hv : v < (wipeE S vs).length
      · rw [List.getElem?_set_self hv] at h; cases h
      · rw [List.getElem?_eq_none (by simpa using hv)] at h; cases h
    · rw [List.getElem?_set_ne hi] at h
      obtain ⟨h1, h2⟩ := wipeE_some h
      exact ⟨h1, by simp only [List.mem_cons, not_or]; exact ⟨fun e => hi e.symm, h2⟩⟩
theorem wipeE_length (S : En) : ∀ vs : List Nat, (wipeE S vs).length = S.length
  | [] => rfl
  | v :: vs => by unfold wipeE; rw [List.length_set, wipeE_length S vs]
theorem wipe_keep {σ : L2.St} {i : Nat} {x : V} : ∀ {vs : List Nat}, i ∉ vs → σ[i]? = some (some x) → (wipe σ vs)[i]? = some (some x)
  | [], _, h => h
  | v :: vs, hi, h => by
    unfold wipe
    simp only [List.mem_cons, not_or] at hi
    rw [List.getElem?_set_ne (fun e => hi.1 e.symm)]
    exact wipe_keep hi.2 h
theorem Rep.wipe {K : PySem.W.Frag} {g : List Code} {B : Hp} {S : En} {σ : L2.St} {W : Wd} {H : Hp} (r : Rep K g B S σ W H) (vs : List Nat) : Rep K g B (wipeE S vs) (L2.wipe σ vs) W H where
  ok := r.ok
  gb := r.gb
  len := by rw [wipeE_length, wipe_length]; exact r.len
  sl := fun i s e => by
    obtain ⟨e1, hi⟩ := wipeE_some e
    obtain ⟨v, e2, h⟩ := r.sl i s e1
    exact ⟨v, wipe_keep hi e2, h⟩
  dist := fun i j l m p n e1 e2 e3 => by
    obtain ⟨e1', _⟩ := wipeE_some e1
    obtain ⟨e2', hj⟩ := wipeE_some e2
    obtain ⟨e3', _⟩ := wipe_some e3
    intro e4
    obtain ⟨e4', _⟩ := wipe_some e4
    exact r.dist i j l m p n e1' e2' e3' e4'
  distT := fun i j l m p n e1 e2 e3 => by
    obtain ⟨e1', _⟩ := wipeE_some e1
    obtain ⟨e2', hj⟩ := wipeE_some e2
    obtain ⟨e3', _⟩ := wipe_some e3
    intro e4
    obtain ⟨e4', _⟩ := wipe_some e4
    exact r.distT i j l m p n e1' e2' e3' e4'
theorem wipe_set {σ : L2.St} {j : Nat} {x : Option V} : ∀ {vs : List Nat}, j ∈ vs → L2.wipe (σ.set j x) vs = L2.wipe σ vs
  | v :: vs, h => by
    unfold L2.wipe
    by_cases hv : j ∈ vs
    · rw [wipe_set hv]
    · have e : v = j := by
        rcases List.mem_cons.mp h with z | z
        · exact z.symm
        · exact absurd z hv
      subst e
      have key : ∀ ws : List Nat, v ∉ ws → L2.wipe (σ.set v x) ws = (L2.wipe σ ws).set v x := by
        intro ws
        induction ws with
        | nil => intro _; rfl
        | cons a ws ih =>
          intro hn
          simp only [List.mem_cons, not_or] at hn
          unfold L2.wipe
          rw [ih hn.2, List.set_comm _ _ (fun e => hn.1 e)]
      rw [key vs hv, List.set_set]
theorem wipe_wipe {σ : L2.St} {vs : List Nat} : L2.wipe (L2.wipe σ vs) vs = L2.wipe σ vs := by
  have key : ∀ ws : List Nat, (∀ w ∈ ws, w ∈ vs) → L2.wipe (L2.wipe σ ws) vs = L2.wipe σ vs := by
    intro ws
    induction ws with
    | nil => intro _; rfl
    | cons a ws ih =>
      intro h
      show L2.wipe ((L2.wipe σ ws).set a none) vs = _
      rw [wipe_set (h a List.mem_cons_self)]
      exact ih fun w hw => h w (List.mem_cons_of_mem _ hw)
  exact key vs fun _ h => h
/-- how the item d comes to the names in the slots vs: what the block then knows -/
def Pat (K : PySem.W.Frag) (g : TG) (vs : List Nat) (S : En) (d : D) (S' : En) : Prop := ∀ gs B σ W H v, Rep K gs B S σ W H → Dn K W.I d v → ∀ Q : L2.St → Hp → Prop, (∀ σ2, L2.wipe σ2 vs = L2.wipe σ vs → Rep K gs B S' σ2 W H → Q σ2 H) → g v (L2.wipe σ vs) H Q
theorem pat_name {K : PySem.W.Frag} {S : En} {d : D} {vs : List Nat} (j : Nat) (hj : j ∈ vs) : Pat K (gName j) vs S d ((wipeE S vs).set j (some (.val d))) := fun _ B σ W H v r n Q k =>
  k _ (by rw [wipe_set hj, wipe_wipe]) ((r.wipe vs).set n)
theorem pat_two {K : PySem.W.Frag} {S : En} {d d' : D} {vs : List Nat} (i j : Nat) (hi : i ∈ vs) (hj : j ∈ vs) : Pat K (gTup K 2 (gCons (gName i) (gCons (gName j) gNil))) vs S (.tup [d, d']) (((wipeE S vs).set i (some (.val d))).set j (some (.val d'))) := fun _ B σ W H v r n Q k => by
  cases n with
  | tup hp m =>
    cases m with
    | cons n1 m => cases m with
      | cons n2 m =>
        cases m
        exact ⟨_, _, rfl, SqT.of (r.ok.ex _ _ hp), rfl, _, _, rfl, _, _, rfl, rfl, k _ (by rw [wipe_set hj, wipe_set hi, wipe_wipe]) (((r.wipe vs).set n1).set n2)⟩
section
variable {X : Cx} {B : Hp} {W0 : Wd} {S : En} {e a b : Expr} {es : List Expr} {pos : Pos} {E : Ends'}
theorem ed_fd {Q : D → Prop} (h : FD X B S e fun l => Q (.lst l)) : ED X B S e Q := fun σ W H r R k => by
  refine h σ W H r R fun l p xs W' H' st ok hp n i hl d q => ?_
  exact k (.lst l) (.ref p) _ H' (st.frz hp i) (ok.frz hl n fun z => (r.ok.gd _ z).2.1 hp) (.lst (show upd W'.I p _ p = _ from upd_same) (d.mono (Ex.new i))) q
theorem fd_lst {Q : List D → Prop} (h : AD X B S es fun as => ∃ ds, as = ds.map Sl.val ∧ ds.length ≤ 100000 ∧ Q ds) : FD X B S (.List es pos) Q := fun σ W H r R k => by
  refine PE.w (pe_lst wa_pa) ?_
  refine h σ W H r _ fun as vs W1 H1 s1 ok1 n1 q1 => ?_
  obtain ⟨ds, rfl, hl, q1⟩ := q1
  have n := n1.vals
  refine ⟨Nat.le_trans (n.length ▸ hl) (by decide), fun p hp => ?_⟩
  exact k ds p vs W1 _ (s1.trans ok1 (Stp.own hp)) (ok1.own hp) (s1.free ok1 hp) (ok1.notP hp) (ok1.free hp) upd_same n q1
/-- x = a new list, which x owns -/
theorem Rep.setOwn {K : PySem.W.Frag} {g : List Code} {σ : L2.St} {W : Wd} {H : Hp} {i : Nat} {l : List D} {p : Addr} {xs : List V} (r : Rep K g B S σ W H) (hB : B p = none) (n : ¬ W.P p) (hi : W.I p = none) (hp : H p = some (.lst xs)) (d : Dns K W.I l xs)
    (new : ∀ (j : Nat) (m : List D), S[j]? = some (some (.own m)) → σ[j]? ≠ some (some (.ref p))) : Rep K g B (S.set i (some (.own l))) (σ.set i (some (.ref p))) W H where
  ok := r.ok
  gb := r.gb
  len := by simpa using r.len
  sl := fun j s e => by
    by_cases q : i = j
    · subst q
      by_cases z : i < S.length
      · rw [List.getElem?_set_self z] at e
        cases e
        exact ⟨_, List.getElem?_set_self (r.len ▸ z), p, xs, rfl, hB, n, hi, hp, d⟩
      · rw [List.getElem?_eq_none (by simpa using z)] at e
        cases e
    · rw [List.getElem?_set_ne q] at e ⊢
      exact r.sl j s e
  dist := fun a b la lb q ne e1 e2 e3 => by
    by_cases qa : i = a
    · subst qa
      have lt : i < σ.length := by
        rcases Nat.lt_or_ge i σ.length with z | z
        · exact z
        · rw [List.getElem?_eq_none (by simpa using z)] at e3; cases e3
      rw [List.getElem?_set_self lt] at e3
      cases e3
      rw [List.getElem?_set_ne ne] at e2 ⊢
      exact new b lb e2
    · rw [List.getElem?_set_ne qa] at e1 e3
      by_cases qb : i = b
      · subst qb
        intro e4
        have lt : i < σ.length := by
          rcases Nat.lt_or_ge i σ.length with z | z
          · exact z
          · rw [List.getElem?_eq_none (by simpa using z)] at e4; cases e4
        rw [List.getElem?_set_self lt] at e4
        cases e4
        exact new a la e1 e3
      · rw [List.getElem?_set_ne qb] at e2 ⊢
        exact r.dist a b la lb q ne e1 e2 e3
  distT := r.distT.set i fun l z => by cases z
theorem sd_own {x : Str} {pos' : Pos} (i : Nat) (hN : X.N.Nodup) (hi : X.N[i]? = some x) (h : FD X B S e fun l => E.nx (S.set i (some (.own l)))) (hx : Loc X.env.scope x := by first | exact Or.inl rfl | exact Or.inr rfl)
    (hs : swapsWith e (some (.Name x pos')) pos.line X.env = pure false := by rfl) (hf : X.fn x = true ∨ X.env.scope.names.lookup x = some .local := by first | exact .inl rfl | exact .inr rfl) : SD X B W0 S (.Assign [.Name x pos'] e pos) E := fun σ W H r z D' k =>
  PS.w (ps_set hN hi hx we_pe hs hf) (h σ W H r _ fun l p xs W1 H1 s1 ok1 hp n i1 hl d q1 => k.nx _ _ W1 H1 ((r.step s1 ok1).setOwn (z.free r.ok hp) n i1 hl d fun j m e1 e2 => by
    obtain ⟨v, e3, p2, ys, e4, _, _, _, h4, _⟩ := r.sl j _ e1
    rw [e2] at e3
    cases e3
    cases e4
    rw [hp] at h4
    cases h4) (z.trans r.ok s1) s1.I q1)
/-- x.append(e), x the owner of its list -/
theorem sd_append {x : Str} {px apos cpos : Pos} (i : Nat) (l : List D) (hN : X.N[i]? = some x) (h : S[i]? = some (some (.own l))) (hl : l.length < 100000) (he : ED X B S e fun d => E.nx (S.set i (some (.own (l ++ [d])))))
    (hv : Vis X.env.scope x := by first | exact Or.inl rfl | exact Or.inr (Or.inl rfl) | exact Or.inr (Or.inr rfl)) (hd : (x == ("__debug__" : Str)) = false := by decide) (hcd : (x == ("__classdict__" : Str)) = false := by decide)
    (hps : PE X (.Call (.Attribute (.Name x px) "append" apos) [e] [] cpos) (tBM X.K "list" rAppend (tVar i) (tCons (WE X e) tNil)) := by
      exact pe_bm PySem.F.plainAttrs_list PySem.F.slot_list_append PySem.F.type_list_append mt_append (pe_var (by rfl) (by first | exact Or.inl rfl | exact Or.inr (Or.inl rfl) | exact Or.inr (Or.inr rfl))) (pa_cons DL.we_pe pa_nil))
    (hs : swapsWith (.Call (.Attribute (.Name x px) "append" apos) [e] [] cpos) none pos.line X.env = pure false := by rfl) : SD X B W0 S (.Expr (.Call (.Attribute (.Name x px) "append" apos) [e] [] cpos) pos) E := fun σ W H r z D' k => by
  refine PS.w (ps_expr hps hs) ?_
  obtain ⟨v, e1, p, xs, ev, hB, n, hI, hH, d0⟩ := r.sl i _ h
  subst ev
  refine ⟨_, e1, .inl ⟨rfl, _, SqL.of hH⟩, ?_⟩
  refine he σ W H r _ fun d v W1 H1 s1 ok1 n1 q1 => ?_
  have hH1 : H1 p = some (.lst xs) := s1.keep _ _ hH n
  have nP : ¬ W1.P p := fun q => n (s1.oldP p _ hH q)
  have hI1 : W1.I p = none := s1.old p _ hH (fun _ z => by cases z) hI
  refine ⟨p, xs, v, rfl, rfl, hH1, Nat.lt_of_lt_of_le (d0.length ▸ hl) (by decide), ?_⟩
  have ok2 : Ok (gOf X) W1 (upd H1 p (.lst (xs ++ [v]))) := {
    gd := fun b hb => by
      obtain ⟨n1, n2⟩ := ok1.gd b hb
      refine ⟨n1, ?_⟩
      by_cases q : b = p
      · subst q
        rw [upd_same]
        exact ⟨(fun z => by cases z), (fun _ z => by cases z)⟩
      · rw [upd_ne q]
        exact n2
    ex := fun b o hb => by
      rw [upd_ne (fun y => by rw [y, hI1] at hb; cases hb)]
      exact ok1.ex b o hb
    pot := fun b hb => by
      obtain ⟨nb, y2, w2, h2⟩ := ok1.pot b hb
      have ne : b ≠ p := fun y => nP (y ▸ hb)
      exact ⟨nb, y2, w2, by rw [upd_ne ne]; exact h2⟩ }
  have z1 := z.trans r.ok s1
  have z2 : Stp W0 B W1 (upd H1 p (.lst (xs ++ [v]))) := ⟨z1.I, z1.P, fun b o hb hn => by rw [upd_ne (ne_of_none hb hB)]; exact z1.keep b o hb hn, z1.old, z1.oldP⟩
  have r1 := r.step s1 ok1
  have lt : i < S.length := (List.getElem?_eq_some_iff.mp h).1
  refine k.nx _ σ W1 _ ?_ z2 s1.I q1
  refine ⟨ok2, r.gb, by simpa using r.len, fun j s ej => ?_, fun a b la lb q ne e2 e3 e4 => ?_, r.distT.setS i fun l z => by cases z⟩
  · by_cases q : i = j
    · subst q
      rw [List.getElem?_set_self lt] at ej
      cases ej
      exact ⟨_, e1, p, _, rfl, hB, nP, hI1, upd_same, (d0.mono s1.I).append (.cons n1 .nil)⟩
    · rw [List.getElem?_set_ne q] at ej
      obtain ⟨v2, e2, h2⟩ := r1.sl j s ej
      refine ⟨v2, e2, ?_⟩
      cases s with
      | val d2 => exact h2
      | pot => exact h2
      | own m =>
        obtain ⟨p2, ys, rfl, b1, b2, b3, b4, b5⟩ := h2
        refine ⟨p2, ys, rfl, b1, b2, b3, ?_, b5⟩
        rw [upd_ne (fun y => by
          rw [y] at e2
          exact r.dist i j l m p q h ej e1 e2)]
        exact b4
      | ownT m =>
        obtain ⟨p2, ys, rfl, b1, b2, b3, b4, b5⟩ := h2
        refine ⟨p2, ys, rfl, b1, b2, b3, ?_, b5⟩
        rw [upd_ne (fun y => by rw [y, hH1] at b4; cases b4)]
        exact b4
      | inst C p2 dx fs =>
        obtain ⟨vs, rfl, b1, b2, b3, b4, b5, b6, b7, b8, b9, b10⟩ := h2
        refine ⟨vs, rfl, b1, b2, b3, b4, b5, b6, b7, ?_, ?_, b10⟩
        · rw [upd_ne (fun y => by rw [y, hH1] at b8; cases b8)]
          exact b8
        · rw [upd_ne (fun y => by rw [y, hH1] at b9; cases b9)]
          exact b9
  · have g : ∀ {c : Nat} {m : List D}, (S.set i (some (.own (l ++ [d]))))[c]? = some (some (.own m)) → ∃ m', S[c]? = some (some (.own m')) := fun {c m} ec => by
      by_cases q2 : i = c
      · subst q2
        exact ⟨l, h⟩
      · rw [List.getElem?_set_ne q2] at ec
        exact ⟨m, ec⟩
    obtain ⟨m1, g1⟩ := g e2
    obtain ⟨m2, g2⟩ := g e3
    exact r.dist a b m1 m2 q ne g1 g2 e4
/-- what a name owns is given away: from here on it never changes -/
theorem sds_frz {sts : List Stmt} (i : Nat) (l : List D) (h : S[i]? = some (some (.own l))) (k : SDs X B W0 (S.set i (some (.val (.lst l)))) sts E) : SDs X B W0 S sts E := fun σ W H r z D' q => by
  obtain ⟨v, e1, p, xs, ev, hB, n, hI, hH, d0⟩ := r.sl i _ h
  subst ev
  have st : Stp W0 B (W.new p (.lst xs)) H := z.frz hB hI
  have ok := r.ok.frz hH n fun z => r.gb _ z hB
  have lt : i < S.length := (List.getElem?_eq_some_iff.mp h).1
  refine k σ (W.new p (.lst xs)) H ?_ st D' (q.mono (Ex.new hI))
  refine ⟨ok, r.gb, by simpa using r.len, fun j s ej => ?_, fun a b la lb c ne e2 e3 e4 => ?_, r.distT.setS i fun l z => by cases z⟩
  · by_cases y : i = j
    · subst y
      rw [List.getElem?_set_self lt] at ej
      cases ej
      exact ⟨_, e1, .lst (show upd W.I p _ p = _ from upd_same) (d0.mono (Ex.new hI))⟩
    · rw [List.getElem?_set_ne y] at ej
      obtain ⟨v2, e2, h2⟩ := r.sl j s ej
      refine ⟨v2, e2, ?_⟩
      cases s with
      | val d2 => exact Dn.mono (Ex.new hI) h2
      | pot => exact h2
      | own m =>
        obtain ⟨p2, ys, rfl, b1, b2, b3, b4, b5⟩ := h2
        refine ⟨p2, ys, rfl, b1, b2, ?_, b4, b5.mono (Ex.new hI)⟩
        show upd W.I p _ p2 = none
        rw [upd_ne (fun y2 => by
          rw [y2] at e2
          exact r.dist i j l m p y h ej e1 e2)]
        exact b3
      | ownT m =>
        obtain ⟨p2, ys, rfl, b1, b2, b3, b4, b5⟩ := h2
        refine ⟨p2, ys, rfl, b1, b2, ?_, b4, b5.mono (Ex.new hI)⟩
        show upd W.I p _ p2 = none
        rw [upd_ne (fun y2 => by rw [y2, hH] at b4; cases b4)]
        exact b3
      | inst C p2 dx fs =>
        obtain ⟨vs, rfl, b1, b2, b3, b4, b5, b6, b7, b8, b9, b10⟩ := h2
        refine ⟨vs, rfl, b1, b2, b3, b4, b5, ?_, ?_, b8, b9, b10.mono (Ex.new hI)⟩
        · show upd W.I p _ p2 = none
          rw [upd_ne (fun y => by rw [y, hH] at b8; cases b8)]
          exact b6
        · show upd W.I p _ dx = none
          rw [upd_ne (fun y => by rw [y, hH] at b9; cases b9)]
          exact b7
  · have g : ∀ {c : Nat} {m : List D}, (S.set i (some (.val (.lst l))))[c]? = some (some (.own m)) → S[c]? = some (some (.own m)) := fun {c m} ec => by
      by_cases q2 : i = c
      · subst q2
        rw [List.getElem?_set_self lt] at ec
        cases ec
      · rw [List.getElem?_set_ne q2] at ec
        exact ec
    exact r.dist a b la lb c ne (g e2) (g e3) e4

/-! ### comprehensions -/
/-- the weakest reading over all blocks -/
def WEb (X : Cx) (scope : Scope) (e : Expr) : TE := fun σ H Q => ∀ (s : Shared) (H0 : Hp) (C : Addr) (cl : List (Str × Addr)) (fp : List Addr), WE (X.blk s H0 scope (compEnvC scope cl C X.env) fp) e σ H Q
def WTb (X : Cx) (scope : Scope) (e : Expr) : TT := fun σ H Q => ∀ (s : Shared) (H0 : Hp) (C : Addr) (cl : List (Str × Addr)) (fp : List Addr), WT (X.blk s H0 scope (compEnvC scope cl C X.env) fp) e σ H Q
theorem web_pe {scope : Scope} (s : Shared) (H0 : Hp) (C : Addr) (cl : List (Str × Addr)) (fp : List Addr) : PE (X.blk s H0 scope (compEnvC scope cl C X.env) fp) e (WEb X scope e) := ⟨fun pins s2 _ _ _ I h => h s H0 C cl fp pins s2 I⟩
theorem wtb_pt {scope : Scope} (s : Shared) (H0 : Hp) (C : Addr) (cl : List (Str × Addr)) (fp : List Addr) : PT (X.blk s H0 scope (compEnvC scope cl C X.env) fp) e (WTb X scope e) := ⟨fun pins s2 _ _ _ I h => h s H0 C cl fp pins s2 I⟩
/-- at an address of one's own: the list so far -/
structure Mid (K : PySem.W.Frag) (g : List Code) (W1 : Wd) (H1 : Hp) (p : Addr) (l : List D) (W : Wd) (H : Hp) : Prop where
  st : Stp W1 H1 W H
  ok : Ok g W H
  n : ¬ W.P p
  i : W.I p = none
  h : ∃ xs, H p = some (.lst xs) ∧ Dns K W.I l xs
theorem Mid.step {K : PySem.W.Frag} {g : List Code} {W1 W W2 : Wd} {H1 H H2 : Hp} {p : Addr} {l : List D} (m : Mid K g W1 H1 p l W H) (a : Stp W H W2 H2) (ok : Ok g W2 H2) : Mid K g W1 H1 p l W2 H2 := by
  obtain ⟨xs, hp, d⟩ := m.h
  exact ⟨m.st.trans m.ok a, ok, fun z => m.n (a.oldP p _ hp z), a.old p _ hp (fun _ z => by cases z) m.i, xs, a.keep p _ hp m.n, d.mono a.I⟩
theorem Mid.more {K : PySem.W.Frag} {g : List Code} {W1 W : Wd} {H1 H : Hp} {p : Addr} {l : List D} {d : D} {v : V} (hp0 : H1 p = none) (m : Mid K g W1 H1 p l W H) (hd : Dn K W.I d v) (hl : l.length < 100000) :
    ∃ acc, H p = some (.lst acc) ∧ acc.length < sizeLine ∧ Mid K g W1 H1 p (l ++ [d]) W (upd H p (.lst (acc ++ [v]))) := by
  obtain ⟨xs, hp, ds⟩ := m.h
  refine ⟨xs, hp, Nat.lt_of_lt_of_le (ds.length ▸ hl) (by decide), ?_, ?_, m.n, m.i, _, upd_same, ds.append (.cons hd .nil)⟩
  · exact ⟨m.st.I, m.st.P, fun b o hb hn => by rw [upd_ne (ne_of_none hb hp0)]; exact m.st.keep b o hb hn, m.st.old, m.st.oldP⟩
  · exact {
      gd := fun b hb => by
        obtain ⟨n1, n2⟩ := m.ok.gd b hb
        refine ⟨n1, ?_⟩
        by_cases q : b = p
        · subst q
          rw [upd_same]
          exact ⟨(fun z => by cases z), (fun _ z => by cases z)⟩
        · rw [upd_ne q]
          exact n2
      ex := fun b o hb => by
        rw [upd_ne (fun y => by rw [y, m.i] at hb; cases hb)]
        exact m.ok.ex b o hb
      pot := fun b hb => by
        obtain ⟨nb, y2, w2, h2⟩ := m.ok.pot b hb
        have ne : b ≠ p := fun y => m.n (y ▸ hb)
        exact ⟨nb, y2, w2, by rw [upd_ne ne]; exact h2⟩ }
/-- [elt for g in a list], without a test -/
theorem fd_lcL {elt tg iter : Expr} {scope : Scope} {own : List (Str × Nat)} {g : TG} {l : List D} {Q : List D → Prop} (J : Nat → List D → Prop) (S' : D → En) (hc : X.calm = true) (hN : X.N.Nodup) (ok : BlkOk X.N X.env.scope scope own)
    (hg : ∀ (s : Shared) (H : Hp) (C : Addr) (cl : List (Str × Addr)) (fp : List Addr), PG (X.blk s H scope (compEnvC scope cl C X.env) fp) tg g)
    (h : ED X B S iter fun d => d = .lst l ∧ l.length ≤ 50000 ∧ J 0 []) (hp : ∀ d ∈ l, Pat X.K g (own.map (·.2)) S d (S' d))
    (he : ∀ (i : Nat) d acc, l[i]? = some d → acc.length = i → J i acc → ∀ (s : Shared) (H0 : Hp) (C : Addr) (cl : List (Str × Addr)) (fp : List Addr), ED (X.blk s H0 scope (compEnvC scope cl C X.env) fp) B (S' d) elt fun y => J (i + 1) (acc ++ [y]))
    (hd : ∀ acc, acc.length = l.length → J l.length acc → Q acc) (hs : ∀ x, foldedSetIterable iter X.env x = pure x := by intro _; rfl) : FD X B S (.ListComp elt [⟨tg, iter, [], 0⟩] scope pos) Q := fun σ W H r R k => by
  refine PE.w (pe_lc (te := WEb X scope elt) hc hN (pi_list we_pe) ok hg (fun _ _ _ _ _ => pts_nil) web_pe hs) ?_
  refine h σ W H r _ fun d v W1 H1 s1 ok1 n1 q1 => ?_
  obtain ⟨rfl, hz, j0⟩ := q1
  cases n1 with
  | @lst _ a xs ha m =>
    refine ⟨a, rfl, ⟨xs, SqL.of (ok1.ex _ _ ha)⟩, fun p hp0 => ?_⟩
    have r1 := r.step s1 ok1
    refine lc_list (K := X.K) (a := a) (xs := xs) (fun i H' => ∃ acc W', Mid X.K (gOf X) W1 H1 p acc W' H' ∧ acc.length = i ∧ J i acc) ⟨[], W1, ⟨Stp.own hp0, ok1.own hp0, ok1.notP hp0, ok1.free hp0, [], upd_same, .nil⟩, rfl, j0⟩
      (fun i H' _ ⟨acc, W', mm, _⟩ => SqL.of (mm.ok.ex _ _ (mm.st.I _ _ ha))) ?_ ?_
    · rintro i x H' hx ⟨acc, W', mm, hl, j⟩
      obtain ⟨d, hd', nd⟩ := m.get hx
      have r2 := r1.step mm.st mm.ok
      refine hp d (List.mem_of_getElem? hd') (gOf X) B σ W' H' x r2 (nd.mono mm.st.I) _ fun σ2 e2 r3 => ⟨e2, ?_⟩
      show WEb X scope elt σ2 H' _
      intro s H0 C cl fp
      refine he i d acc hd' hl j s H0 C cl fp σ2 W' H' r3 _ fun y v W2 H2 s2 ok2 n2 q2 => ?_
      have lt : i < l.length := (List.getElem?_eq_some_iff.mp hd').1
      obtain ⟨xs', e1, e3, m3⟩ := (mm.step s2 ok2).more hp0 n2 (by omega)
      exact ⟨xs', e1, e3, _, W2, m3, by simp [hl], q2⟩
    · rintro H' ⟨acc, W', mm, hl, j⟩
      obtain ⟨ys, hH, ds⟩ := mm.h
      rw [← m.length] at hl j
      exact k acc p ys W' H' (s1.trans ok1 mm.st) mm.ok (s1.free ok1 hp0) mm.n mm.i hH ds (hd acc hl j)
/-- .. over a range -/
theorem fd_lcR {elt tg : Expr} {p1 pos1 : Pos} {scope : Scope} {own : List (Str × Nat)} {n : Int} {Q : List D → Prop} (J : Nat → List D → Prop) (S' : D → En) {g : TG} (hc : X.calm = true) (hN : X.N.Nodup) (hm : X.mg "range" = none) (ok : BlkOk X.N X.env.scope scope own)
    (hg : ∀ (s : Shared) (H : Hp) (C : Addr) (cl : List (Str × Addr)) (fp : List Addr), PG (X.blk s H scope (compEnvC scope cl C X.env) fp) tg g)
    (h : AD X B S [e] fun as => as = [.val (.int n)] ∧ -(2 ^ 62) ≤ n ∧ n ≤ 50000 ∧ J 0 []) (hp : ∀ d, Pat X.K g (own.map (·.2)) S d (S' d))
    (he : ∀ (i : Nat) acc, (i : Int) < n → acc.length = i → J i acc → ∀ (s : Shared) (H0 : Hp) (C : Addr) (cl : List (Str × Addr)) (fp : List Addr), ED (X.blk s H0 scope (compEnvC scope cl C X.env) fp) B (S' (.int i)) elt fun y => J (i + 1) (acc ++ [y]))
    (hd : ∀ acc, acc.length = n.toNat → J n.toNat acc → Q acc) (hgl : Gl X "range" := by rfl) (hst : starEach [e] X.env = [(false, eval e X.env)] := by rfl)
    (hs : ∀ x, foldedSetIterable (.Call (.Name "range" p1) [e] [] pos1) X.env x = pure x := by intro _; rfl) : FD X B S (.ListComp elt [⟨tg, .Call (.Name "range" p1) [e] [] pos1, [], 0⟩] scope pos) Q := fun σ W H r R k => by
  refine PE.w (pe_lc (te := WEb X scope elt) hc hN (pi_range1 hgl hm wa_pa hst) ok hg (fun _ _ _ _ _ => pts_nil) web_pe hs) ?_
  refine h σ W H r _ fun as vs W1 H1 s1 ok1 n1 q1 => ?_
  obtain ⟨rfl, hz, hz2, j0⟩ := q1
  obtain ⟨v, rfl, m⟩ := one_arg n1
  cases m
  refine ⟨n, rfl, hz, by omega, fun p hp0 => ?_⟩
  have r1 := r.step s1 ok1
  refine lc_range (lo := 0) (n := n.toNat) (fun i H' => ∃ acc W', Mid X.K (gOf X) W1 H1 p acc W' H' ∧ acc.length = i ∧ J i acc) ⟨[], W1, ⟨Stp.own hp0, ok1.own hp0, ok1.notP hp0, ok1.free hp0, [], upd_same, .nil⟩, rfl, j0⟩ ?_ ?_
  · rintro i H' hi ⟨acc, W', mm, hl, j⟩
    rw [Int.zero_add]
    have r2 := r1.step mm.st mm.ok
    refine hp (.int i) (gOf X) B σ W' H' _ r2 (.int _) _ fun σ2 e2 r3 => ⟨e2, ?_⟩
    show WEb X scope elt σ2 H' _
    intro s H0 C cl fp
    refine he i acc (by omega) hl j s H0 C cl fp σ2 W' H' r3 _ fun y v W2 H2 s2 ok2 n2 q2 => ?_
    obtain ⟨xs', e1, e3, m3⟩ := (mm.step s2 ok2).more hp0 n2 (by omega)
    exact ⟨xs', e1, e3, _, W2, m3, by simp [hl], q2⟩
  · rintro H' ⟨acc, W', mm, hl, j⟩
    obtain ⟨ys, hH, ds⟩ := mm.h
    exact k acc p ys W' H' (s1.trans ok1 mm.st) mm.ok (s1.free ok1 hp0) mm.n mm.i hH ds (hd acc hl j)
end
end DL

set_option Elab.async false
set_option linter.all false
set_option maxRecDepth 100000
set_option maxHeartbeats 4000000
/-! operators of own classes, also with ints on either side -/
namespace OwnOps
open PySem PySem.W PySem.Calls
section
variable {prog : Program} {w : World} {A : Around} {E : Value → Shared → Prop} {s : Shared} {K : Frag} {x C f g : Addr} {ox : Obj} {od : Option Obj} {op : Operator} {i : Int} {t : Tok}
end
end OwnOps
namespace OwnOps
open PySem PySem.W PySem.Calls
section
variable {prog : Program} {w : World} {A : Around} {E : Value → Shared → Prop} {s : Shared} {K : Frag} {x C f g L : Addr} {ox : Obj} {od : Option Obj} {i : Int} {t : Tok} {h₀ : Heap} {m : Str → Option Value} {b tb : Value}
end
end OwnOps

set_option Elab.async false
set_option linter.all false
set_option maxRecDepth 100000
set_option maxHeartbeats 2000000
namespace DL
open PySem L2

/-! ### objects -/
/-- a method of the class at C -/
structure Mt (P : Program) (w : World) (K : PySem.W.Frag) (mg : Str → Option Value) (base : Heap) (C : Addr) (m : Str) (k : Nat) (sp : SpD) : Prop where
  ex : ∃ f fd ps, GnOk P w K mg base k f fd ps (lift K sp) ∧ Meth K C m f ∧ Binds K fd ps []
/-- a property of the class at C -/
structure Pr (P : Program) (w : World) (K : PySem.W.Frag) (mg : Str → Option Value) (base : Heap) (C : Addr) (m : Str) (k : Nat) (sp : SpD) : Prop where
  ex : ∃ p f fd ps, GnOk P w K mg base k f fd ps (lift K sp) ∧ PropOf K C m p f ∧ Binds K fd ps []
section
variable {X : Cx} {B : Hp} {S : En} {pos p apos : Pos} {Q : D → Prop} {e o : Expr} {es : List Expr} {x m f : Str} {k n : Nat} {sp : SpD} {C : Addr}
end

/-! ### objects made -/
abbrev SpI := List Sl → (List (Str × D) → Prop) → Prop
def liftI (K : PySem.W.Frag) (C : Addr) (sp : SpI) : SpG := fun g vs H R => ∃ (p dx : Addr) (us : List V) (H1 : Hp) (W : Wd) (as : List Sl) (Q : List (Str × D) → Prop), vs = .ref p :: us ∧ H = upd (upd H1 dx (.own p)) p (.ins C dx []) ∧ H1 p = none ∧ H1 dx = none ∧ dx ≠ p ∧
  Ok g W H1 ∧ Args K W as us ∧ sp as Q ∧ ∀ fs vs2 W' H', Stp W H1 W' H' → Ok g W' H' → ¬ W'.P p → W'.I p = none → H' p = some (.ins C dx vs2) → Dnf K W'.I fs vs2 → Q fs → R .non H'
/-- the class that the module calls x, at C; ds: what its last parameters are without arguments -/
structure Kl (P : Program) (w : World) (K : PySem.W.Frag) (mg : Str → Option Value) (base : Heap) (x : Str) (C : Addr) (k : Nat) (dds : List D) (sp : SpI) : Prop where
  ex : ∃ f fd ps dvs ds, GnOk P w K mg base k f fd ps (liftI K C sp) ∧ Mk K C f ∧ mg x = some (.ref C) ∧ Binds K fd ps ds ∧ Vals dvs ds ∧ ∀ I, Dns K I dds dvs
section
variable {X : Cx} {B : Hp} {S : En} {pos p apos : Pos} {Q : D → Prop} {e o : Expr} {es : List Expr} {x m f : Str} {k n : Nat} {sp : SpI} {C : Addr} {dds : List D}
end
/-! __init__ -/
def putD (f : Str) (d : D) : List (Str × D) → List (Str × D)
  | [] => [(f, d)]
  | (g, e) :: r => if g = f then (g, d) :: r else (g, e) :: putD f d r
def notInst : Option Sl → Bool
  | some (.inst _ _ _ _) => false
  | _ => true
section
variable {X : Cx} {B : Hp} {W0 : Wd} {S : En} {e : Expr} {pos p p1 : Pos} {E : Ends'} {x f : Str} {C : Addr}
end
section
variable {P : Program} {w : World} {K : PySem.W.Frag} {mg : Str → Option Value} {base : Heap}
end
end DL

set_option Elab.async false
set_option linter.all false
set_option maxRecDepth 100000
set_option maxHeartbeats 4000000
namespace DL
open PySem L2

/-! ### isinstance -/
/-- the class at C, as isinstance asks -/
structure Isi (K : PySem.W.Frag) (C : Addr) : Prop where
  cl : Cls K C
  ca : PySem.W.findIn K (.ref C) "__class__" = some (some (.builtin "object.__class__"))
  cn : PySem.W.specialIn K (.builtin "object.__class__") "__get__" = some (some (.builtin "getset_descriptor.__get__"))
  ct : PySem.W.takesIn K (.builtin "object.__class__") = some true
  cm : PySem.W.mroIn K C (.type "object") = some true
/-- the type of a datum -/
inductive TyD (K : PySem.W.Frag) : D → Value → Prop
  | non : TyD K .non (.type "NoneType")
  | bl (b) : TyD K (.bl b) (.type "bool")
  | int (i) : TyD K (.int i) (.type "int")
  | str (s) : TyD K (.str s) (.type "str")
  | tup (l) : TyD K (.tup l) (.type "tuple")
  | lst (l) : TyD K (.lst l) (.type "list")
  | obj {C} (fs) (h : Isi K C) : TyD K (.obj C fs) (.ref C)
  | dct : TyD K .dct (.type "dict")
  | dcK (l) : TyD K (.dcK l) (.type "dict")
theorem TyD.x {K : PySem.W.Frag} {W : Wd} {H : Hp} {d : D} {v : V} {t : Value} (h : TyD K d t) (ok : Ok g W H) (n : Dn K W.I d v) : TyX K H v t := by
  cases h with
  | non => cases n; exact .base .non
  | bl b => cases n; exact .base (.bl b)
  | int i => cases n; exact .base (.int i)
  | str s => cases n; exact .base (.str s)
  | tup l => cases n with | tup h _ => exact .base (.tup (ok.ex _ _ h))
  | lst l => cases n with | lst h _ => exact .base (.lst (ok.ex _ _ h))
  | obj fs i => cases n with | obj h _ => exact .base (.ins (ok.ex _ _ h) i.cl i.ca i.cn i.ct i.cm)
  | dct => cases n with | dct h => exact .base (.dK (ok.ex _ _ h))
  | dcK l => cases n with | dcK h _ => exact .base (.dK (ok.ex _ _ h))
/-- a class as a datum -/
inductive ClD : D → Value → Prop
  | ty (n) : ClD (.ty n) (.type n)
  | cls (C) : ClD (.cls C) (.ref C)
theorem ClD.v {K : PySem.W.Frag} {I : Hp} {d : D} {v : V} {u : Value} (h : ClD d u) (n : Dn K I d v) : ClsV v u := by
  cases h with
  | ty m => cases n; exact .ty m
  | cls C => cases n; exact .own C
section
variable {X : Cx} {B : Hp} {S : En} {pos p apos : Pos} {Q : D → Prop} {e o a b : Expr} {es : List Expr} {x m f : Str}
theorem ed_ty {n : String} (hm : X.mg x = none) (q : Q (.ty n)) (hv : bootBuiltins x = some (.type n) := by first | rfl | decide +kernel) (hg : Gl X x := by rfl) (hn : x ≠ "__name__" := by decide) (hd : (x == ("__debug__" : Str)) = false := by decide) : ED X B S (.Name x pos) Q := fun σ W H r R k =>
  PE.w (pe_bltn (v := .ty n) hg hm hv rfl hn hd) (k.now r.ok (.ty n) q)
theorem ed_cls {C : Addr} (hm : X.mg x = some (.ref C)) (q : Q (.cls C)) (hg : Gl X x := by rfl) (hd : (x == ("__debug__" : Str)) = false := by decide) : ED X B S (.Name x pos) Q := fun σ W H r R k =>
  PE.w (pe_glob (v := .ref C) hg hm rfl hd) (k.now r.ok (.cls C) q)
theorem ed_gint {i : Int} {t : Tok} (hm : X.mg x = some (.int i t)) (q : Q (.int i)) (hg : Gl X x := by rfl) (hd : (x == ("__debug__" : Str)) = false := by decide) : ED X B S (.Name x pos) Q := fun σ W H r R k =>
  PE.w (pe_glob (v := .int i) hg hm ⟨t, rfl⟩ hd) (k.now r.ok (.int i) q)
theorem cd_isi {d c : D} {t u : Value} {k : Bool} (ht : TyD X.K d t) (hc : ClD c u) (hk : PySem.W.kitOne X.K t u = some k) (q : Q (.bl k)) : CD X (.builtin "isinstance") [.val d, .val c] Q := cd_of call_isi fun vs W H ok ha R cc => by
  obtain ⟨v, w, rfl, h, h'⟩ := two_args ha
  exact ⟨v, w, t, u, k, rfl, hc.v h', ht.x ok h, hk, cc.now ok (.bl k) q⟩
theorem cd_isi2 {d c c' : D} {t u u' : Value} {k : Bool} (ht : TyD X.K d t) (hc : ClD c u) (hc' : ClD c' u') (hk : PySem.W.kitAny X.K t [u, u'] = some k) (q : Q (.bl k)) : CD X (.builtin "isinstance") [.val d, .val (.tup [c, c'])] Q := cd_of call_isiT fun vs W H ok ha R cc => by
  obtain ⟨v, w, rfl, h, h'⟩ := two_args ha
  cases h' with
  | tup hp m =>
    cases m with
    | cons h1 m => cases m with
      | cons h2 m =>
        cases m
        exact ⟨v, _, _, t, [u, u'], k, rfl, ok.ex _ _ hp, .cons (hc.v h1) (.cons (hc'.v h2) .nil), ht.x ok h, hk, cc.now ok (.bl k) q⟩
/-! ### numbers of any size, texts -/
def CDivG (i j : Int) : Prop := j ≠ 0 ∧ j.natAbs.log2 < 9000
theorem op_fdivG : OpR X (binaryOp .FloorDiv) (rI CDivG fun i j => .int (i.fdiv j)) := opI fun i j _ _ _ _ _ hc q => PyProof.Rows.floordiv_int hc.1 q (.inl (PyProof.noPylong_of_log2 hc.2))
theorem od_fdiv {i j : Int} (hc : CDivG i j) (q : Q (.int (i.fdiv j))) : OD X (binaryOp .FloorDiv) (.int i) (.int j) Q := od_I op_fdivG hc (fun _ _ => .int _) q
theorem od_mulS {i j : Int} (hc : (-(2 ^ 64) < i ∧ i < 2 ^ 64) ∨ (-(2 ^ 64) < j ∧ j < 2 ^ 64)) (q : Q (.int (i * j))) : OD X (binaryOp .Mult) (.int i) (.int j) Q := od_I op_mul hc (fun _ _ => .int _) q
theorem od_mod {i j : Int} (hc : 0 < j) (q : Q (.int (i % j))) : OD X (binaryOp .Mod) (.int i) (.int j) Q := od_I op_mod hc (fun _ _ => .int _) q
theorem od_pow {i j : Int} (hc : CPow i j) (q : Q (.int (i ^ j.toNat))) : OD X (binaryOp .Pow) (.int i) (.int j) Q := od_I op_pow hc (fun _ _ => .int _) q
/-- == and != of ints, of texts, of bools, of None -/
def scD : D → D → Bool
  | .int _, .int _ => true
  | .str _, .str _ => true
  | .bl _, .bl _ => true
  | _, _ => false
theorem od_eqi {i j : Int} (q : Q (.bl (decide (i = j)))) : OD X (compareOp .Eq) (.int i) (.int j) Q := by
  refine od_of op_eq fun v u W H ok h1 h2 R c => ?_
  cases h1; cases h2
  refine ⟨rfl, c.now ok (.bl _) ?_⟩
  have e : decide (V.int i = V.int j) = decide (i = j) := by by_cases z : i = j <;> simp [z]
  rw [e]
  exact q
theorem od_nei {i j : Int} (q : Q (.bl (!decide (i = j)))) : OD X (compareOp .NotEq) (.int i) (.int j) Q := by
  refine od_of op_ne fun v u W H ok h1 h2 R c => ?_
  cases h1; cases h2
  refine ⟨rfl, c.now ok (.bl _) ?_⟩
  have e : decide (V.int i = V.int j) = decide (i = j) := by by_cases z : i = j <;> simp [z]
  rw [e]
  exact q
theorem od_eqs {i j : Str} (q : Q (.bl (decide (i = j)))) : OD X (compareOp .Eq) (.str i) (.str j) Q := by
  refine od_of op_eq fun v u W H ok h1 h2 R c => ?_
  cases h1; cases h2
  refine ⟨rfl, c.now ok (.bl _) ?_⟩
  have e : decide (V.str i = V.str j) = decide (i = j) := by by_cases z : i = j <;> simp [z]
  rw [e]
  exact q
theorem od_nes {i j : Str} (q : Q (.bl (!decide (i = j)))) : OD X (compareOp .NotEq) (.str i) (.str j) Q := by
  refine od_of op_ne fun v u W H ok h1 h2 R c => ?_
  cases h1; cases h2
  refine ⟨rfl, c.now ok (.bl _) ?_⟩
  have e : decide (V.str i = V.str j) = decide (i = j) := by by_cases z : i = j <;> simp [z]
  rw [e]
  exact q
theorem od_isN {x : D} (q : Q (.bl (match x with | .non => true | _ => false))) : OD X (compareOp .Is) x .non Q := by
  refine od_of op_isN fun v u W H ok h1 h2 R c => ?_
  cases h2
  refine ⟨rfl, c.now ok (.bl _) ?_⟩
  cases h1 <;> exact q
theorem od_notN {x : D} (q : Q (.bl (match x with | .non => false | _ => true))) : OD X (compareOp .IsNot) x .non Q := by
  refine od_of op_notN fun v u W H ok h1 h2 R c => ?_
  cases h2
  refine ⟨rfl, c.now ok (.bl _) ?_⟩
  cases h1 <;> exact q
/-- lists joined, repeated -/
theorem od_catL {l m : List D} (hl : l.length + m.length ≤ 100000) (q : Q (.lst (l ++ m))) : OD X (binaryOp .Add) (.lst l) (.lst m) Q := by
  refine od_of op_cat fun v u W H ok h1 h2 R c => ?_
  cases h1 with
  | @lst _ _ xs a1 d1 => cases h2 with
    | @lst _ _ ys a2 d2 =>
      refine ⟨_, _, _, _, rfl, rfl, ok.ex _ _ a1, ok.ex _ _ a2, Nat.le_trans (by rw [← d1.length, ← d2.length]; exact hl) (by decide), fun p hp => ?_⟩
      have st := Stp.new (o := .lst (xs ++ ys)) ok hp
      exact c (.lst (l ++ m)) (.ref p) _ _ st (ok.new hp) (.lst (show upd W.I p _ p = _ from upd_same) ((d1.append d2).mono st.I)) q
end
end DL

set_option Elab.async false
set_option linter.all false
set_option maxRecDepth 100000
set_option maxHeartbeats 4000000
namespace DL
open PySem L2

/-! ### == and != of plain data -/
mutual
inductive PyD : D → PyData → Prop
  | non : PyD .non .none
  | bl (b) : PyD (.bl b) (.bool b)
  | int (i) : PyD (.int i) (.int i)
  | str (s) : PyD (.str s) (.str s)
  | lst {l ds} : PyDs l ds → PyD (.lst l) (.list ds)
  | tup {l ds} : PyDs l ds → PyD (.tup l) (.tuple ds)
inductive PyDs : List D → List PyData → Prop
  | nil : PyDs [] []
  | cons {d l p ps} : PyD d p → PyDs l ps → PyDs (d :: l) (p :: ps)
end
section
variable {K : PySem.W.Frag} {g : List Code} {W : Wd} {H : Hp}
mutual
theorem PyD.dp (ok : Ok g W H) : ∀ {d : D} {p : PyData} {v : V}, PyD d p → Dn K W.I d v → Dp K H v p
  | _, _, _, .non, .non => .non
  | _, _, _, .bl b, .bl _ => .bl b
  | _, _, _, .int i, .int _ => .int i
  | _, _, _, .str s, .str _ => .str s
  | _, _, _, .lst h, .lst a n => .lst (SqL.of (ok.ex _ _ a)) (PyDs.dp ok h n)
  | _, _, _, .tup h, .tup a n => .tup (SqT.of (ok.ex _ _ a)) (PyDs.dp ok h n)
theorem PyDs.dp (ok : Ok g W H) : ∀ {l : List D} {ps : List PyData} {xs : List V}, PyDs l ps → Dns K W.I l xs → DpAll K H xs ps
  | _, _, _, .nil, .nil => .nil
  | _, _, _, .cons h r, .cons n m => .cons (PyD.dp ok h n) (PyDs.dp ok r m)
end
end
section
variable {X : Cx} {B : Hp} {S : En} {pos p apos : Pos} {Q : D → Prop} {x y : D} {d e : PyData}
theorem od_eqd (hu : X.A.units + 64 < cLine) (h1 : PyD x d) (h2 : PyD y e) (s1 : SeqAt.shaped d = true) (s2 : SeqAt.shaped e = true) (q : Q (.bl (PyData.eqv d e))) : OD X (compareOp .Eq) x y Q :=
  od_of (op_eqD hu) fun v u W H ok n1 n2 R c => ⟨d, e, h1.dp ok n1, h2.dp ok n2, s1, s2, c.now ok (.bl _) q⟩
theorem od_ned (hu : X.A.units + 64 < cLine) (h1 : PyD x d) (h2 : PyD y e) (s1 : SeqAt.shaped d = true) (s2 : SeqAt.shaped e = true) (q : Q (.bl (!PyData.eqv d e))) : OD X (compareOp .NotEq) x y Q :=
  od_of (op_neD hu) fun v u W H ok n1 n2 R c => ⟨d, e, h1.dp ok n1, h2.dp ok n2, s1, s2, c.now ok (.bl _) q⟩
end

/-! ### operators of own classes -/
/-- a class whose instances stand beside ints -/
structure Num (K : PySem.W.Frag) (C : Addr) : Prop where
  cl : Cls K C
  sf : PySem.W.selfFirst K C = true
  nf : PySem.W.notFirst K C (.ref C) = true
  ni : PySem.W.notFirst K C (.type "int") = true
  si : PySem.W.subIn K (.type "int") (.ref C) = some false
  is : PySem.W.subIn K (.ref C) (.type "int") = some false
  ob : PySem.W.subIn K (.ref C) (.type "object") = some true
/-- a special method of the class at C -/
structure Sm (P : Program) (w : World) (K : PySem.W.Frag) (mg : Str → Option Value) (base : Heap) (C : Addr) (m : Str) (k : Nat) (sp : SpD) : Prop where
  ex : ∃ f fd ps, GnOk P w K mg base k f fd ps (lift K sp) ∧ PySem.W.findIn K (.ref C) m = some (some (.ref f)) ∧ PySem.W.isFn K (.ref f) = true ∧ Binds K fd ps []
section
variable {X : Cx} {B : Hp} {S : En} {pos p apos : Pos} {Q : D → Prop} {C : Addr} {k k' : Nat} {sp sp' : SpD} {fs gs : List (Str × D)}
end
end DL

set_option Elab.async false
set_option linter.all false
set_option maxRecDepth 100000
set_option maxHeartbeats 4000000
namespace DL
open PySem L2
section
variable {X : Cx} {B : Hp} {S : En} {pos p apos : Pos} {Q : D → Prop} {C : Addr} {k k' : Nat} {sp sp' : SpD} {fs gs : List (Str × D)} {e a : Expr} {es : List Expr} {x m : Str}
end
end DL

set_option Elab.async false
set_option linter.all false
set_option maxRecDepth 100000
set_option maxHeartbeats 2000000
/-! calls by keywords, class methods, calls of a class that a local name holds, the guards known -/
namespace DL
open PySem PySem.Spec PyProof.Rows L2 ClX
section
variable {X : Cx} {k n : Nat} {f C p0 : Addr} {fd : FuncData} {ps ks : List Str} {sp : SpG} {x m : Str} {p pos apos : Pos} {e o : Expr} {es : List Expr} {kws : List Keyword} {g : List Code} {gf : List Value → List Value → List Value} {gV : List V → List V → List V} {mc : Value}
/-- the weakest reading of keywords -/
def WK (X : Cx) (kws : List Keyword) : TA := fun σ H Q => ∀ pos pins s, Inv X pins σ H s → wpAny (model X.prog X.w) X.A (evalAll ((backToKw pos (keywordEach kws X.env)).map (·.2))) (AP X pins σ Q) X.xe s
theorem wk_pk : PK X kws (WK X kws) := ⟨fun pos pins s _ _ _ I h => h pos pins s I⟩
theorem PK.w {t : TA} (h : PK X kws t) {σ : L2.St} {H : Hp} {Q : List V → Hp → Prop} (q : t σ H Q) : WK X kws σ H Q := fun pos pins s I => h.run pos pins s σ H Q I q
end
end DL

set_option Elab.async false
set_option linter.all false
set_option maxRecDepth 100000
set_option maxHeartbeats 4000000
namespace DL
open PySem L2

/-! ### keywords -/
def KD (X : Cx) (B : Hp) (S : En) (kws : List Keyword) (Q : List Sl → Prop) : Prop := ∀ σ W H, Rep X.K (gOf X) B S σ W H → ∀ R, ContA X.K (gOf X) W H Q R → WK X kws σ H R
/-- C's __init__ by keywords ks alone: mid brings their values, and the defaults, into the parameters' order -/
structure KlK (P : Program) (w : World) (K : PySem.W.Frag) (mg : Str → Option Value) (base : Heap) (x : Str) (C : Addr) (k : Nat) (ks : List Str) (midD : List Sl → List Sl) (sp : SpI) : Prop where
  ex : ∃ f fd ps gf, ∃ mid : List V → List V, GnOk P w K mg base k f fd ps (liftI K C sp) ∧ Mk K C f ∧ mg x = some (.ref C) ∧ KBn K fd ps 1 ks gf (fun vs zs => vs ++ mid zs) ∧ ∀ W bs zs, Args K W bs zs → Args K W (midD bs) (mid zs)
structure MtK (P : Program) (w : World) (K : PySem.W.Frag) (mg : Str → Option Value) (base : Heap) (C : Addr) (m : Str) (k : Nat) (ks : List Str) (midD : List Sl → List Sl) (sp : SpD) : Prop where
  ex : ∃ f fd ps gf, ∃ mid : List V → List V, GnOk P w K mg base k f fd ps (lift K sp) ∧ Meth K C m f ∧ KBn K fd ps 1 ks gf (fun vs zs => vs ++ mid zs) ∧ ∀ W bs zs, Args K W bs zs → Args K W (midD bs) (mid zs)
/-- a class method -/
structure Cm (P : Program) (w : World) (K : PySem.W.Frag) (mg : Str → Option Value) (base : Heap) (C : Addr) (m : Str) (k : Nat) (sp : SpD) : Prop where
  ex : ∃ f fd ps p0 mc, GnOk P w K mg base k f fd ps (lift K sp) ∧ ClX.CRead K C mc ∧ ClX.CMet K C mc m p0 f ∧ Binds K fd ps []
structure CmK (P : Program) (w : World) (K : PySem.W.Frag) (mg : Str → Option Value) (base : Heap) (C : Addr) (m : Str) (k : Nat) (ks : List Str) (midD : List Sl → List Sl) (sp : SpD) : Prop where
  ex : ∃ f fd ps p0 mc gf, ∃ mid : List V → List V, GnOk P w K mg base k f fd ps (lift K sp) ∧ ClX.CRead K C mc ∧ ClX.CMet K C mc m p0 f ∧ KBn K fd ps 1 ks gf (fun vs zs => vs ++ mid zs) ∧ ∀ W bs zs, Args K W bs zs → Args K W (midD bs) (mid zs)
section
variable {X : Cx} {B : Hp} {S : En} {pos p apos kpos : Pos} {Q : D → Prop} {e o : Expr} {es : List Expr} {kws : List Keyword} {x m : Str} {nm : Option Str} {k : Nat} {C : Addr} {ks : List Str} {midD : List Sl → List Sl}
theorem kd_nil {Q : List Sl → Prop} (q : Q []) : KD X B S [] Q := fun σ W H r R c => PK.w pk_nil (c [] [] W H Stp.refl r.ok .nil q)
theorem kd_cons {Q : List Sl → Prop} (h : ED X B S e fun d => KD X B S kws fun as => Q (.val d :: as)) : KD X B S (⟨nm, e, kpos⟩ :: kws) Q := fun σ W H r R c => by
  refine PK.w (pk_cons we_pe wk_pk) ?_
  refine h σ W H r _ fun d v W1 H1 s1 ok1 n1 q1 => ?_
  refine q1 σ W1 H1 (r.step s1 ok1) _ fun as vs W2 H2 s2 ok2 n2 q2 => ?_
  exact c (.val d :: as) (v :: vs) W2 H2 (s1.trans ok1 s2) ok2 (.cons (show Arg X.K W2 (.val d) v from n1.mono s2.I) n2) q2
end

/-! ### texts of data -/
open Classical in
/-- the heap cut down to what never changes -/
noncomputable def cut (I : Hp) (h : Heap) : Heap := { h with objs := h.objs.mapIdx fun i o => if I i = none then { o with data := .freed } else o }
theorem cut_get {I : Hp} {h : Heap} {b : Addr} (n : I b ≠ none) : (cut I h).get? b = h.get? b := by
  unfold cut Heap.get?
  simp only [Array.getElem?_mapIdx]
  cases h.objs[b]? with
  | none => rfl
  | some o => simp only [Option.map_some, if_neg n]
theorem cut_in {I : Hp} {h : Heap} {b : Addr} {o : Obj} (e : (cut I h).get? b = some o) : h.get? b = some o ∧ I b ≠ none := by
  by_cases n : I b = none
  · exfalso
    unfold cut Heap.get? at e
    simp only [Array.getElem?_mapIdx] at e
    cases q : h.objs[b]? with
    | none => rw [q] at e; cases e
    | some o => rw [q] at e; simp only [Option.map_some, if_pos n] at e; cases e
  · exact ⟨by rw [← cut_get n]; exact e, n⟩
section
variable {X : Cx} {pins : List (Addr × Obj)} {σ : L2.St} {W : Wd} {H : Hp} {s : Shared} {g : List Code}
mutual
theorem PyD.reads (I : Inv X pins σ H s) (ok : Ok g W H) : ∀ {d : D} {p : PyData} {v : V} {u : Value}, PyD d p → Dn X.K W.I d v → RelV v u → ∃ as, Reads (cut W.I s.heap) u p as
  | _, _, _, _, .non, .non, r => by cases r; exact ⟨_, .none⟩
  | _, _, _, _, .bl b, .bl _, r => by cases r; exact ⟨_, .bool b⟩
  | _, _, _, _, .int i, .int _, r => by obtain ⟨t, rfl⟩ := r; exact ⟨_, .int i t⟩
  | _, _, _, _, .str x, .str _, r => by obtain ⟨t, rfl⟩ := r; exact ⟨_, .str x t⟩
  | _, _, _, _, .lst h, .lst (a := a) e m, r => by
    cases r
    obtain ⟨its, rv, ⟨o, n, ho, hc, _, hd⟩, _⟩ := I.list (SqL.of (ok.ex _ _ e))
    obtain ⟨as, q⟩ := PyDs.reads I ok h m rv
    exact ⟨_, Reads.list (by rw [cut_get (by rw [e]; exact fun z => by cases z)]; exact ho) hc hd q⟩
  | _, _, _, _, .tup h, .tup (a := a) e m, r => by
    cases r
    obtain ⟨its, rv, ⟨o, ho, hc, n, hd⟩, _⟩ := I.tuple (SqT.of (ok.ex _ _ e))
    obtain ⟨as, q⟩ := PyDs.reads I ok h m rv
    exact ⟨_, Reads.tuple (by rw [cut_get (by rw [e]; exact fun z => by cases z)]; exact ho) hc hd q⟩
theorem PyDs.reads (I : Inv X pins σ H s) (ok : Ok g W H) : ∀ {l : List D} {ps : List PyData} {xs : List V} {us : List Value}, PyDs l ps → Dns X.K W.I l xs → Vals xs us → ∃ as, ReadsAll (cut W.I s.heap) us ps as
  | _, _, _, _, .nil, .nil, r => by cases r; exact ⟨_, .nil⟩
  | _, _, _, _, .cons h t, .cons n m, r => by
    cases r with
    | cons r1 r2 =>
      obtain ⟨as, q1⟩ := PyD.reads I ok h n r1
      obtain ⟨bs, q2⟩ := PyDs.reads I ok t m r2
      exact ⟨_, .cons q1 q2⟩
end
mutual
theorem PyD.nodict : ∀ {d : D} {p : PyData}, PyD d p → p.hasDict = false
  | _, _, .non => rfl
  | _, _, .bl _ => rfl
  | _, _, .int _ => rfl
  | _, _, .str _ => rfl
  | _, _, .lst h => by simp only [PyData.hasDict]; exact PyDs.nodict h
  | _, _, .tup h => by simp only [PyData.hasDict]; exact PyDs.nodict h
theorem PyDs.nodict : ∀ {l : List D} {ps : List PyData}, PyDs l ps → PyData.hasDictAll ps = false
  | _, _, .nil => rfl
  | _, _, .cons h r => by simp only [PyData.hasDictAll, PyD.nodict h, PyDs.nodict r, Bool.or_self]
end
/-- what stands in the cut heap is no guard -/
theorem clears (ok : Ok g W H) {n : Nat} {bs : List Addr} (h : ReadAtMost (cut W.I s.heap) n bs) : ∀ b ∈ bs, Clear g b := fun b hb => by
  obtain ⟨d, as, r, _⟩ := h b hb
  refine clear_of fun z => ?_
  have n0 := (ok.gd b z).1
  cases r with
  | list e => exact (cut_in e).2 n0
  | tuple e => exact (cut_in e).2 n0
  | dict e => exact (cut_in e).2 n0
/-- repr of plain data -/
theorem repr_pl {A : Around} {E : Value → Shared → Prop} {Q : Value → Shared → Prop} {d : D} {p : PyData} {v : V} {u : Value} (I : Inv X pins σ H s) (ok : Ok g W H) (hG : A.guards = some g) (hu : A.units + (p.depth + 3) < cLine) (hp : PyD d p) (n : Dn X.K W.I d v) (r : RelV v u) (hs : p.showable = true) (hz : p.shown.length ≤ sizeLine)
    (q : ∀ h' t tk, (∀ b o, s.heap.get? b = some o → h'.get? b = some o) → Q (.str p.shown t) { s with heap := h', toks := tk }) : wpAny (model X.prog X.w) A (call (.builtin "repr") [u]) Q E s := by
  have kp : ∀ b o, (cut W.I s.heap).get? b = some o → s.heap.get? b = some o := fun b o e => (cut_in e).1
  obtain ⟨as, rd⟩ := hp.reads I ok n r
  have nd := hp.nodict
  cases rd with
  | none => exact PySem.P.repr_of_none (by simpa only [PyData.shown] using q s.heap _ _ fun _ _ e => e)
  | bool b => exact PySem.P.repr_of_bool (by simpa only [PyData.shown] using q s.heap _ _ fun _ _ e => e)
  | int i t => exact PySem.P.repr_of_int (by simpa [PyData.showable] using hs) (by simpa only [PyData.shown] using q s.heap _ _ fun _ _ e => e)
  | str x t => exact PySem.P.repr_of_str (by simpa only [PyData.shown] using q s.heap _ _ fun _ _ e => e) (by simpa only [PyData.shown] using hz)
  | @list a o vs n xs as h1 h2 h3 h4 =>
    simp only [PyData.shown] at hz q
    simp only [PyData.depth] at hu
    obtain ⟨bs, hb, hk⟩ := ReprAllK.of_readsAll (prog := X.prog) (w := X.w) h4 (by simpa [PyData.showable] using hs) (fun z => absurd z (by rw [show PyData.hasDictAll xs = false by simpa [PyData.hasDict] using nd]; exact Bool.false_ne_true)) (fun t ht => Nat.le_trans (listText_mem_le ht) hz)
    have rl : Reads (cut W.I s.heap) (.ref a) (.list xs) (a :: as) := .list h1 h2 h3 h4
    have hna : a ∉ bs := not_mem_of_deeper rl (by simp only [PyData.depth]; omega) hb
    have ca := clears ok (ReadAtMost.cons rl (by simp only [PyData.depth]; omega) hb)
    refine call_repr_slot (by omega) ⟨o, kp _ _ h1, h2⟩ F.slot_list_repr.toG ?_
    obtain ⟨l⟩ := vs
    cases l with
    | nil =>
      have h4' : ReadsAll (cut W.I s.heap) [] xs as := h4
      cases h4'
      simp only [PyData.shownAll, listText_nil] at q
      exact call_list_repr_empty ⟨o, kp _ _ h1, h2⟩ (kp _ _ h1) h3 ⟨_, _, rfl, q s.heap _ _ fun _ _ e => e⟩
    | cons y l =>
      exact call_list_reprK (A := A.in1) h1 h2 h3 hna (by simpa using hk.length_eq) (fun i y e => hk.item i y (by simpa using e)) hG ca (by show A.units + 1 + _ < cLine; omega) kp (fun h' u tk hk => ⟨_, _, rfl, q h' u tk hk⟩) hz
  | @tuple a o vs n xs as h1 h2 h3 h4 =>
    simp only [PyData.shown] at hz q
    simp only [PyData.depth] at hu
    obtain ⟨bs, hb, hk⟩ := ReprAllK.of_readsAll (prog := X.prog) (w := X.w) h4 (by simpa [PyData.showable] using hs) (fun z => absurd z (by rw [show PyData.hasDictAll xs = false by simpa [PyData.hasDict] using nd]; exact Bool.false_ne_true)) (fun t ht => Nat.le_trans (tupleText_mem_le ht) hz)
    have rl : Reads (cut W.I s.heap) (.ref a) (.tuple xs) as := .tuple h1 h2 h3 h4
    have hna : a ∉ bs := not_mem_of_deeper rl (by simp only [PyData.depth]; omega) hb
    have ca := clears ok (ReadAtMost.cons rl (by simp only [PyData.depth]; omega) hb)
    refine call_repr_slot (by omega) ⟨o, kp _ _ h1, h2⟩ F.slot_tuple_repr ?_
    exact call_tuple_reprK (A := A.in1) h1 h2 h3 hna hk hG ca (by show A.units + 1 + _ < cLine; omega) kp (fun h' u tk hk => ⟨_, _, rfl, q h' u tk hk⟩) hz
  | dict _ _ _ _ _ => simp [PyData.hasDict] at nd
end
section
variable {X : Cx} {B : Hp} {S : En} {pos p apos : Pos} {Q : D → Prop} {e o : Expr} {es : List Expr} {C : Addr} {k : Nat} {sp : SpD} {fs : List (Str × D)}
theorem cd_repr {d : D} {p : PyData} (hG : X.A.guards = some (gOf X)) (hu : X.A.units + (p.depth + 3) < cLine) (hp : PyD d p) (hs : p.showable = true) (hz : p.shown.length ≤ sizeLine) (q : Q (.str p.shown)) : CD X (.builtin "repr") [.val d] Q := fun vs W H ok ha R c pins s σ us I rv => by
  obtain ⟨v, rfl, n⟩ := one_arg ha
  cases rv with
  | cons r1 r2 =>
    cases r2
    exact repr_pl I ok hG hu hp n r1 hs hz fun h' t tk kp => ⟨.str _, H, I.kept kp, ⟨t, rfl⟩, c.now ok (.str _) q⟩
end
end DL

set_option Elab.async false
set_option linter.all false
set_option maxRecDepth 100000
set_option maxHeartbeats 4000000
namespace DL
open PySem L2
section
variable {X : Cx} {B : Hp} {S : En} {pos p apos : Pos} {Q : D → Prop} {e o : Expr} {es : List Expr} {C : Addr} {k : Nat} {sp : SpD} {fs : List (Str × D)}
open Builtin Builtin.Str in
def JD (X : Cx) (B : Hp) (S : En) : List Expr → Str → (D → Prop) → Prop
  | [], acc, Q => Q (.str acc)
  | e :: es, acc, Q => ED X B S e fun d => ∃ y, d = .str y ∧ (acc ++ y).length ≤ sizeLine ∧ JD X B S es (acc ++ y) Q
/-- tuple(x) of a list, of a tuple -/
theorem cd_tuple {l : List D} (q : Q (.tup l)) : CD X (.type "tuple") [.val (.lst l)] Q := cd_of call_tuple_of fun vs W H ok ha R c => by
  obtain ⟨v, rfl, h⟩ := one_arg ha
  cases h with
  | @lst _ a xs h m =>
    refine ⟨_, _, rfl, .inl ⟨SqL.of (ok.ex _ _ h), fun p hp => ?_⟩⟩
    have st := Stp.new (o := .tup xs) ok hp
    exact c (.tup l) (.ref p) _ _ st (ok.new hp) (.tup (show upd W.I p _ p = _ from upd_same) (m.mono st.I)) q
end

/-! ### a new list handed back; pots -/
abbrev SpN := List Sl → (List D → Prop) → Prop
def liftN (K : PySem.W.Frag) (sp : SpN) : SpG := fun g vs H R => ∃ as W Q, Ok g W H ∧ Args K W as vs ∧ sp as Q ∧ ContF K g W H Q R
structure Nf (P : Program) (w : World) (K : PySem.W.Frag) (mg : Str → Option Value) (base : Heap) (x : Str) (k : Nat) (sp : SpN) : Prop where
  ex : ∃ f fd ps, GnOk P w K mg base k f fd ps (liftN K sp) ∧ mg x = some (.ref f) ∧ PySem.W.keepIn K (.ref f) = true ∧ Binds K fd ps []
section
variable {X : Cx} {B : Hp} {W0 : Wd} {S : En} {pos p apos : Pos} {e o : Expr} {es : List Expr} {x : Str} {k : Nat}
theorem ContF.step {K : PySem.W.Frag} {g : List Code} {W W1 : Wd} {H H1 : Hp} {Q : List D → Prop} {R : VK} (c : ContF K g W H Q R) (a : Stp W H W1 H1) (ok : Ok g W1 H1) : ContF K g W1 H1 Q R := fun l p xs W' H' s ok' hp n i hl d q => c l p xs W' H' (a.trans ok s) ok' (a.free ok hp) n i hl d q
theorem fd_callN {sp : SpN} {Q : List D → Prop} (F : Nf X.prog X.w X.K X.mg X.base x k sp) (hr : Room k X.A) (hG : X.A.guards = some (gOf X)) (h : AD X B S (e :: es) fun as => sp as Q) (hg : Gl X x := by rfl) (hdb : (x == ("__debug__" : Str)) = false := by decide)
    (he : starEach (e :: es) X.env = (false, eval e X.env) :: starEach es X.env := by rfl) (hpl : (backTo pos (starEach es X.env)).any (·.1) = false := by rfl) : FD X B S (.Call (.Name x p) (e :: es) [] pos) Q := fun σ W H r R c => by
  obtain ⟨f, fd, ps, F, hm, hk, hb⟩ := F.ex
  refine we_call F hr hG hg hm hk hb .nil ?_ hdb he hpl
  refine h σ W H r _ fun as vs W1 H1 s1 ok1 n1 q1 => ?_
  rw [List.append_nil]
  exact ⟨as, W1, Q, ok1, n1, q1, c.step s1 ok1⟩
/-- two ints in a list of one's own: a pot -/
theorem Ok.pot2 {g : List Code} {W : Wd} {H : Hp} {q : Addr} {x y : Int} (ok : Ok g W H) (i : W.I q = none) (h : H q = some (.lst [.int x, .int y])) (hy : 0 ≤ y ∧ y < 2 ^ 31) : Ok g ⟨W.I, fun b => W.P b ∨ b = q⟩ H :=
  ⟨ok.gd, ok.ex, fun a pa => pa.elim (ok.pot a) fun z => by subst z; exact ⟨i, x, y, h, hy⟩⟩
theorem Stp.pot2 {W W1 : Wd} {H H1 : Hp} {q : Addr} (a : Stp W H W1 H1) (hq : H q = none) : Stp W H ⟨W1.I, fun b => W1.P b ∨ b = q⟩ H1 :=
  ⟨a.I, fun b h => .inl (a.P b h), a.keep, a.old, fun b o hb z => z.elim (a.oldP b o hb) fun e => by rw [e, hq] at hb; cases hb⟩
theorem dns_two {K : PySem.W.Frag} {I : Hp} {a b : Int} {xs : List V} (h : Dns K I [.int a, .int b] xs) : xs = [.int a, .int b] := by
  cases h with
  | cons h r => cases h; cases r with
    | cons h r => cases h; cases r; rfl
theorem ad_newpot {Q : List Sl → Prop} (h : FD X B S e fun l => ∃ a b : Int, l = [.int a, .int b] ∧ (0 ≤ b ∧ b < 2 ^ 31) ∧ AD X B S es fun as => Q (.pot :: as)) (hs : starEach (e :: es) X.env = (false, eval e X.env) :: starEach es X.env := by rfl) : AD X B S (e :: es) Q := fun σ W H r R k => by
  refine PA.w (pa_cons we_pe wa_pa hs) ?_
  refine h σ W H r _ fun l q xs W1 H1 s1 ok1 hp n i hl d q1 => ?_
  obtain ⟨a, b, rfl, hab, q1⟩ := q1
  rw [dns_two d] at hl
  have ok2 := ok1.pot2 i hl hab
  have st2 := s1.pot2 hp
  refine q1 σ _ H1 (r.step st2 ok2) _ fun as vs W3 H3 s3 ok3 n3 q3 => ?_
  exact k (.pot :: as) (.ref q :: vs) W3 H3 (st2.trans ok2 s3) ok3 (.cons ⟨q, rfl, s3.P q (.inr rfl)⟩ n3) q3
end
/-- a block that ends by handing a new list back -/
def SN (X : Cx) (B : Hp) (W0 : Wd) (S : En) (sts : List Stmt) (Q : List D → Prop) : Prop := ∀ σ W H, Rep X.K (gOf X) B S σ W H → Stp W0 B W H → ∀ R, ContF X.K (gOf X) W0 B Q R → WSs X sts { nx := fun _ H' => R .non H', rt := R } σ H
section
variable {X : Cx} {B : Hp} {W0 : Wd} {S : En} {pos : Pos} {e : Expr} {st : Stmt} {sts : List Stmt} {Q : List D → Prop}
theorem sn_ret (h : FD X B S e Q) : SN X B W0 S [.Return (some e) pos] Q := fun σ W H r z R c => by
  refine PSs.w (pss_cons (ps_ret we_pe) pss_nil) ?_
  exact h σ W H r R fun l p xs W2 H2 s2 ok2 hp n i hl d q2 => c l p xs W2 H2 (z.trans r.ok s2) ok2 (z.free r.ok hp) n i hl d q2
theorem sn_cons (h : SD X B W0 S st { nx := fun S' => SN X B W0 S' sts Q, rt := fun _ => False }) : SN X B W0 S (st :: sts) Q := fun σ W H r z R c => by
  refine PSs.w (pss_cons ws_ps wss_pss) ?_
  exact h σ W H r z _ ⟨fun S' σ' W' H' r' z' _ q => q σ' W' H' r' z' R c, fun _ _ _ _ _ _ _ _ q => q.elim, fun _ _ _ _ _ _ _ q => q.elim, fun _ _ _ _ _ _ _ q => q.elim⟩
end
section
variable {P : Program} {w : World} {K : PySem.W.Frag} {mg : Str → Option Value} {base : Heap}
/-- a def that ends by handing a new list back -/
theorem gn_new {x qual : Str} {st : Stmt} {f : Addr} {fd : FuncData} {N ps : List Str} {k : Nat} {sp : SpN} (F : FunS K x qual st f fd) (hS : FnScope N ps (defScope st)) (len : ∀ as Q, sp as Q → as.length = ps.length)
    (body : ∀ cdv A outer s H, Room k (A.deeper (PyProof.Rows.envOfC qual (defScope st) s.heap.objs.size f cdv)) → (Bx P w K mg base N qual st f cdv A outer s H).A.guards = some (gOf (Bx P w K mg base N qual st f cdv A outer s H)) → ∀ W as Q, sp as Q →
      SN (Bx P w K mg base N qual st f cdv A outer s H) H W (startE N as) (defBody st) Q) : GnOk P w K mg base (k + 1) f fd ps (liftN K sp) := by
  refine gn_of F hS (fun g vs H Q h => ?_) (fun cdv A outer s H g vs R hr hG h => ?_)
  · obtain ⟨as, W, Qd, _, ha, hsp, _⟩ := h
    rw [← len _ _ hsp]
    exact (Paired.length ha).symm
  · obtain ⟨as, W, Qd, ok, ha, hsp, c⟩ := h
    obtain ⟨e1, e2⟩ := gOf_bx (P := P) (w := w) (K := K) (mg := mg) (base := base) (N := N) (qual := qual) (st := st) (f := f) (cdv := cdv) (outer := outer) (s := s) (H := H) hG
    refine ⟨WSs _ _, wss_pss, body cdv A outer s H hr (by rw [e2]; exact e1) W as Qd hsp (L2.start N vs) W H (by rw [e2]; exact rep_start ok ha) Stp.refl R ?_⟩
    rw [e2]
    exact c
end
section
variable {X : Cx} {B : Hp} {W0 : Wd} {S : En} {e a b : Expr} {es : List Expr} {pos : Pos} {E : Ends'}
end
/-- x[j], x the script -/
theorem ed_ixF {X : Cx} {B : Hp} {S : En} {a b : Expr} {pos : Pos} {Q : D → Prop} (h : ED X B S a fun x => ED X B S b fun y => ∃ (l : List Int) (j : Nat) (z : Int), x = .frl l ∧ y = .int (j : Int) ∧ l[j]? = some z ∧ Q (.int z)) (hs : PlainIx b := by exact fun _ _ => rfl) : ED X B S (.Subscript a b pos) Q := fun σ W H r R k => by
  refine PE.w (pe_ix ix_list we_pe we_pe hs) ?_
  refine h σ W H r _ fun d v W1 H1 s1 ok1 n1 q1 => ?_
  refine q1 σ W1 H1 (r.step s1 ok1) _ fun d2 u W2 H2 s2 ok2 n2 q2 => ?_
  obtain ⟨l, j, z, rfl, rfl, e, q⟩ := q2
  have k2 := (k.step s1 ok1).step s2 ok2
  cases n2
  cases n1 with
  | frl h => exact ⟨_, _, (j : Int), .int z, rfl, rfl, ok2.ex.l (s2.I.l h), atI_nat (by rw [List.getElem?_map, e]; rfl), k2.now ok2 (.int z) q⟩
end DL

set_option Elab.async false
set_option linter.all false
set_option maxRecDepth 100000
set_option maxHeartbeats 4000000
/-! a comprehension whose list goes to a name at once -/
namespace DL
open PySem L2
def LC (X : Cx) (B : Hp) (S : En) (t : TE) (Q : List D → Prop) : Prop := ∀ σ W H, Rep X.K (gOf X) B S σ W H → ∀ R, ContF X.K (gOf X) W H Q R → t σ H R
section
variable {X : Cx} {B : Hp} {W0 : Wd} {S : En} {e a b : Expr} {es : List Expr} {pos : Pos} {E : Ends'}
/-- [elt for g in a list], without a test -/
theorem lc_L {elt iter : Expr} {scope : Scope} {own : List (Str × Nat)} {g : TG} {l : List D} {Q : List D → Prop} (J : Nat → List D → Prop) (S' : D → En) 
    (h : ED X B S iter fun d => d = .lst l ∧ l.length ≤ 50000 ∧ J 0 []) (hp : ∀ d ∈ l, Pat X.K g (own.map (·.2)) S d (S' d))
    (he : ∀ (i : Nat) d acc, l[i]? = some d → acc.length = i → J i acc → ∀ (s : Shared) (H0 : Hp) (C : Addr) (cl : List (Str × Addr)) (fp : List Addr), ED (X.blk s H0 scope (compEnvC scope cl C X.env) fp) B (S' d) elt fun y => J (i + 1) (acc ++ [y]))
    (hd : ∀ acc, acc.length = l.length → J l.length acc → Q acc) : LC X B S (tLc (iList X.K (WE X iter)) g tYes (WEb X scope elt) (own.map (·.2))) Q := fun σ W H r R k => by
  refine h σ W H r _ fun d v W1 H1 s1 ok1 n1 q1 => ?_
  obtain ⟨rfl, hz, j0⟩ := q1
  cases n1 with
  | @lst _ a xs ha m =>
    refine ⟨a, rfl, ⟨xs, SqL.of (ok1.ex _ _ ha)⟩, fun p hp0 => ?_⟩
    have r1 := r.step s1 ok1
    refine lc_list (K := X.K) (a := a) (xs := xs) (fun i H' => ∃ acc W', Mid X.K (gOf X) W1 H1 p acc W' H' ∧ acc.length = i ∧ J i acc) ⟨[], W1, ⟨Stp.own hp0, ok1.own hp0, ok1.notP hp0, ok1.free hp0, [], upd_same, .nil⟩, rfl, j0⟩
      (fun i H' _ ⟨acc, W', mm, _⟩ => SqL.of (mm.ok.ex _ _ (mm.st.I _ _ ha))) ?_ ?_
    · rintro i x H' hx ⟨acc, W', mm, hl, j⟩
      obtain ⟨d, hd', nd⟩ := m.get hx
      have r2 := r1.step mm.st mm.ok
      refine hp d (List.mem_of_getElem? hd') (gOf X) B σ W' H' x r2 (nd.mono mm.st.I) _ fun σ2 e2 r3 => ⟨e2, ?_⟩
      show WEb X scope elt σ2 H' _
      intro s H0 C cl fp
      refine he i d acc hd' hl j s H0 C cl fp σ2 W' H' r3 _ fun y v W2 H2 s2 ok2 n2 q2 => ?_
      have lt : i < l.length := (List.getElem?_eq_some_iff.mp hd').1
      obtain ⟨xs', e1, e3, m3⟩ := (mm.step s2 ok2).more hp0 n2 (by omega)
      exact ⟨xs', e1, e3, _, W2, m3, by simp [hl], q2⟩
    · rintro H' ⟨acc, W', mm, hl, j⟩
      obtain ⟨ys, hH, ds⟩ := mm.h
      rw [← m.length] at hl j
      exact k acc p ys W' H' (s1.trans ok1 mm.st) mm.ok (s1.free ok1 hp0) mm.n mm.i hH ds (hd acc hl j)
theorem sd_ownLc {i : Nat} {y : Str} {py spos : Pos} {elt tg iter : Expr} {scope : Scope} {own : List (Str × Nat)} {wi : TI} {g : TG} (hc : X.calm = true) (hN : X.N.Nodup) (hy : X.N[i]? = some y) (hyl : X.env.scope.names.lookup y = some .local) (hi : PI X tg iter wi) (ok : BlkOk X.N X.env.scope scope own)
    (hg : ∀ (s : Shared) (H : Hp) (C : Addr) (cl : List (Str × Addr)) (fp : List Addr), PG (X.blk s H scope (compEnvC scope cl C X.env) fp) tg g)
    (h : LC X B S (tLc wi g tYes (WEb X scope elt) (own.map (·.2))) fun l => E.nx (S.set i (some (.own l))))
    (hsw : swapsWith (.ListComp elt [⟨tg, iter, [], 0⟩] scope pos) (some (.Name y py)) spos.line X.env = pure true := by exact sw_true rfl rfl rfl rfl) (hs : ∀ x, foldedSetIterable iter X.env x = pure x := by intro _; rfl) :
    SD X B W0 S (.Assign [.Name y py] (.ListComp elt [⟨tg, iter, [], 0⟩] scope pos) spos) E := fun σ W H r z D' k => by
  refine PS.w (ps_setLc (i := i) hc hN hy hyl hsw hi ok hg (fun _ _ _ _ _ => pts_nil) web_pe hs) ?_
  exact h σ W H r _ fun l p xs W1 H1 s1 ok1 hp n i1 hl d q1 => k.nx _ _ W1 H1 ((r.step s1 ok1).setOwn (z.free r.ok hp) n i1 hl d fun j m e1 e2 => by
    obtain ⟨v, e3, p2, ys, e4, _, _, _, h4, _⟩ := r.sl j _ e1
    rw [e2] at e3
    cases e3
    cases e4
    rw [hp] at h4
    cases h4) (z.trans r.ok s1) s1.I q1
end
end DL

set_option Elab.async false
set_option linter.all false
set_option maxRecDepth 100000
set_option maxHeartbeats 4000000
/-! all, any; defs called by keywords; comprehensions with a test, with two ranges -/
namespace DL
open PySem PySem.Spec PyProof.Rows L2
theorem Dns.bls {K : PySem.W.Frag} {I : Hp} : ∀ {bs : List Bool} {xs : List V}, Dns K I (bs.map D.bl) xs → xs = bs.map V.bl
  | [], _, .nil => rfl
  | b :: bs, _, .cons (.bl _) r => by rw [List.map_cons, Dns.bls r]
theorem Dns.ints {K : PySem.W.Frag} {I : Hp} : ∀ {bs : List Int} {xs : List V}, Dns K I (bs.map D.int) xs → xs = bs.map V.int
  | [], _, .nil => rfl
  | b :: bs, _, .cons (.int _) r => by rw [List.map_cons, Dns.ints r]
section
variable {X : Cx} {B : Hp} {S : En} {pos p : Pos} {Q : D → Prop} {e : Expr} {es : List Expr} {x : Str} {k n : Nat} {kws : List Keyword}
theorem cd_all {bs : List Bool} (hc : X.calm = true) (q : Q (.bl (bs.all id))) : CD X (.builtin "all") [.val (.lst (bs.map D.bl))] Q := cd_of (cr_all hc) fun vs W H ok ha R c => by
  obtain ⟨v, rfl, h⟩ := one_arg ha
  cases h with
  | lst h z => exact ⟨_, bs, rfl, by rw [← z.bls]; exact SqL.of (ok.ex _ _ h), c.now ok (.bl _) q⟩
theorem cd_any {bs : List Bool} (hc : X.calm = true) (q : Q (.bl (bs.any id))) : CD X (.builtin "any") [.val (.lst (bs.map D.bl))] Q := cd_of (cr_any hc) fun vs W H ok ha R c => by
  obtain ⟨v, rfl, h⟩ := one_arg ha
  cases h with
  | lst h z => exact ⟨_, bs, rfl, by rw [← z.bls]; exact SqL.of (ok.ex _ _ h), c.now ok (.bl _) q⟩
/-! a def called by keywords alone -/
theorem we_callK0 {f : Addr} {fd : FuncData} {ps ks : List Str} {sp : SpG} {g : List Code} {gf : List Value → List Value → List Value} {gV : List V → List V → List V} {σ : L2.St} {H : Hp} {Q : VK}
    (F : GnOk X.prog X.w X.K X.mg X.base k f fd ps sp) (hr : Room k X.A) (hG : X.A.guards = some g) (hg : Gl X x) (hm : X.mg x = some (.ref f)) (hk : PySem.W.keepIn X.K (.ref f) = true) (hb : KBn X.K fd ps 0 ks gf gV)
    (h : WK X kws σ H fun zs H1 => zs.length = ks.length ∧ sp g (gV [] zs) H1 Q)
    (hall : (backToKw pos (keywordEach kws X.env)).all (·.1.isSome) = true) (hks : (backToKw pos (keywordEach kws X.env)).filterMap (·.1) = ks) (hdb : (x == ("__debug__" : Str)) = false)
    (hpl : ((backTo pos (starEach [] X.env)).any (·.1) || (backToKw pos (keywordEach kws X.env)).any (·.1.isNone)) = false) : WE X (.Call (.Name x p) [] kws pos) σ H Q := fun pins s I => by
  refine wpAny_Call_Name_kw (ld_glob I hg hm ?_ hdb)
  refine PySem.W.callWith_KW0 (h₀ := X.base) I.ok.mod.kin hk hall (thn (h pos pins s I) fun ws s2 ⟨zs, H2, I2, rz, l2, q2⟩ => ⟨I2.kIn, ?_⟩) hpl
  rw [hks]
  have n2 : ws.length = ks.length := by rw [← rz.length, l2]
  exact wpAny_call (run_gb F hr hG I2.env0 (hb.to _ [] ws I2.kIn rfl n2) I2 (hb.rel (vs := []) (us := []) .nil rz) q2 fun _ _ z => z)
structure DfK (P : Program) (w : World) (K : PySem.W.Frag) (mg : Str → Option Value) (base : Heap) (x : Str) (k : Nat) (ks : List Str) (midD : List Sl → List Sl) (sp : SpD) : Prop where
  ex : ∃ f fd ps gf, ∃ mid : List V → List V, GnOk P w K mg base k f fd ps (lift K sp) ∧ mg x = some (.ref f) ∧ PySem.W.keepIn K (.ref f) = true ∧ KBn K fd ps 0 ks gf (fun vs zs => vs ++ mid zs) ∧ ∀ W bs zs, Args K W bs zs → Args K W (midD bs) (mid zs)
theorem ed_callK0 {ks : List Str} {midD : List Sl → List Sl} {sp : SpD} (F : DfK X.prog X.w X.K X.mg X.base x k ks midD sp) (hr : Room k X.A) (hG : X.A.guards = some (gOf X)) (h : KD X B S kws fun bs => bs.length = ks.length ∧ sp (midD bs) Q) (hg : Gl X x := by rfl)
    (hall : (backToKw pos (keywordEach kws X.env)).all (·.1.isSome) = true := by rfl) (hks : (backToKw pos (keywordEach kws X.env)).filterMap (·.1) = ks := by rfl) (hdb : (x == ("__debug__" : Str)) = false := by decide)
    (hpl : ((backTo pos (starEach [] X.env)).any (·.1) || (backToKw pos (keywordEach kws X.env)).any (·.1.isNone)) = false := by rfl) : ED X B S (.Call (.Name x p) [] kws pos) Q := fun σ W H r R c => by
  obtain ⟨f, fd, ps, gf, mid, F, hm, hk, hb, hc⟩ := F.ex
  refine we_callK0 F hr hG hg hm hk hb ?_ hall hks hdb hpl
  refine h σ W H r _ fun bs zs W1 H1 s1 ok1 n1 q1 => ?_
  obtain ⟨l, q1⟩ := q1
  exact ⟨by rw [← l]; exact (Paired.length n1).symm, midD bs, W1, Q, ok1, hc _ _ _ n1, q1, c.step s1 ok1⟩
/-! comprehensions with a test -/
/-- [elt for g in a list if c] -/
theorem fd_lcLI {elt tg iter c : Expr} {scope : Scope} {own : List (Str × Nat)} {g : TG} {l : List D} {Q : List D → Prop} (J : Nat → List D → Prop) (S' : D → En) (hc : X.calm = true) (hN : X.N.Nodup) (ok : BlkOk X.N X.env.scope scope own)
    (hg : ∀ (s : Shared) (H : Hp) (C : Addr) (cl : List (Str × Addr)) (fp : List Addr), PG (X.blk s H scope (compEnvC scope cl C X.env) fp) tg g)
    (h : ED X B S iter fun d => d = .lst l ∧ l.length ≤ 50000 ∧ J 0 []) (hp : ∀ d ∈ l, Pat X.K g (own.map (·.2)) S d (S' d))
    (he : ∀ (i : Nat) d acc, l[i]? = some d → acc.length ≤ i → J i acc → ∀ (s : Shared) (H0 : Hp) (C : Addr) (cl : List (Str × Addr)) (fp : List Addr), TD (X.blk s H0 scope (compEnvC scope cl C X.env) fp) B (S' d) c fun b =>
      if b = true then ∀ (s : Shared) (H0 : Hp) (C : Addr) (cl : List (Str × Addr)) (fp : List Addr), ED (X.blk s H0 scope (compEnvC scope cl C X.env) fp) B (S' d) elt fun y => J (i + 1) (acc ++ [y]) else J (i + 1) acc)
    (hd : ∀ acc, acc.length ≤ l.length → J l.length acc → Q acc) (hs : ∀ x, foldedSetIterable iter X.env x = pure x := by intro _; rfl) : FD X B S (.ListComp elt [⟨tg, iter, [c], 0⟩] scope pos) Q := fun σ W H r R k => by
  refine PE.w (pe_lc (te := WEb X scope elt) (tt := WTb X scope c) hc hN (pi_list we_pe) ok hg (fun s H C cl fp => pts_one (wtb_pt s H C cl fp)) web_pe hs) ?_
  refine h σ W H r _ fun d v W1 H1 s1 ok1 n1 q1 => ?_
  obtain ⟨rfl, hz, j0⟩ := q1
  cases n1 with
  | @lst _ a xs ha m =>
    refine ⟨a, rfl, ⟨xs, SqL.of (ok1.ex _ _ ha)⟩, fun p hp0 => ?_⟩
    have r1 := r.step s1 ok1
    refine lc_list (K := X.K) (a := a) (xs := xs) (fun i H' => ∃ acc W', Mid X.K (gOf X) W1 H1 p acc W' H' ∧ acc.length ≤ i ∧ J i acc) ⟨[], W1, ⟨Stp.own hp0, ok1.own hp0, ok1.notP hp0, ok1.free hp0, [], upd_same, .nil⟩, Nat.le_refl _, j0⟩
      (fun i H' _ ⟨acc, W', mm, _⟩ => SqL.of (mm.ok.ex _ _ (mm.st.I _ _ ha))) ?_ ?_
    · rintro i x H' hx ⟨acc, W', mm, hl, j⟩
      obtain ⟨d, hd', nd⟩ := m.get hx
      have r2 := r1.step mm.st mm.ok
      refine hp d (List.mem_of_getElem? hd') (gOf X) B σ W' H' x r2 (nd.mono mm.st.I) _ fun σ2 e2 r3 => ?_
      refine ⟨e2, ?_⟩
      show WTb X scope c σ2 H' _
      intro s H0 C cl fp
      have lt : i < l.length := (List.getElem?_eq_some_iff.mp hd').1
      refine he i d acc hd' hl j s H0 C cl fp σ2 W' H' r3 _ fun b W2 H2 s2 ok2 q2 => ?_
      cases b with
      | false => exact iteF ⟨acc, W2, mm.step s2 ok2, Nat.le_succ_of_le hl, by simpa using q2⟩
      | true =>
        refine iteT ?_
        show WEb X scope elt σ2 H2 _
        intro s H0 C cl fp
        refine (show ∀ (s : Shared) (H0 : Hp) (C : Addr) (cl : List (Str × Addr)) (fp : List Addr), ED (X.blk s H0 scope (compEnvC scope cl C X.env) fp) B (S' d) elt fun y => J (i + 1) (acc ++ [y]) by simpa using q2) s H0 C cl fp σ2 W2 H2 (r3.step s2 ok2) _ fun y v W3 H3 s3 ok3 n3 q3 => ?_
        obtain ⟨xs', e1, e3, m3⟩ := ((mm.step s2 ok2).step s3 ok3).more hp0 n3 (by omega)
        exact ⟨xs', e1, e3, _, W3, m3, by simp only [List.length_append, List.length_singleton]; omega, q3⟩
    · rintro H' ⟨acc, W', mm, hl, j⟩
      obtain ⟨ys, hH, ds⟩ := mm.h
      rw [← m.length] at hl j
      exact k acc p ys W' H' (s1.trans ok1 mm.st) mm.ok (s1.free ok1 hp0) mm.n mm.i hH ds (hd acc hl j)
/-- .. of a tuple -/
theorem fd_lcTI {elt tg iter c : Expr} {scope : Scope} {own : List (Str × Nat)} {g : TG} {l : List D} {Q : List D → Prop} (J : Nat → List D → Prop) (S' : D → En) (hc : X.calm = true) (hN : X.N.Nodup) (ok : BlkOk X.N X.env.scope scope own)
    (hg : ∀ (s : Shared) (H : Hp) (C : Addr) (cl : List (Str × Addr)) (fp : List Addr), PG (X.blk s H scope (compEnvC scope cl C X.env) fp) tg g)
    (h : ED X B S iter fun d => d = .tup l ∧ l.length ≤ 50000 ∧ J 0 []) (hp : ∀ d ∈ l, Pat X.K g (own.map (·.2)) S d (S' d))
    (he : ∀ (i : Nat) d acc, l[i]? = some d → acc.length ≤ i → J i acc → ∀ (s : Shared) (H0 : Hp) (C : Addr) (cl : List (Str × Addr)) (fp : List Addr), TD (X.blk s H0 scope (compEnvC scope cl C X.env) fp) B (S' d) c fun b =>
      if b = true then ∀ (s : Shared) (H0 : Hp) (C : Addr) (cl : List (Str × Addr)) (fp : List Addr), ED (X.blk s H0 scope (compEnvC scope cl C X.env) fp) B (S' d) elt fun y => J (i + 1) (acc ++ [y]) else J (i + 1) acc)
    (hd : ∀ acc, acc.length ≤ l.length → J l.length acc → Q acc) (hs : ∀ x, foldedSetIterable iter X.env x = pure x := by intro _; rfl) : FD X B S (.ListComp elt [⟨tg, iter, [c], 0⟩] scope pos) Q := fun σ W H r R k => by
  refine PE.w (pe_lc (te := WEb X scope elt) (tt := WTb X scope c) hc hN (pi_tup we_pe) ok hg (fun s H C cl fp => pts_one (wtb_pt s H C cl fp)) web_pe hs) ?_
  refine h σ W H r _ fun d v W1 H1 s1 ok1 n1 q1 => ?_
  obtain ⟨rfl, hz, j0⟩ := q1
  cases n1 with
  | @tup _ a xs ha m =>
    refine ⟨a, rfl, ⟨xs, SqT.of (ok1.ex _ _ ha)⟩, fun p hp0 => ?_⟩
    have r1 := r.step s1 ok1
    refine lc_tup (K := X.K) (a := a) (xs := xs) (fun i H' => ∃ acc W', Mid X.K (gOf X) W1 H1 p acc W' H' ∧ acc.length ≤ i ∧ J i acc) ⟨[], W1, ⟨Stp.own hp0, ok1.own hp0, ok1.notP hp0, ok1.free hp0, [], upd_same, .nil⟩, Nat.le_refl _, j0⟩
      (fun i H' _ ⟨acc, W', mm, _⟩ => SqT.of (mm.ok.ex _ _ (mm.st.I _ _ ha))) ?_ ?_
    · rintro i x H' hx ⟨acc, W', mm, hl, j⟩
      obtain ⟨d, hd', nd⟩ := m.get hx
      have r2 := r1.step mm.st mm.ok
      refine hp d (List.mem_of_getElem? hd') (gOf X) B σ W' H' x r2 (nd.mono mm.st.I) _ fun σ2 e2 r3 => ?_
      refine ⟨e2, ?_⟩
      show WTb X scope c σ2 H' _
      intro s H0 C cl fp
      have lt : i < l.length := (List.getElem?_eq_some_iff.mp hd').1
      refine he i d acc hd' hl j s H0 C cl fp σ2 W' H' r3 _ fun b W2 H2 s2 ok2 q2 => ?_
      cases b with
      | false => exact iteF ⟨acc, W2, mm.step s2 ok2, Nat.le_succ_of_le hl, by simpa using q2⟩
      | true =>
        refine iteT ?_
        show WEb X scope elt σ2 H2 _
        intro s H0 C cl fp
        refine (show ∀ (s : Shared) (H0 : Hp) (C : Addr) (cl : List (Str × Addr)) (fp : List Addr), ED (X.blk s H0 scope (compEnvC scope cl C X.env) fp) B (S' d) elt fun y => J (i + 1) (acc ++ [y]) by simpa using q2) s H0 C cl fp σ2 W2 H2 (r3.step s2 ok2) _ fun y v W3 H3 s3 ok3 n3 q3 => ?_
        obtain ⟨xs', e1, e3, m3⟩ := ((mm.step s2 ok2).step s3 ok3).more hp0 n3 (by omega)
        exact ⟨xs', e1, e3, _, W3, m3, by simp only [List.length_append, List.length_singleton]; omega, q3⟩
    · rintro H' ⟨acc, W', mm, hl, j⟩
      obtain ⟨ys, hH, ds⟩ := mm.h
      rw [← m.length] at hl j
      exact k acc p ys W' H' (s1.trans ok1 mm.st) mm.ok (s1.free ok1 hp0) mm.n mm.i hH ds (hd acc hl j)
/-- [elt for g in a tuple] -/
theorem fd_lcT {elt tg iter : Expr} {scope : Scope} {own : List (Str × Nat)} {g : TG} {l : List D} {Q : List D → Prop} (J : Nat → List D → Prop) (S' : D → En) (hc : X.calm = true) (hN : X.N.Nodup) (ok : BlkOk X.N X.env.scope scope own)
    (hg : ∀ (s : Shared) (H : Hp) (C : Addr) (cl : List (Str × Addr)) (fp : List Addr), PG (X.blk s H scope (compEnvC scope cl C X.env) fp) tg g)
    (h : ED X B S iter fun d => d = .tup l ∧ l.length ≤ 50000 ∧ J 0 []) (hp : ∀ d ∈ l, Pat X.K g (own.map (·.2)) S d (S' d))
    (he : ∀ (i : Nat) d acc, l[i]? = some d → acc.length = i → J i acc → ∀ (s : Shared) (H0 : Hp) (C : Addr) (cl : List (Str × Addr)) (fp : List Addr), ED (X.blk s H0 scope (compEnvC scope cl C X.env) fp) B (S' d) elt fun y => J (i + 1) (acc ++ [y]))
    (hd : ∀ acc, acc.length = l.length → J l.length acc → Q acc) (hs : ∀ x, foldedSetIterable iter X.env x = pure x := by intro _; rfl) : FD X B S (.ListComp elt [⟨tg, iter, [], 0⟩] scope pos) Q := fun σ W H r R k => by
  refine PE.w (pe_lc (te := WEb X scope elt) hc hN (pi_tup we_pe) ok hg (fun _ _ _ _ _ => pts_nil) web_pe hs) ?_
  refine h σ W H r _ fun d v W1 H1 s1 ok1 n1 q1 => ?_
  obtain ⟨rfl, hz, j0⟩ := q1
  cases n1 with
  | @tup _ a xs ha m =>
    refine ⟨a, rfl, ⟨xs, SqT.of (ok1.ex _ _ ha)⟩, fun p hp0 => ?_⟩
    have r1 := r.step s1 ok1
    refine lc_tup (K := X.K) (a := a) (xs := xs) (fun i H' => ∃ acc W', Mid X.K (gOf X) W1 H1 p acc W' H' ∧ acc.length = i ∧ J i acc) ⟨[], W1, ⟨Stp.own hp0, ok1.own hp0, ok1.notP hp0, ok1.free hp0, [], upd_same, .nil⟩, rfl, j0⟩
      (fun i H' _ ⟨acc, W', mm, _⟩ => SqT.of (mm.ok.ex _ _ (mm.st.I _ _ ha))) ?_ ?_
    · rintro i x H' hx ⟨acc, W', mm, hl, j⟩
      obtain ⟨d, hd', nd⟩ := m.get hx
      have r2 := r1.step mm.st mm.ok
      refine hp d (List.mem_of_getElem? hd') (gOf X) B σ W' H' x r2 (nd.mono mm.st.I) _ fun σ2 e2 r3 => ?_
      refine ⟨e2, ?_⟩
      show WEb X scope elt σ2 H' _
      intro s H0 C cl fp
      have lt : i < l.length := (List.getElem?_eq_some_iff.mp hd').1
      refine he i d acc hd' hl j s H0 C cl fp σ2 W' H' r3 _ fun y v W2 H2 s2 ok2 n2 q2 => ?_
      obtain ⟨xs', e1, e3, m3⟩ := (mm.step s2 ok2).more hp0 n2 (by omega)
      exact ⟨xs', e1, e3, _, W2, m3, by simp [hl], q2⟩
    · rintro H' ⟨acc, W', mm, hl, j⟩
      obtain ⟨ys, hH, ds⟩ := mm.h
      rw [← m.length] at hl j
      exact k acc p ys W' H' (s1.trans ok1 mm.st) mm.ok (s1.free ok1 hp0) mm.n mm.i hH ds (hd acc hl j)
end
end DL

set_option Elab.async false
set_option linter.all false
set_option maxRecDepth 100000
set_option maxHeartbeats 2000000
/-! zip of a list or a tuple with a list or a tuple, whichever each is -/
namespace ZX
open PySem PySem.Spec PyProof.Rows
/-- an iterator at `it` that goes through the items of what stands at `l` -/
structure Feed where
  it : Addr
  l : Addr
  xs : Array Value
  st : Nat → Heap → Prop
  src : Heap → Prop
  stE : ∀ {h h' : Heap} {b : Addr} {k : Nat}, st k h → Heap.ExtBut b h h' → it ≠ b → st k h'
  srcE : ∀ {h h' : Heap} {b : Addr}, src h → Heap.ExtBut b h h' → l ≠ b → src h'
  item : ∀ {p : Program} {w : World} {A : Around} {E : Value → Shared → Prop} {s : Shared} {k : Nat} {x : Value} {Q : Value → Shared → Prop}, st k s.heap → src s.heap → xs[k]? = some x →
    (∀ h', st (k + 1) h' → Heap.SameBut it s.heap h' → Q x { s with heap := h' }) → wpAny (model p w) A (Builtin.SmallTypes.nextOf (.ref it)) Q E s
  done : ∀ {p : Program} {w : World} {A : Around} {E : Value → Shared → Prop} {s : Shared} {k : Nat} {Q : Value → Shared → Prop}, A.handled = none → st k s.heap → src s.heap → xs[k]? = none →
    (∀ h' e, Heap.ExtBut it s.heap h' → (∃ o, h'.get? e = some o ∧ o.cls = .type "StopIteration") → E (.ref e) { s with heap := h' }) → wpAny (model p w) A (Builtin.SmallTypes.nextOf (.ref it)) Q E s
  obj : ∀ {h : Heap} {k : Nat}, st k h → ∃ o, h.get? it = some o ∧ ∀ v, o.data ≠ .cell v
  same : ∀ {h h' : Heap} {k : Nat}, st k h → (∀ o, h.get? it = some o → h'.get? it = some o) → st k h'
def feedL (it l : Addr) (xs : Array Value) : Feed where
  it := it
  l := l
  xs := xs
  st := fun k h => h.IsListIter it l k
  src := fun h => h.IsList l xs
  stE := fun a b c => a.extBut b c
  srcE := fun a b c => a.extBut b c
  item := fun a b c d => wpAny_nextOf_list_item a b c d
  done := fun a b c d e => wpAny_nextOf_list_end a b c d e
  obj := fun ⟨o, e, _, d⟩ => ⟨o, e, fun v q => by rw [d] at q; cases q⟩
  same := fun a b => a.at b
def feedT (it l : Addr) (xs : Array Value) : Feed where
  it := it
  l := l
  xs := xs
  st := fun k h => h.IsTupleIter it l k
  src := fun h => h.IsTuple l xs
  stE := fun a b c => a.extBut b c
  srcE := fun a b c => a.extBut b c
  item := fun a b c d => RZ.nextOf_tuple_item a b c d
  done := fun a b c d e => RZ.nextOf_tuple_end a b c d e
  obj := fun ⟨o, e, _, d⟩ => ⟨o, e, fun v q => by rw [d] at q; cases q⟩
  same := fun a b => a.at b
section
variable {p : Program} {w : World} {A : Around} {E : Value → Shared → Prop} {s : Shared} {M N : Feed} {z TI TO : Addr} {i j : Nat} {a b : Value}
/-- how the zip stands ahead of a turn -/
structure Stands (M N : Feed) (z TI TO : Addr) (i j : Nat) (h : Heap) : Prop where
  z : IsZip h z TI TO .none
  ti : IsPair h TI (.ref M.it) (.ref N.it)
  to : ∃ a b, IsPair h TO a b
  f : M.st i h
  g : N.st j h
theorem next_item {x y : Value} {Q : Value → Shared → Prop} (D : ZipApart z TI TO M.it N.it M.l N.l) (st : Stands M N z TI TO i j s.heap) (sf : M.src s.heap) (sg : N.src s.heap) (hx : M.xs[i]? = some x) (hy : N.xs[j]? = some y)
    (hQ : ∀ h', IsZip h' z TI TO (rawInt s.heap.objs.size) → IsPair h' TO x y → M.st (i + 1) h' → N.st (j + 1) h' → IsPair h' s.heap.objs.size x y → h'.objs.size = s.heap.objs.size + 1 →
      (∀ c o, c ≠ z → c ≠ TO → c ≠ M.it → c ≠ N.it → s.heap.get? c = some o → h'.get? c = some o) → Q (.ref s.heap.objs.size) { s with heap := h' }) :
    wpAny (model p w) A (Builtin.«zip.__next__» ⟨[.ref z], []⟩) (fun fin s' => ∃ v, fin = .done (.ret v) ∧ Q v s') E s := by
  obtain ⟨hz, hTI, ⟨a, b, hTO⟩, f0, g0⟩ := st
  show wpAny _ _ (field (.ref z) 2 >>= _) _ _ _
  refine wpAny_bind (wpAny_field hz rfl (x := .bool false) rfl ?_); show wpAny _ _ (field (.ref z) 3 >>= _) _ _ _
  refine wpAny_bind (wpAny_field hz rfl (x := .ref TI) rfl ?_); refine wpAny_bind (wpAny_seqItems hTI rfl ?_)
  show wpAny _ _ (Builtin.SmallTypes.ownedTupleIsFree (.ref z) >>= _) _ _ _
  refine wpAny_bind ?_; unfold Builtin.SmallTypes.ownedTupleIsFree
  refine wpAny_bind (wpAny_field hz rfl (x := .none) rfl (wpAny_pure ?_)); simp only [if_true]
  refine wpAny_bind (wpAny_rule ?_); refine wpAny_bind (wpAny_field hz rfl (x := .ref TO) rfl ?_)
  refine wpAny_bind (wpAny_setField_rec hz (by simp) fun m1 z1 e1 => ?_)
  have z1' : IsZip m1 z TI TO .ellipsis := z1
  refine wpAny_bind ?_; simp only [List.zipIdx_cons, List.zipIdx_nil, List.forIn_cons, List.forIn_nil]
  have x1 := e1.extBut
  refine wpAny_bind (wpAny_bind (wpAny_onRaise ?_)); show wpAny _ _ (Builtin.SmallTypes.nextOf (.ref M.it) >>= _) _ _ _
  refine wpAny_bind (M.item (M.stE f0 x1 D.i1z) (M.srcE sf x1 D.l1z) hx fun m2 f2 e2 => wpAny_pure ?_)
  have x2 := e2.extBut
  have t2 : IsPair m2 TO a b := x2 _ _ D.TOi1 (x1 _ _ D.TOz hTO)
  refine wpAny_bind (wpAny_seqItems t2 rfl ?_); refine wpAny_bind (wpAny_updateSeq_pair t2 fun m3 t3 e3 => ?_)
  have x3 := e3.extBut
  have t3' : IsPair m3 TO x b := t3
  refine wpAny_bind (wpAny_letGo (wpAny_pure ?_)); refine wpAny_bind (wpAny_bind (wpAny_onRaise ?_))
  show wpAny _ _ (Builtin.SmallTypes.nextOf (.ref N.it) >>= _) _ _ _
  refine wpAny_bind (N.item (N.stE (N.stE (N.stE g0 x1 D.i2z) x2 D.i12.symm) x3 D.TOi2.symm) (N.srcE (N.srcE (N.srcE sg x1 D.l2z) x2 D.l2i1) x3 D.l2TO) hy fun m4 g4 e4 => wpAny_pure ?_)
  have x4 := e4.extBut
  have t4 : IsPair m4 TO x b := x4 _ _ D.TOi2 t3'
  refine wpAny_bind (wpAny_seqItems t4 rfl ?_); refine wpAny_bind (wpAny_updateSeq_pair t4 fun m5 t5 e5 => ?_)
  have x5 := e5.extBut
  have t5' : IsPair m5 TO x y := t5
  refine wpAny_bind (wpAny_letGo (wpAny_pure (wpAny_pure ?_))); refine wpAny_bind (wpAny_seqItems t5' rfl ?_)
  refine wpAny_bind (wpAny_newTuple ?_)
  have size5 : m5.objs.size = s.heap.objs.size := by rw [e5.1, e4.1, e3.1, e2.1, e1.1]
  have z5 : IsZip m5 z TI TO .ellipsis := x5 _ _ D.TOz.symm (x4 _ _ D.i2z.symm (x3 _ _ D.TOz.symm (x2 _ _ D.i1z.symm z1')))
  have old5 : ∀ c o, c ≠ z → c ≠ TO → c ≠ M.it → c ≠ N.it → s.heap.get? c = some o → m5.get? c = some o := fun c o n1 n2 n3 n4 e => x5 _ _ n2 (x4 _ _ n4 (x3 _ _ n2 (x2 _ _ n3 (x1 _ _ n1 e))))
  have f5 : M.st (i + 1) m5 := M.stE (M.stE (M.stE f2 x3 D.TOi1.symm) x4 D.i12) x5 D.TOi1.symm
  have g5 : N.st (j + 1) m5 := N.stE g4 x5 D.TOi2.symm
  have zlt : z < m5.objs.size := Heap.lt_size z5
  show wpAny _ _ (Builtin.SmallTypes.ownedTupleHandOut (.ref z) (.ref m5.objs.size) >>= _) _ _ _
  refine wpAny_bind ?_; unfold Builtin.SmallTypes.ownedTupleHandOut
  have z6 : IsZip (m5.push { cls := .type "tuple", data := .seq #[x, y] }) z TI TO .ellipsis := Heap.get?_push_of_some _ z5
  refine wpAny_bind (wpAny_setField_rec z6 (by simp) fun m7 z7 e7 => ?_)
  have z7' : IsZip m7 z TI TO (rawInt m5.objs.size) := z7
  refine wpAny_setField_rec z7' (by simp) fun m8 z8 e8 => ?_
  have z8' : IsZip m8 z TI TO (rawInt m5.objs.size) := z8
  have up : ∀ c o, c ≠ z → m5.get? c = some o → m8.get? c = some o := fun c o n e => e8.extBut _ _ n (e7.extBut _ _ n (Heap.get?_push_of_some _ e))
  have nz : m5.objs.size ≠ z := Nat.ne_of_gt zlt
  have T8 : IsPair m8 m5.objs.size x y := e8.extBut _ _ nz (e7.extBut _ _ nz (Heap.get?_push_size _ rfl))
  have size8 : m8.objs.size = m5.objs.size + 1 := by rw [e8.1, e7.1, Heap.size_push]
  rw [size5] at z8' T8 size8
  refine wpAny_pure ⟨_, rfl, ?_⟩
  show Q (.ref m5.objs.size) _
  rw [size5]
  exact hQ m8 z8' (up _ _ D.TOz t5') (M.same f5 fun o e => up _ o D.i1z e) (N.same g5 fun o e => up _ o D.i2z e) T8 size8 fun c o n1 n2 n3 n4 e => up c o n1 (old5 c o n1 n2 n3 n4 e)
theorem next_end {Q : Fin → Shared → Prop} (hh : A.handled = none) (D : ZipApart z TI TO M.it N.it M.l N.l) (st : Stands M N z TI TO i j s.heap) (sf : M.src s.heap) (sg : N.src s.heap) (hend : M.xs[i]? = none ∨ N.xs[j]? = none)
    (hE : ∀ h' e, (∀ c o, c ≠ z → c ≠ TO → c ≠ M.it → c ≠ N.it → s.heap.get? c = some o → h'.get? c = some o) → (∃ o, h'.get? e = some o ∧ o.cls = .type "StopIteration") → E (.ref e) { s with heap := h' }) :
    wpAny (model p w) A (Builtin.«zip.__next__» ⟨[.ref z], []⟩) Q E s := by
  obtain ⟨hz, hTI, ⟨a, b, hTO⟩, f0, g0⟩ := st
  show wpAny _ _ (field (.ref z) 2 >>= _) _ _ _
  refine wpAny_bind (wpAny_field hz rfl (x := .bool false) rfl ?_); show wpAny _ _ (field (.ref z) 3 >>= _) _ _ _
  refine wpAny_bind (wpAny_field hz rfl (x := .ref TI) rfl ?_); refine wpAny_bind (wpAny_seqItems hTI rfl ?_)
  show wpAny _ _ (Builtin.SmallTypes.ownedTupleIsFree (.ref z) >>= _) _ _ _
  refine wpAny_bind ?_; unfold Builtin.SmallTypes.ownedTupleIsFree
  refine wpAny_bind (wpAny_field hz rfl (x := .none) rfl (wpAny_pure ?_)); simp only [if_true]
  refine wpAny_bind (wpAny_rule ?_); refine wpAny_bind (wpAny_field hz rfl (x := .ref TO) rfl ?_)
  refine wpAny_bind (wpAny_setField_rec hz (by simp) fun m1 z1 e1 => ?_)
  have z1' : IsZip m1 z TI TO .ellipsis := z1
  refine wpAny_bind ?_; simp only [List.zipIdx_cons, List.zipIdx_nil, List.forIn_cons, List.forIn_nil]
  have x1 := e1.extBut
  refine wpAny_bind (wpAny_bind (wpAny_onRaise ?_)); show wpAny _ _ (Builtin.SmallTypes.nextOf (.ref M.it) >>= _) _ _ _
  cases hx : M.xs[i]? with
  | none =>
    refine wpAny_bind (M.done hh (M.stE f0 x1 D.i1z) (M.srcE sf x1 D.l1z) hx fun m2 e x2 he => ?_)
    obtain ⟨oe, h1, h2⟩ := he
    have z2 : IsZip m2 z TI TO .ellipsis := x2 _ _ D.i1z.symm z1'
    have ez : e ≠ z := fun q => by rw [q, z2] at h1; cases h1; simp at h2
    exact wpAny_setField_rec z2 (by simp) fun m3 _ e3 => hE m3 e (fun c o n1 _ n3 _ q => e3.extBut _ _ n1 (x2 _ _ n3 (x1 _ _ n1 q))) ⟨oe, e3.extBut _ _ ez h1, h2⟩
  | some x =>
    have hy : N.xs[j]? = none := by rcases hend with h | h; rw [hx] at h; cases h; exact h
    refine wpAny_bind (M.item (M.stE f0 x1 D.i1z) (M.srcE sf x1 D.l1z) hx fun m2 f2 e2 => wpAny_pure ?_)
    have x2 := e2.extBut
    have t2 : IsPair m2 TO a b := x2 _ _ D.TOi1 (x1 _ _ D.TOz hTO)
    refine wpAny_bind (wpAny_seqItems t2 rfl ?_); refine wpAny_bind (wpAny_updateSeq_pair t2 fun m3 t3 e3 => ?_)
    have x3 := e3.extBut
    refine wpAny_bind (wpAny_letGo (wpAny_pure ?_)); refine wpAny_bind (wpAny_bind (wpAny_onRaise ?_))
    show wpAny _ _ (Builtin.SmallTypes.nextOf (.ref N.it) >>= _) _ _ _
    refine wpAny_bind (N.done hh (N.stE (N.stE (N.stE g0 x1 D.i2z) x2 D.i12.symm) x3 D.TOi2.symm) (N.srcE (N.srcE (N.srcE sg x1 D.l2z) x2 D.l2i1) x3 D.l2TO) hy fun m4 e x4 he => ?_)
    obtain ⟨oe, h1, h2⟩ := he
    have z4 : IsZip m4 z TI TO .ellipsis := x4 _ _ D.i2z.symm (x3 _ _ D.TOz.symm (x2 _ _ D.i1z.symm z1'))
    have ez : e ≠ z := fun q => by rw [q, z4] at h1; cases h1; simp at h2
    exact wpAny_setField_rec z4 (by simp) fun m5 _ e5 => hE m5 e (fun c o n1 n2 n3 n4 q => e5.extBut _ _ n1 (x4 _ _ n4 (x3 _ _ n2 (x2 _ _ n3 (x1 _ _ n1 q))))) ⟨oe, e5.extBut _ _ ez h1, h2⟩
end
end ZX
namespace ZX
open PySem PySem.Spec PyProof.Rows
/-- t: a tuple, else a list -/
def Stand : Bool → Heap → Addr → Array Value → Prop
  | true => fun h l xs => h.IsTuple l xs
  | false => fun h l xs => h.IsList l xs
def feed (t : Bool) (it l : Addr) (xs : Array Value) : Feed := match t with
  | true => feedT it l xs
  | false => feedL it l xs
theorem feed_it {t : Bool} {it l : Addr} {xs : Array Value} : (feed t it l xs).it = it := by cases t <;> rfl
theorem feed_l {t : Bool} {it l : Addr} {xs : Array Value} : (feed t it l xs).l = l := by cases t <;> rfl
theorem feed_xs {t : Bool} {it l : Addr} {xs : Array Value} : (feed t it l xs).xs = xs := by cases t <;> rfl
theorem feed_src {t : Bool} {it l : Addr} {xs : Array Value} {h : Heap} (e : Stand t h l xs) : (feed t it l xs).src h := by cases t <;> exact e
abbrev io (t : Bool) (l : Addr) : Obj := { cls := .type (match t with | true => "tuple_iterator" | false => "list_iterator"), data := .fields #[.ref l, .int 0 0] }
theorem feed_new {t : Bool} {it l : Addr} {xs : Array Value} {h : Heap} (e : h.get? it = some (io t l)) : (feed t it l xs).st 0 h := by cases t <;> exact ⟨_, e, rfl, rfl⟩
abbrev n1 (t1 : Bool) (h : Heap) (l1 : Addr) : Heap := h.push (io t1 l1)
abbrev n2 (t1 t2 : Bool) (h : Heap) (l1 l2 : Addr) : Heap := (n1 t1 h l1).push (io t2 l2)
abbrev n3 (t1 t2 : Bool) (h : Heap) (l1 l2 : Addr) : Heap := (n2 t1 t2 h l1 l2).push { cls := .type "tuple", data := .seq #[.ref h.objs.size, .ref (n1 t1 h l1).objs.size] }
abbrev n4 (t1 t2 : Bool) (h : Heap) (l1 l2 : Addr) : Heap := (n3 t1 t2 h l1 l2).push { cls := .type "tuple", data := .seq #[.none, .none] }
abbrev n5 (t1 t2 : Bool) (h : Heap) (l1 l2 : Addr) : Heap := (n4 t1 t2 h l1 l2).push { cls := .type "zip", data := .fields #[.none, .bool false, .bool false, .ref (n2 t1 t2 h l1 l2).objs.size, .ref (n3 t1 t2 h l1 l2).objs.size] }
theorem new_tf (l1 l2 : Addr) (xs ys : Array Value) : Meets (Builtin.«zip.__new__» ⟨[.type "zip", .ref l1, .ref l2], []⟩) (fun _ R s => s.heap.IsTuple l1 xs ∧ s.heap.IsList l2 ys ∧ R (.ok (.ret (.ref (n4 true false s.heap l1 l2).objs.size))) { s with heap := n5 true false s.heap l1 l2 }) :=
  .of_wp fun prog w A R s h => by
    obtain ⟨hp, g, d, tk, os⟩ := s; obtain ⟨a1, a2, h⟩ := h; have hsub := sub_zip
    have b1 : (Shared.heap ⟨hp, g, d, tk, os⟩).IsTuple l1 xs := a1
    have b2 : (Shared.heap ⟨hp.push (io true l1), g, d, tk, os⟩).IsList l2 ys := Heap.IsList.push a2 _
    wp_walk using wpAny_pyIter_tuple b1, wpAny_pyIter_list b2
    exact ⟨_, rfl, h⟩
theorem new_ft (l1 l2 : Addr) (xs ys : Array Value) : Meets (Builtin.«zip.__new__» ⟨[.type "zip", .ref l1, .ref l2], []⟩) (fun _ R s => s.heap.IsList l1 xs ∧ s.heap.IsTuple l2 ys ∧ R (.ok (.ret (.ref (n4 false true s.heap l1 l2).objs.size))) { s with heap := n5 false true s.heap l1 l2 }) :=
  .of_wp fun prog w A R s h => by
    obtain ⟨hp, g, d, tk, os⟩ := s; obtain ⟨a1, a2, h⟩ := h; have hsub := sub_zip
    have b1 : (Shared.heap ⟨hp, g, d, tk, os⟩).IsList l1 xs := a1
    have b2 : (Shared.heap ⟨hp.push (io false l1), g, d, tk, os⟩).IsTuple l2 ys := Heap.IsTuple.push a2 _
    wp_walk using wpAny_pyIter_list b1, wpAny_pyIter_tuple b2
    exact ⟨_, rfl, h⟩
theorem new_any (t1 t2 : Bool) (l1 l2 : Addr) (xs ys : Array Value) : Meets (Builtin.«zip.__new__» ⟨[.type "zip", .ref l1, .ref l2], []⟩) (fun _ R s => Stand t1 s.heap l1 xs ∧ Stand t2 s.heap l2 ys ∧ R (.ok (.ret (.ref (n4 t1 t2 s.heap l1 l2).objs.size))) { s with heap := n5 t1 t2 s.heap l1 l2 }) := by
  cases t1 <;> cases t2
  · exact meets_zip_new l1 l2 xs ys
  · exact new_ft l1 l2 xs ys
  · exact new_tf l1 l2 xs ys
  · exact RZ.meets_zipT_new l1 l2 xs ys
section
variable {p : Program} {w : World} {A : Around} {E : Value → Shared → Prop} {s : Shared} {M N : Feed} {z TI TO : Addr} {i j : Nat} {a b : Value}
theorem zip_new {t1 t2 : Bool} {l1 l2 : Addr} {xs ys : Array Value} {Q : Value → Shared → Prop} (h1 : Stand t1 s.heap l1 xs) (h2 : Stand t2 s.heap l2 ys)
    (h : ∀ h', Stands (feed t1 s.heap.objs.size l1 xs) (feed t2 (s.heap.objs.size + 1) l2 ys) (s.heap.objs.size + 4) (s.heap.objs.size + 2) (s.heap.objs.size + 3) 0 0 h' → (∀ c o, s.heap.get? c = some o → h'.get? c = some o) → Q (.ref (s.heap.objs.size + 4)) { s with heap := h' }) :
    wpAny (model p w) A (call (.type "zip") [.ref l1, .ref l2]) Q E s := by
  refine callType_new F.called_zip (by decide) (F.typeCall_zip_2 _ _) (F.newCall_zip_2 _ _) (fun obj => F.args_object_init_3 obj _ _) F.entry_zip_new (new_any t1 t2 l1 l2 xs ys) ⟨h1, h2, ?_⟩
  have c1 : (n1 t1 s.heap l1).objs.size = s.heap.objs.size + 1 := Heap.size_push ..
  have c2 : (n2 t1 t2 s.heap l1 l2).objs.size = s.heap.objs.size + 2 := by rw [Heap.size_push, c1]
  have c3 : (n3 t1 t2 s.heap l1 l2).objs.size = s.heap.objs.size + 3 := by rw [Heap.size_push, c2]
  have c4 : (n4 t1 t2 s.heap l1 l2).objs.size = s.heap.objs.size + 4 := by rw [Heap.size_push, c3]
  have e5 : (n5 t1 t2 s.heap l1 l2).get? (n4 t1 t2 s.heap l1 l2).objs.size = some _ := Heap.get?_push_size _ rfl
  have e4 : (n5 t1 t2 s.heap l1 l2).get? (n3 t1 t2 s.heap l1 l2).objs.size = some _ := Heap.get?_push_of_some _ (Heap.get?_push_size _ rfl)
  have e3 : (n5 t1 t2 s.heap l1 l2).get? (n2 t1 t2 s.heap l1 l2).objs.size = some _ := Heap.get?_push_of_some _ (Heap.get?_push_of_some _ (Heap.get?_push_size _ rfl))
  have e2 : (n5 t1 t2 s.heap l1 l2).get? (n1 t1 s.heap l1).objs.size = some _ := Heap.get?_push_of_some _ (Heap.get?_push_of_some _ (Heap.get?_push_of_some _ (Heap.get?_push_size _ rfl)))
  have e1 : (n5 t1 t2 s.heap l1 l2).get? s.heap.objs.size = some _ := Heap.get?_push_of_some _ (Heap.get?_push_of_some _ (Heap.get?_push_of_some _ (Heap.get?_push_of_some _ (Heap.get?_push_size _ rfl))))
  show _ ∧ _
  rw [c2, c3, c4] at e5; rw [c1, c2] at e3; rw [c3] at e4; rw [c1] at e2; rw [c4]
  refine ⟨⟨_, e5, rfl⟩, h _ ⟨e5, by rw [feed_it, feed_it]; exact e3, ⟨_, _, e4⟩, feed_new e1, feed_new e2⟩ fun c o x => ?_⟩
  exact Heap.get?_push_of_some _ (Heap.get?_push_of_some _ (Heap.get?_push_of_some _ (Heap.get?_push_of_some _ (Heap.get?_push_of_some _ x))))
theorem turn_item {x y : Value} {Q : Option Value → Shared → Prop} (D : ZipApart z TI TO M.it N.it M.l N.l) (st : Stands M N z TI TO i j s.heap) (sf : M.src s.heap) (sg : N.src s.heap) (hx : M.xs[i]? = some x) (hy : N.xs[j]? = some y)
    (hQ : ∀ h', IsZip h' z TI TO (rawInt s.heap.objs.size) → IsPair h' TO x y → M.st (i + 1) h' → N.st (j + 1) h' → IsPair h' s.heap.objs.size x y → h'.objs.size = s.heap.objs.size + 1 →
      (∀ c o, c ≠ z → c ≠ TO → c ≠ M.it → c ≠ N.it → s.heap.get? c = some o → h'.get? c = some o) → Q (some (.ref s.heap.objs.size)) { s with heap := h' }) : wpAny (model p w) A (pyNext (.ref z)) Q E s := by
  have ty : s.TypeIs (.ref z) "zip" := ⟨_, st.z, rfl⟩
  unfold pyNext
  refine wpAny_bind (wpAny_attempt (wpAny_callSpecial?_slot (name := Str.ofString "__next__") ty F.slot_zip_next (wpAny_call_entry F.slot_zip_next ty F.entry_zip_next ?_ (F.args_zip_next_1 _))))
  exact next_item D st sf sg hx hy fun h' a1 a2 a3 a4 a5 a6 a7 => wpAny_pure (hQ h' a1 a2 a3 a4 a5 a6 a7)
theorem turn_end {Q : Option Value → Shared → Prop} (hh : A.handled = none) (D : ZipApart z TI TO M.it N.it M.l N.l) (st : Stands M N z TI TO i j s.heap) (sf : M.src s.heap) (sg : N.src s.heap) (hend : M.xs[i]? = none ∨ N.xs[j]? = none)
    (hQ : ∀ h', (∀ c o, c ≠ z → c ≠ TO → c ≠ M.it → c ≠ N.it → s.heap.get? c = some o → h'.get? c = some o) → Q none { s with heap := h' }) : wpAny (model p w) A (pyNext (.ref z)) Q E s := by
  have ty : s.TypeIs (.ref z) "zip" := ⟨_, st.z, rfl⟩
  unfold pyNext
  refine wpAny_bind (wpAny_attempt (wpAny_callSpecial?_slot (name := Str.ofString "__next__") ty F.slot_zip_next (wpAny_call_entry F.slot_zip_next ty F.entry_zip_next (next_end hh D st sf sg hend fun h' e k he => ?_) (F.args_zip_next_1 _))))
  obtain ⟨o, h1, h2⟩ := he
  exact wpAny_bind (wpAny_isInstance (T := "StopIteration") (b := true) ⟨o, h1, h2⟩ isSubtype_stop (wpAny_pure (hQ _ k)))
end
end ZX

set_option Elab.async false
set_option linter.all false
set_option maxRecDepth 100000
set_option maxHeartbeats 4000000
/-! comprehensions over zip -/
namespace DL
open PySem PySem.Spec PyProof.Rows L2 ZX
/-- t: a tuple, else a list -/
def SqB (K : PySem.W.Frag) : Bool → Hp → Addr → List V → Prop
  | true => fun H a xs => SqT K H a xs
  | false => fun H a xs => SqL K H a xs
theorem SqB.stand {X : Cx} {pins : List (Addr × Obj)} {σ : L2.St} {H : Hp} {s : Shared} {t : Bool} {a : Addr} {xs : List V} (I : Inv X pins σ H s) (h : SqB X.K t H a xs) : ∃ its : List Value, Vals xs its ∧ Stand t s.heap a its.toArray := by
  cases t with
  | true =>
    obtain ⟨its, rv, q, _⟩ := I.tuple h
    exact ⟨its, rv, q⟩
  | false =>
    obtain ⟨its, rv, q, _⟩ := I.list h
    exact ⟨its, rv, q.isList⟩
theorem SqB.inj {X : Cx} {pins : List (Addr × Obj)} {σ : L2.St} {H : Hp} {s : Shared} {t : Bool} {a : Addr} {xs ys : List V} (I : Inv X pins σ H s) (h : SqB X.K t H a xs) (h' : SqB X.K t H a ys) : xs = ys := by
  cases t with
  | true => exact I.tuple_inj h h'
  | false => exact I.list_inj h h'
theorem stand_lt {t : Bool} {h : Heap} {a : Addr} {xs : Array Value} (e : Stand t h a xs) : a < h.objs.size := by
  cases t <;> obtain ⟨o, e, _⟩ := e <;> exact Heap.lt_size e
/-- the two sequences as they stand at each turn, the items in new pairs -/
def Itm (K : PySem.W.Frag) (t u : Bool) (a b : Addr) : It where
  go := fun i H => ∃ (xs ys : List V) (x y : V), SqB K t H a xs ∧ SqB K u H b ys ∧ xs[i]? = some x ∧ ys[i]? = some y
  yld := fun i H v H' => ∃ T x y, v = .ref T ∧ H T = none ∧ H' = upd H T (.tup [x, y]) ∧ (∀ xs, SqB K t H a xs → xs[i]? = some x) ∧ ∀ ys, SqB K u H b ys → ys[i]? = some y
  stop := fun i H => ∃ xs ys : List V, SqB K t H a xs ∧ SqB K u H b ys ∧ (xs.length ≤ i ∨ ys.length ≤ i)
/-- the iterators go through a, b, whatever these hold -/
def Goes (t u : Bool) (i1 i2 a b z TI TO : Addr) (i : Nat) (h : Heap) : Prop := Stands (feed t i1 a #[]) (feed u i2 b #[]) z TI TO i i h
theorem feed_st {t : Bool} {it l : Addr} {xs ys : Array Value} {k : Nat} {h : Heap} : (feed t it l xs).st k h ↔ (feed t it l ys).st k h := by cases t <;> exact Iff.rfl
theorem stands_of {t u : Bool} {i1 i2 a b z TI TO : Addr} {i : Nat} {h : Heap} {xs ys xs' ys' : Array Value} (s : Stands (feed t i1 a xs) (feed u i2 b ys) z TI TO i i h) : Stands (feed t i1 a xs') (feed u i2 b ys') z TI TO i i h :=
  ⟨s.z, by have q := s.ti; rw [feed_it, feed_it] at q ⊢; exact q, s.to, feed_st.mp s.f, feed_st.mp s.g⟩
theorem apart_of {t u : Bool} {i1 i2 a b z TI TO : Addr} {xs ys : Array Value} (D : ZipApart z TI TO i1 i2 a b) : ZipApart z TI TO (feed t i1 a xs).it (feed u i2 b ys).it (feed t i1 a xs).l (feed u i2 b ys).l := by
  rw [feed_it, feed_it, feed_l, feed_l]
  exact D
theorem turn_m {P : Program} {w : World} {K : PySem.W.Frag} {elts : List Expr} {kk : Nat} {tpos : Pos} {t u : Bool} {a b z TI TO i1 i2 : Addr} (D : ZipApart z TI TO i1 i2 a b) : Turn P w K (.Tuple elts kk tpos) (Itm K t u a b) [z, TI, TO, i1, i2] z (Goes t u i1 i2 a b z TI TO) where
  mem := by simp
  obj := fun i h st c hc => by
    obtain ⟨x, y, hTO⟩ := st.to
    have e' : c = z ∨ c = TI ∨ c = TO ∨ c = i1 ∨ c = i2 := by simpa using hc
    rcases e' with q | q | q | q | q
    · subst q; exact ⟨_, st.z, fun v q => nomatch q⟩
    · subst q; exact ⟨_, st.ti, fun v q => nomatch q⟩
    · subst q; exact ⟨_, hTO, fun v q => nomatch q⟩
    · subst q; have r := (feed t c a #[]).obj st.f; rw [feed_it] at r; exact r
    · subst q; have r := (feed u c b #[]).obj st.g; rw [feed_it] at r; exact r
  keep := fun i h h' st k => by
    obtain ⟨x, y, hTO⟩ := st.to
    refine ⟨k z (by simp) _ st.z, k TI (by simp) _ st.ti, ⟨x, y, k TO (by simp) _ hTO⟩, (feed t i1 a #[]).same st.f fun o q => ?_, (feed u i2 b #[]).same st.g fun o q => ?_⟩
    · rw [feed_it] at q ⊢; exact k i1 (by simp) o q
    · rw [feed_it] at q ⊢; exact k i2 (by simp) o q
  item := by
    intro X hP hw hK hc i pins s σ H E I hf st hg
    subst hP hw hK
    obtain ⟨xs, ys, x, y, qx, qy, hx, hy⟩ := hg
    obtain ⟨m1, r1, p1⟩ := qx.stand I
    obtain ⟨m2, r2, p2⟩ := qy.stand I
    obtain ⟨v1, e1, rv1⟩ := r1.get hx
    obtain ⟨v2, e2, rv2⟩ := r2.get hy
    have st' : Stands (feed t i1 a m1.toArray) (feed u i2 b m2.toArray) z TI TO i i s.heap := stands_of st
    have zlt : z < s.heap.objs.size := Heap.lt_size st.z
    refine turn_item (apart_of D) st' (feed_src p1) (feed_src p2) (x := v1) (y := v2) (by rw [feed_xs]; simpa using e1) (by rw [feed_xs]; simpa using e2) fun h' z' t' f' g' T' size' keep => ?_
    rw [feed_it, feed_it] at keep
    refine ⟨_, rfl, wpAny_letOwnedTupleGo_zip (s := { s with heap := h' }) z' fun h'' z'' sb => ?_⟩
    have T2 : h''.get? s.heap.objs.size = some { cls := .type "tuple", data := .seq #[v1, v2] } := (sb.2 _ (Nat.ne_of_gt zlt)).trans T'
    have new : ObjOk X.prog X.w (upd H s.heap.objs.size (.tup [x, y])) h'' s.heap.objs.size (.tup [x, y]) := ⟨by show 2 ≤ sizeLine; decide, [v1, v2], .cons rv1 (.cons rv2 .nil), ⟨_, T2, rfl, _, rfl⟩⟩
    have far : ∀ c, c ∉ [z, TI, TO, i1, i2] → c ≠ z ∧ c ≠ TO ∧ c ≠ i1 ∧ c ≠ i2 := fun c hb => ⟨fun q => hb (by simp [q]), fun q => hb (by simp [q]), fun q => hb (by simp [q]), fun q => hb (by simp [q])⟩
    have I1 : Inv X pins σ (upd H s.heap.objs.size (.tup [x, y])) { s with heap := h'' } :=
      I.turnedNew (t' := s.toks) (ch := [z, TI, TO, i1, i2]) (fun c o hb q => let ⟨q1, q2, q3, q4⟩ := far c hb; (sb.2 c q1).trans (keep c o q1 q2 q3 q4 q)) hf (Nat.le_refl _) new
    refine ⟨.ref s.heap.objs.size, _, I1, rfl, ⟨_, x, y, rfl, I.hok.fresh (Nat.le_refl _), rfl, fun l hl => by rw [hl.inj I qx]; exact hx, fun l hl => by rw [hl.inj I qy]; exact hy⟩, ⟨z'', ?_, ⟨v1, v2, ?_⟩, ?_, ?_⟩, fun c hcm => ?_⟩
    · have e := keep _ _ D.TIz D.TITO D.TIi1 D.TIi2 st.ti
      exact (sb.2 _ D.TIz).trans e
    · exact (sb.2 _ D.TOz).trans t'
    · refine feed_st.mp ((feed t i1 a m1.toArray).same f' fun o q => ?_)
      rw [feed_it] at q ⊢
      exact (sb.2 _ D.i1z).trans q
    · refine feed_st.mp ((feed u i2 b m2.toArray).same g' fun o q => ?_)
      rw [feed_it] at q ⊢
      exact (sb.2 _ D.i2z).trans q
    · have lt : c < s.heap.objs.size := by
        have e' : c = z ∨ c = TI ∨ c = TO ∨ c = i1 ∨ c = i2 := by simpa using hcm
        rcases e' with q | q | q | q | q
        · rw [q]; exact zlt
        · rw [q]; exact Heap.lt_size st.ti
        · obtain ⟨_, _, e⟩ := st.to; rw [q]; exact Heap.lt_size e
        · obtain ⟨_, e, _⟩ := (feed t i1 a #[]).obj st.f; rw [feed_it] at e; rw [q]; exact Heap.lt_size e
        · obtain ⟨_, e, _⟩ := (feed u i2 b #[]).obj st.g; rw [feed_it] at e; rw [q]; exact Heap.lt_size e
      rw [upd_ne (Nat.ne_of_lt lt)]
      exact (hf c hcm).1
  done := by
    intro X hP hw hK hc i pins s σ H E I hf st hg
    subst hP hw hK
    obtain ⟨xs, ys, qx, qy, hend⟩ := hg
    obtain ⟨m1, r1, p1⟩ := qx.stand I
    obtain ⟨m2, r2, p2⟩ := qy.stand I
    have l1 := r1.length
    have l2 := r2.length
    have st' : Stands (feed t i1 a m1.toArray) (feed u i2 b m2.toArray) z TI TO i i s.heap := stands_of st
    refine turn_end (I.ok.hd hc) (apart_of D) st' (feed_src p1) (feed_src p2) ?_ fun h' keep => ?_
    · rw [feed_xs, feed_xs]
      rcases hend with q | q
      · exact .inl (by simp; omega)
      · exact .inr (by simp; omega)
    · rw [feed_it, feed_it] at keep
      exact ⟨rfl, I.turnedL (t' := s.toks) (ch := [z, TI, TO, i1, i2]) (fun c o hb q => keep c o (fun q' => hb (by simp [q'])) (fun q' => hb (by simp [q'])) (fun q' => hb (by simp [q'])) (fun q' => hb (by simp [q'])) q) hf⟩
  self := fun A i s Q E st h => wpAny_pyIter_zip st.z h
def iZm (K : PySem.W.Frag) (ta : TA) : TI := fun σ H R => ta σ H fun vs H1 => ∃ t u a b xs ys, vs = [.ref a, .ref b] ∧ SqB K t H1 a xs ∧ SqB K u H1 b ys ∧ R (Itm K t u a b) H1
theorem pi_zm {X : Cx} {e e2 : Expr} {ta : TA} {p pos tpos : Pos} {elts : List Expr} {kk : Nat} (hg : Gl X "zip") (hm : X.mg "zip" = none) (ha : PA X [e, e2] ta)
    (hs : starEach [e, e2] X.env = (false, eval e X.env) :: starEach [e2] X.env) (hpl : (backTo pos (starEach [e2] X.env)).any (·.1) = false) : PI X (.Tuple elts kk tpos) (.Call (.Name "zip" p) [e, e2] [] pos) (iZm X.K ta) := by
  refine ⟨fun pins s σ H R I h => Call_ (ld_blt I hg hm PyProof.Rows.boot_zip (PyProof.Rows.callWith_type1 (thn (ha.run pos pins s σ H _ I h) fun us s1 ⟨vs, H1, I1, rv, q1⟩ => ?_) hs hpl))⟩
  obtain ⟨t, u, a, b, xs, ys, rfl, qx, qy, q⟩ := q1
  obtain ⟨v1, v2, rfl, r1, r2⟩ := (show ∃ v1 v2, us = [v1, v2] ∧ RelV (.ref a) v1 ∧ RelV (.ref b) v2 from by
    cases rv with
    | cons r rr => cases rr with
      | cons r' rr => cases rr; exact ⟨_, _, rfl, r, r'⟩)
  cases r1
  cases r2
  obtain ⟨m1, w1, p1⟩ := qx.stand I1
  obtain ⟨m2, w2, p2⟩ := qy.stand I1
  refine zip_new p1 p2 fun h' st hk => wpAny_pyIter_zip st.z ?_
  have I2 : Inv X pins σ H1 { s1 with heap := h' } := I1.kept (t' := s1.toks) hk
  refine ⟨s1.heap.objs.size + 4, [s1.heap.objs.size + 4, s1.heap.objs.size + 2, s1.heap.objs.size + 3, s1.heap.objs.size, s1.heap.objs.size + 1], _, _, H1, rfl, I2, turn_m (PySem.W.ktu_apart s1.heap.objs.size a b (stand_lt p1) (stand_lt p2)), stands_of st, fun c hc => ?_, q⟩
  have le : s1.heap.objs.size ≤ c := by
    have e' : c = s1.heap.objs.size + 4 ∨ c = s1.heap.objs.size + 2 ∨ c = s1.heap.objs.size + 3 ∨ c = s1.heap.objs.size ∨ c = s1.heap.objs.size + 1 := by simpa using hc
    rcases e' with q | q | q | q | q <;> rw [q]
    · exact Nat.le_add_right _ _
    · exact Nat.le_add_right _ _
    · exact Nat.le_add_right _ _
    · exact Nat.le_refl _
    · exact Nat.le_add_right _ _
  exact I1.fpOk le (I1.hok.fresh le)

/-- a list or a tuple of these -/
def SeqD (d : D) (l : List D) : Prop := d = .lst l ∨ d = .tup l
theorem SeqD.at {K : PySem.W.Frag} {I : Hp} {d : D} {l : List D} {v : V} (s : SeqD d l) (n : Dn K I d v) : ∃ t a xs, v = .ref a ∧ Dns K I l xs ∧ ∀ H, Ex I H → SqB K t H a xs := by
  rcases s with rfl | rfl
  · cases n with
    | lst h m => exact ⟨false, _, _, rfl, m, fun H e => SqL.of (e _ _ h)⟩
  · cases n with
    | tup h m => exact ⟨true, _, _, rfl, m, fun H e => SqT.of (e _ _ h)⟩
section
variable {X : Cx} {B : Hp} {S : En} {pos : Pos} {e e2 : Expr}
/-- [elt for g in zip(e, e2)] -/
theorem fd_lcZ {elt : Expr} {elts : List Expr} {kk : Nat} {tpos p1 pos1 : Pos} {scope : Scope} {own : List (Str × Nat)} {g : TG} {Q : List D → Prop} (l l' : List D) (J : Nat → List D → Prop) (S' : D → D → En) (hc : X.calm = true) (hN : X.N.Nodup) (hm : X.mg "zip" = none) (ok : BlkOk X.N X.env.scope scope own)
    (hg : ∀ (s : Shared) (H : Hp) (C : Addr) (cl : List (Str × Addr)) (fp : List Addr), PG (X.blk s H scope (compEnvC scope cl C X.env) fp) (.Tuple elts kk tpos) g)
    (h : AD X B S [e, e2] fun as => ∃ d d', as = [.val d, .val d'] ∧ SeqD d l ∧ SeqD d' l' ∧ l.length ≤ 50000 ∧ J 0 []) (hp : ∀ d d', Pat X.K g (own.map (·.2)) S (.tup [d, d']) (S' d d'))
    (he : ∀ (i : Nat) d d' acc, l[i]? = some d → l'[i]? = some d' → acc.length = i → J i acc → ∀ (s : Shared) (H0 : Hp) (C : Addr) (cl : List (Str × Addr)) (fp : List Addr), ED (X.blk s H0 scope (compEnvC scope cl C X.env) fp) B (S' d d') elt fun y => J (i + 1) (acc ++ [y]))
    (hd : ∀ acc i, acc.length = i → J i acc → i ≤ l.length → i ≤ l'.length → (l.length ≤ i ∨ l'.length ≤ i) → Q acc) (hgl : Gl X "zip" := by rfl)
    (hst : starEach [e, e2] X.env = (false, eval e X.env) :: starEach [e2] X.env := by rfl) (hpl : (backTo pos1 (starEach [e2] X.env)).any (·.1) = false := by rfl)
    (hs : ∀ x, foldedSetIterable (.Call (.Name "zip" p1) [e, e2] [] pos1) X.env x = pure x := by intro _; rfl) : FD X B S (.ListComp elt [⟨.Tuple elts kk tpos, .Call (.Name "zip" p1) [e, e2] [] pos1, [], 0⟩] scope pos) Q := fun σ W H r R k => by
  refine PE.w (pe_lc (te := WEb X scope elt) hc hN (pi_zm hgl hm wa_pa hst hpl) ok hg (fun _ _ _ _ _ => pts_nil) web_pe hs) ?_
  refine h σ W H r _ fun as vs W1 H1 s1 ok1 n1 q1 => ?_
  obtain ⟨d, d', rfl, sd, sd', hz, j0⟩ := q1
  obtain ⟨v, v', rfl, m, m'⟩ := two_args n1
  obtain ⟨t, a, xs, rfl, w, hx⟩ := sd.at m
  obtain ⟨u, b, ys, rfl, w', hy⟩ := sd'.at m'
  refine ⟨t, u, a, b, xs, ys, rfl, hx _ ok1.ex, hy _ ok1.ex, fun p hp0 => ?_⟩
  have r1 := r.step s1 ok1
  refine ⟨fun i n H' => n = xs.length - i ∧ i ≤ xs.length ∧ i ≤ ys.length ∧ ∃ acc W', Mid X.K (gOf X) W1 H1 p acc W' H' ∧ acc.length = i ∧ J i acc, ⟨xs.length, rfl, Nat.zero_le _, Nat.zero_le _, [], W1, ⟨Stp.own hp0, ok1.own hp0, ok1.notP hp0, ok1.free hp0, [], upd_same, .nil⟩, rfl, j0⟩, ?_⟩
  rintro i n H' ⟨rfl, lx, ly, acc, W', mm, hl, j⟩
  have qx := hx H' fun c o z => mm.ok.ex _ _ (mm.st.I _ _ z)
  have qy := hy H' fun c o z => mm.ok.ex _ _ (mm.st.I _ _ z)
  by_cases c : i < xs.length ∧ i < ys.length
  · have ex : xs[i]? = some xs[i] := List.getElem?_eq_getElem c.1
    have ey : ys[i]? = some ys[i] := List.getElem?_eq_getElem c.2
    refine .inr ⟨⟨xs, ys, _, _, qx, qy, ex, ey⟩, fun H' => ∃ acc W', Mid X.K (gOf X) W1 H1 p acc W' H' ∧ acc.length = i + 1 ∧ J (i + 1) acc, fun H2 z => ⟨xs.length - (i + 1), by omega, rfl, c.1, c.2, z⟩, ?_⟩
    rintro x H2 ⟨T, x1, y1, rfl, hT, rfl, f1, f2⟩
    have e1 := f1 xs qx
    have e2 := f2 ys qy
    obtain ⟨d1, hd1, nd1⟩ := w.get e1
    obtain ⟨d2, hd2, nd2⟩ := w'.get e2
    have sn := Stp.new (o := .tup [x1, y1]) mm.ok hT
    have okn := mm.ok.new (o := .tup [x1, y1]) hT
    have mn := mm.step sn okn
    have nt : Dn X.K (W'.new T (.tup [x1, y1])).I (.tup [d1, d2]) (.ref T) := .tup upd_same (.cons ((nd1.mono mm.st.I).mono sn.I) (.cons ((nd2.mono mm.st.I).mono sn.I) .nil))
    refine hp d1 d2 (gOf X) B σ _ _ _ ((r1.step mm.st mm.ok).step sn okn) nt _ fun σ2 e3 r3 => ⟨e3, ?_⟩
    show WEb X scope elt σ2 _ _
    intro s H0 C cl fp
    refine he i d1 d2 acc hd1 hd2 hl j s H0 C cl fp σ2 _ _ r3 _ fun y v W2 H3 s2 ok2 n2 q2 => ?_
    have li : i < l.length := by rw [w.length]; exact c.1
    obtain ⟨xs', g1, g3, m3⟩ := (mn.step s2 ok2).more hp0 n2 (by omega)
    exact ⟨xs', g1, g3, _, W2, m3, by simp [hl], q2⟩
  · refine .inl ⟨⟨xs, ys, qx, qy, by omega⟩, ?_⟩
    obtain ⟨zs, hH, ds⟩ := mm.h
    refine k acc p zs W' H' (s1.trans ok1 mm.st) mm.ok (s1.free ok1 hp0) mm.n mm.i hH ds (hd acc i hl j ?_ ?_ ?_)
    · rw [w.length]; exact lx
    · rw [w'.length]; exact ly
    · rw [w.length, w'.length]; omega
end
end DL

set_option Elab.async false
set_option linter.all false
set_option maxRecDepth 100000
set_option maxHeartbeats 4000000
/-! a list of lists that change -/
namespace DL
open PySem PySem.Spec PyProof.Rows L2
theorem ok_upd {g : List Code} {W : Wd} {H : Hp} {q : Addr} {o : HO} (ok : Ok g W H) (n : ¬ W.P q) (i : W.I q = none) (ht : ∀ xs, o ≠ .tup xs := by exact fun _ z => by cases z) : Ok g W (upd H q o) where
  gd := fun b hb => by
    obtain ⟨n1, n2⟩ := ok.gd b hb
    refine ⟨n1, ?_⟩
    by_cases z : b = q
    · subst z
      rw [upd_same]
      exact ⟨(fun z => by cases z), (fun _ z => ht _ (Option.some.inj z))⟩
    · rw [upd_ne z]
      exact n2
  ex := fun b u hb => by
    rw [upd_ne (fun y => by rw [y, i] at hb; cases hb)]
    exact ok.ex b u hb
  pot := fun b hb => by
    obtain ⟨nb, y2, w2, h2⟩ := ok.pot b hb
    have ne : b ≠ q := fun y => n (y ▸ hb)
    exact ⟨nb, y2, w2, by rw [upd_ne ne]; exact h2⟩
theorem stp_upd {W W0 : Wd} {B H : Hp} {q : Addr} {o : HO} (z : Stp W0 B W H) (hB : B q = none) : Stp W0 B W (upd H q o) :=
  ⟨z.I, z.P, fun b u hb hn => by rw [upd_ne (ne_of_none hb hB)]; exact z.keep b u hb hn, z.old, z.oldP⟩
theorem ixN_lt {n j : Nat} (hj : j < n) : ixN n (j : Int) = some j := by
  unfold ixN
  rw [if_pos (by omega), if_pos (by omega), Int.toNat_natCast]
/-- a new list at p of new lists at qs: each at one place alone -/
structure Nest (K : PySem.W.Frag) (B : Hp) (W : Wd) (H : Hp) (p : Addr) (qs : List Addr) (rows : List (List D)) : Prop where
  b : B p = none
  n : ¬ W.P p
  i : W.I p = none
  h : H p = some (.lst (qs.map V.ref))
  nd : (p :: qs).Nodup
  len : qs.length = rows.length
  row : ∀ (j : Nat) q l, qs[j]? = some q → rows[j]? = some l → B q = none ∧ ¬ W.P q ∧ W.I q = none ∧ ∃ xs, H q = some (.lst xs) ∧ Dns K W.I l xs
section
variable {K : PySem.W.Frag} {B : Hp} {W W1 : Wd} {H H1 : Hp} {p : Addr} {qs : List Addr} {rows : List (List D)}
end
def plainS : Option Sl → Bool
  | some (.own _) => false
  | some (.ownT _) => false
  | some (.inst _ _ _ _) => false
  | _ => true
def PlainE (S : En) : Bool := S.all plainS
theorem PlainE.at {S : En} (h : PlainE S = true) {i : Nat} {s : Sl} (e : S[i]? = some (some s)) : (∃ d, s = .val d) ∨ s = .pot := by
  have := List.all_eq_true.mp h _ (List.mem_of_getElem? e)
  cases s with
  | val d => exact .inl ⟨d, rfl⟩
  | pot => exact .inr rfl
  | own l => cases this
  | inst _ _ _ _ => cases this
  | ownT _ => cases this
theorem Rep.base {K : PySem.W.Frag} {g : List Code} {B B' : Hp} {S : En} {σ : L2.St} {W : Wd} {H H' : Hp} (r : Rep K g B S σ W H) (h : PlainE S = true) (ok : Ok g W H') (gb : ∀ b, InG g b → B' b ≠ none) : Rep K g B' S σ W H' where
  ok := ok
  gb := gb
  len := r.len
  sl := fun i s e => by
    obtain ⟨v, e1, q⟩ := r.sl i s e
    refine ⟨v, e1, ?_⟩
    rcases PlainE.at h e with ⟨d, rfl⟩ | rfl
    · exact q
    · exact q
  dist := fun i j l m p n e1 _ _ => by
    rcases PlainE.at h e1 with ⟨d, z⟩ | z <;> cases z
  distT := fun i j l m p n e1 _ _ => by
    rcases PlainE.at h e1 with ⟨d, z⟩ | z <;> cases z
structure NEnds where
  nx : En → List (List D) → Prop
  rt : D → Prop
structure NSub (K : PySem.W.Frag) (g : List Code) (B : Hp) (W0 : Wd) (I : Hp) (p : Addr) (qs : List Addr) (E : NEnds) (D' : Ends) : Prop where
  nx : ∀ S σ W H rows, Rep K g B S σ W H → PlainE S = true → Nest K B W H p qs rows → Stp W0 B W H → Ex I W.I → E.nx S rows → D'.nx σ H
  rt : ∀ d v W H, Ok g W H → Stp W0 B W H → Ex I W.I → Dn K W.I d v → E.rt d → D'.rt v H
section
variable (X : Cx) (B : Hp) (W0 : Wd) (p : Addr) (qs : List Addr) (S : En) (rows : List (List D))
def NED (e : Expr) (Q : D → Prop) : Prop := ∀ σ W H, Rep X.K (gOf X) B S σ W H → Nest X.K B W H p qs rows → ∀ R, Cont X.K (gOf X) W H Q R → WE X e σ H R
def NGD (tg : Expr) (d : D) (Q : List (List D) → Prop) : Prop := ∀ σ W H v, Rep X.K (gOf X) B S σ W H → PlainE S = true → Nest X.K B W H p qs rows → Stp W0 B W H → Dn X.K W.I d v → ∀ R, (∀ rows' H', Rep X.K (gOf X) B S σ W H' → Nest X.K B W H' p qs rows' → Stp W0 B W H' → Q rows' → R σ H') → WG X tg v σ H R
def NSD (st : Stmt) (E : NEnds) : Prop := ∀ σ W H, Rep X.K (gOf X) B S σ W H → PlainE S = true → Nest X.K B W H p qs rows → Stp W0 B W H → ∀ D', NSub X.K (gOf X) B W0 W.I p qs E D' → WS X st D' σ H
def NSDs (sts : List Stmt) (E : NEnds) : Prop := ∀ σ W H, Rep X.K (gOf X) B S σ W H → PlainE S = true → Nest X.K B W H p qs rows → Stp W0 B W H → ∀ D', NSub X.K (gOf X) B W0 W.I p qs E D' → WSs X sts D' σ H
end
section
variable {X : Cx} {B : Hp} {W0 : Wd} {p : Addr} {qs : List Addr} {S : En} {rows : List (List D)} {st : Stmt} {sts : List Stmt} {E : NEnds} {pos : Pos} {e a b c : Expr} {Q : D → Prop}
end
end DL

set_option Elab.async false
set_option linter.all false
set_option maxRecDepth 100000
set_option maxHeartbeats 4000000
/-! lists of lists: made, given away; an owned list changed at a place, shortened -/
namespace DL
open PySem PySem.Spec PyProof.Rows L2
theorem Rep.putOwn {K : PySem.W.Frag} {g : List Code} {B : Hp} {S : En} {σ : L2.St} {W : Wd} {H : Hp} {i : Nat} {l l' : List D} {p : Addr} {xs xs' : List V} (r : Rep K g B S σ W H) (h : S[i]? = some (some (.own l))) (e1 : σ[i]? = some (some (.ref p))) (hB : B p = none) (n : ¬ W.P p) (hI : W.I p = none) (hH : H p = some (.lst xs)) (d : Dns K W.I l' xs') :
    Rep K g B (S.set i (some (.own l'))) σ W (upd H p (.lst xs')) := by
  have lt : i < S.length := (List.getElem?_eq_some_iff.mp h).1
  refine ⟨ok_upd r.ok n hI, r.gb, by simpa using r.len, fun j s ej => ?_, fun a b la lb q ne e2 e3 e4 => ?_, r.distT.setS i fun l z => by cases z⟩
  · by_cases q : i = j
    · subst q
      rw [List.getElem?_set_self lt] at ej
      cases ej
      exact ⟨_, e1, p, _, rfl, hB, n, hI, upd_same, d⟩
    · rw [List.getElem?_set_ne q] at ej
      obtain ⟨v2, e2, h2⟩ := r.sl j s ej
      refine ⟨v2, e2, ?_⟩
      cases s with
      | val d2 => exact h2
      | pot => exact h2
      | own m =>
        obtain ⟨p2, ys, rfl, b1, b2, b3, b4, b5⟩ := h2
        refine ⟨p2, ys, rfl, b1, b2, b3, ?_, b5⟩
        rw [upd_ne (fun y => by
          rw [y] at e2
          exact r.dist i j l m p q h ej e1 e2)]
        exact b4
      | ownT m =>
        obtain ⟨p2, ys, rfl, b1, b2, b3, b4, b5⟩ := h2
        refine ⟨p2, ys, rfl, b1, b2, b3, ?_, b5⟩
        rw [upd_ne (fun y => by rw [y, hH] at b4; cases b4)]
        exact b4
      | inst C p2 dx fs =>
        obtain ⟨vs, rfl, b1, b2, b3, b4, b5, b6, b7, b8, b9, b10⟩ := h2
        refine ⟨vs, rfl, b1, b2, b3, b4, b5, b6, b7, ?_, ?_, b10⟩
        · rw [upd_ne (fun y => by rw [y, hH] at b8; cases b8)]
          exact b8
        · rw [upd_ne (fun y => by rw [y, hH] at b9; cases b9)]
          exact b9
  · have g : ∀ {c : Nat} {m : List D}, (S.set i (some (.own l')))[c]? = some (some (.own m)) → ∃ m', S[c]? = some (some (.own m')) := fun {c m} ec => by
      by_cases q2 : i = c
      · subst q2
        exact ⟨l, h⟩
      · rw [List.getElem?_set_ne q2] at ec
        exact ⟨m, ec⟩
    obtain ⟨m1, g1⟩ := g e2
    obtain ⟨m2, g2⟩ := g e3
    exact r.dist a b m1 m2 q ne g1 g2 e4
section
variable {K : PySem.W.Frag} {g : List Code} {B : Hp} {W0 W : Wd} {H : Hp} {p : Addr} {qs : List Addr} {rows : List (List D)}
end
section
variable (X : Cx) (B : Hp) (W0 : Wd) (p : Addr) (qs : List Addr) (S : En) (rows : List (List D))
/-- from lists of lists on, to where they are given away -/
def NF (st : Stmt) (E : Ends') : Prop := ∀ σ W H, Rep X.K (gOf X) B S σ W H → PlainE S = true → Nest X.K B W H p qs rows → Stp W0 B W H → ∀ D', Sub X.K (gOf X) B W0 W.I E D' → WS X st D' σ H
def NFs (sts : List Stmt) (E : Ends') : Prop := ∀ σ W H, Rep X.K (gOf X) B S σ W H → PlainE S = true → Nest X.K B W H p qs rows → Stp W0 B W H → ∀ D', Sub X.K (gOf X) B W0 W.I E D' → WSs X sts D' σ H
/-- an expression that makes such lists -/
def NE (S : En) (e : Expr) (Q : List (List D) → Prop) : Prop := ∀ σ W H, Rep X.K (gOf X) B S σ W H → ∀ R : VK, (∀ p qs rows W' H', Stp W H W' H' → Ok (gOf X) W' H' → Nest X.K H W' H' p qs rows → Q rows → R (.ref p) H') → WE X e σ H R
end
section
variable {X : Cx} {B : Hp} {W0 : Wd} {p : Addr} {qs : List Addr} {S : En} {rows : List (List D)} {st : Stmt} {sts : List Stmt} {E : Ends'} {pos : Pos} {e e2 a b c : Expr}
end
end DL

set_option Elab.async false
set_option linter.all false
set_option maxRecDepth 100000
set_option maxHeartbeats 4000000
/-! lists of lists by comprehensions; x[i].append, x.pop(i), x[i] = .. -/
namespace DL
open PySem PySem.Spec PyProof.Rows L2
theorem dns_take {K : PySem.W.Frag} {I : Hp} : ∀ (n : Nat) {l : List D} {xs : List V}, Dns K I l xs → Dns K I (l.take n) (xs.take n)
  | 0, _, _, _ => .nil
  | _ + 1, _, _, .nil => .nil
  | n + 1, _, _, .cons h r => .cons h (dns_take n r)
theorem dns_drop {K : PySem.W.Frag} {I : Hp} : ∀ (n : Nat) {l : List D} {xs : List V}, Dns K I l xs → Dns K I (l.drop n) (xs.drop n)
  | 0, _, _, h => h
  | _ + 1, _, _, .nil => .nil
  | n + 1, _, _, .cons h r => dns_drop n r
def NLC (X : Cx) (B : Hp) (S : En) (t : TE) (Q : List (List D) → Prop) : Prop := ∀ σ W H, Rep X.K (gOf X) B S σ W H → ∀ R : VK, (∀ p qs rows W' H', Stp W H W' H' → Ok (gOf X) W' H' → Nest X.K H W' H' p qs rows → Q rows → R (.ref p) H') → t σ H R
structure Mid2 (K : PySem.W.Frag) (g : List Code) (W1 : Wd) (H1 : Hp) (p : Addr) (qs : List Addr) (rows : List (List D)) (W : Wd) (H : Hp) : Prop where
  st : Stp W1 H1 W H
  ok : Ok g W H
  m : Nest K H1 W H p qs rows
section
variable {X : Cx} {B : Hp} {W0 : Wd} {S : En} {st : Stmt} {sts : List Stmt} {E : Ends'} {pos : Pos} {e e2 a b c : Expr}
/-- list(e), e a list or a tuple -/
theorem fd_list {p : Pos} {Q : List D → Prop} (hm : X.mg "list" = none) (h : ED X B S e fun d => ∃ l, SeqD d l ∧ Q l) (hv : bootBuiltins "list" = some (.type "list") := by first | rfl | decide +kernel) (hg : Gl X "list" := by rfl)
    (he : starEach [e] X.env = (false, eval e X.env) :: starEach [] X.env := by rfl) (hpl : (backTo pos (starEach [] X.env)).any (·.1) = false := by rfl) : FD X B S (.Call (.Name "list" p) [e] [] pos) Q := fun σ W H r R k => by
  refine PE.w (pe_callTy call_list_of hg hm hv (pa_cons we_pe pa_nil he) (by decide) (by decide) he hpl) ?_
  refine h σ W H r _ fun d v W1 H1 s1 ok1 n1 q1 => ?_
  obtain ⟨l, sd, q1⟩ := q1
  obtain ⟨t, a, xs, rfl, w, hx⟩ := sd.at n1
  refine ⟨a, xs, rfl, ?_, fun p hp => ?_⟩
  · cases t with
    | false => exact .inl (hx _ ok1.ex)
    | true => exact .inr (hx _ ok1.ex)
  · exact k l p xs W1 _ (s1.trans ok1 (Stp.own hp)) (ok1.own hp) (s1.free ok1 hp) (ok1.notP hp) (ok1.free hp) upd_same w q1
end
end DL

set_option Elab.async false
set_option linter.all false
set_option maxRecDepth 100000
set_option maxHeartbeats 4000000
/-! a dict literal, constants of the module, comprehensions over two ranges -/
namespace DL
open PySem PySem.Spec PyProof.Rows L2
section
variable {X : Cx} {B : Hp} {S : En} {pos : Pos} {Q : D → Prop} {e e1 : Expr} {x : Str}
end
end DL

set_option Elab.async false
set_option linter.all false
set_option maxRecDepth 100000
set_option maxHeartbeats 4000000
/-! comprehensions told by what each item must be -/
namespace DL
open PySem PySem.Spec PyProof.Rows L2
/-- what stands in the slots when the item d has come to the name in slot j -/
abbrev itE (S : En) (own : List (Str × Nat)) (j : Nat) (d : D) : En := (wipeE S (own.map (·.2))).set j (some (.val d))
abbrev AllBlk (X : Cx) (scope : Scope) (R : Cx → Prop) : Prop := ∀ (s : Shared) (H0 : Hp) (C : Addr) (cl : List (Str × Addr)) (fp : List Addr), R (X.blk s H0 scope (compEnvC scope cl C X.env) fp)
section
variable {X : Cx} {B : Hp} {W0 : Wd} {S : En} {pos : Pos} {e e2 elt iter : Expr} {x : Str} {px : Pos} {scope : Scope} {own : List (Str × Nat)} {l l' : List D} {d0 : D} {Q : List D → Prop}
/-- what a range brings -/
def Outs (G : Nat → D → Prop) (n : Nat) (out : List D) : Prop := out.length = n ∧ ∀ i, i < n → ∃ y, out[i]? = some y ∧ G i y
theorem Outs.nil {G : Nat → D → Prop} : Outs G 0 [] := ⟨rfl, fun i h => absurd h (Nat.not_lt_zero _)⟩
theorem Outs.snoc {G : Nat → D → Prop} {n : Nat} {out : List D} {y : D} (h : Outs G n out) (g : G n y) : Outs G (n + 1) (out ++ [y]) := ⟨by simp [h.1], fun i hi => by
  by_cases c : i < n
  · obtain ⟨z, e, gz⟩ := h.2 i c
    exact ⟨z, by rw [List.getElem?_append_left (by rw [h.1]; exact c)]; exact e, gz⟩
  · have : i = n := by omega
    subst this
    exact ⟨y, by rw [List.getElem?_append_right (by rw [h.1]; exact Nat.le_refl _), h.1, Nat.sub_self]; rfl, g⟩⟩
/-- [elt for x in range(e)] -/
theorem fd_relR {p1 pos1 : Pos} {n : Nat} (G : Nat → D → Prop) (j : Nat) (hc : X.calm = true) (hN : X.N.Nodup) (hm : X.mg "range" = none) (ok : BlkOk X.N X.env.scope scope own) (hg : AllBlk X scope fun Y => PG Y (.Name x px) (gName j)) (hn : n ≤ 50000) (h : AD X B S [e] fun as => as = [.val (.int (n : Int))]) (hj : j ∈ own.map (·.2))
    (he : ∀ i, i < n → AllBlk X scope fun Y => ED Y B (itE S own j (.int (i : Int))) elt (G i)) (hd : ∀ out, Outs G n out → Q out) (hgl : Gl X "range" := by rfl) (hst : starEach [e] X.env = [(false, eval e X.env)] := by rfl)
    (hs : ∀ x, foldedSetIterable (.Call (.Name "range" p1) [e] [] pos1) X.env x = pure x := by intro _; rfl) : FD X B S (.ListComp elt [⟨.Name x px, .Call (.Name "range" p1) [e] [] pos1, [], 0⟩] scope pos) Q := by
  refine fd_lcR (n := (n : Int)) (fun i acc => Outs G i acc) (fun d => itE S own j d) hc hN hm ok hg ?_ (fun d => pat_name j hj) ?_ ?_ hgl hst hs
  · exact fun σ W H r R k => h σ W H r R fun as vs W' H' st ok n q => k as vs W' H' st ok n ⟨q, by omega, by omega, .nil⟩
  · intro i acc hi ha o s H0 C cl fp σ W H r R k
    exact he i (by omega) s H0 C cl fp σ W H r R fun y v W' H' st ok n q => k y v W' H' st ok n (o.snoc q)
  · intro acc _ o
    exact hd acc (by rw [Int.toNat_natCast] at o; exact o)
/-- [elt for x, y in zip(e, e2)], both as long -/
theorem fd_relZ {y : Str} {py tpos p1 pos1 : Pos} {kk : Nat} {d1 : D} (G : D → D → D → Prop) (i j : Nat) (hc : X.calm = true) (hN : X.N.Nodup) (hm : X.mg "zip" = none) (ok : BlkOk X.N X.env.scope scope own) (hg : AllBlk X scope fun Y => PG Y (.Tuple [.Name x px, .Name y py] kk tpos) (gTup X.K 2 (gCons (gName i) (gCons (gName j) gNil)))) (hll : l.length = l'.length) (hl : l.length ≤ 50000) (sd : SeqD d0 l) (sd1 : SeqD d1 l')
    (h : AD X B S [e, e2] fun as => as = [.val d0, .val d1]) (hi : i ∈ own.map (·.2)) (hj : j ∈ own.map (·.2)) (he : ∀ (n : Nat) d d', l[n]? = some d → l'[n]? = some d' → AllBlk X scope fun Y => ED Y B ((itE S own i d).set j (some (.val d'))) elt (G d d'))
    (hd : ∀ out, out.length = l.length → (∀ (n : Nat) d d' z, l[n]? = some d → l'[n]? = some d' → out[n]? = some z → G d d' z) → Q out) (hgl : Gl X "zip" := by rfl)
    (hst : starEach [e, e2] X.env = (false, eval e X.env) :: starEach [e2] X.env := by rfl) (hpl : (backTo pos1 (starEach [e2] X.env)).any (·.1) = false := by rfl)
    (hs : ∀ x, foldedSetIterable (.Call (.Name "zip" p1) [e, e2] [] pos1) X.env x = pure x := by intro _; rfl) : FD X B S (.ListComp elt [⟨.Tuple [.Name x px, .Name y py] kk tpos, .Call (.Name "zip" p1) [e, e2] [] pos1, [], 0⟩] scope pos) Q := by
  refine fd_lcZ l l' (fun m acc => acc.length = m ∧ ∀ (n : Nat) d d' z, l[n]? = some d → l'[n]? = some d' → acc[n]? = some z → G d d' z) (fun d d' => (itE S own i d).set j (some (.val d'))) hc hN hm ok hg ?_ (fun d d' => pat_two i j hi hj) ?_ ?_ hgl hst hpl hs
  · exact fun σ W H r R k => h σ W H r R fun as vs W' H' st ok n q => k as vs W' H' st ok n ⟨d0, d1, q, sd, sd1, hl, rfl, fun n d d' z _ _ e => by simp at e⟩
  · intro m d d' acc h1 h2 ha ⟨_, o⟩ s H0 C cl fp σ W H r R k
    refine he m d d' h1 h2 s H0 C cl fp σ W H r R fun y v W' H' st ok n q => k y v W' H' st ok n ⟨by simp [ha], fun n a b z e1 e2 e3 => ?_⟩
    by_cases c : n < m
    · rw [List.getElem?_append_left (by omega)] at e3
      exact o n a b z e1 e2 e3
    · rw [List.getElem?_append_right (by omega)] at e3
      have : n = m := by
        rcases Nat.lt_or_ge m n with z | z
        · rw [List.getElem?_eq_none (show [y].length ≤ n - acc.length by show 1 ≤ _; omega)] at e3
          cases e3
        · omega
      subst this
      rw [ha, Nat.sub_self] at e3
      cases e3
      rw [h1] at e1
      rw [h2] at e2
      cases e1
      cases e2
      exact q
  · intro acc m ha ⟨_, o⟩ h1 h2 h3
    exact hd acc (by omega) o
end
end DL

set_option Elab.async false
set_option linter.all false
set_option maxRecDepth 100000
set_option maxHeartbeats 4000000
/-! a name = [.. for x, y in zip(..)] -/
namespace DL
open PySem PySem.Spec PyProof.Rows L2
section
variable {X : Cx} {B : Hp} {W0 : Wd} {S : En} {pos : Pos} {e e2 : Expr} {x : Str} {px : Pos} {own : List (Str × Nat)} {scope : Scope} {elt : Expr} {l l' : List D} {d0 : D}
end
end DL

set_option Elab.async false
set_option linter.all false
set_option maxRecDepth 100000
set_option maxHeartbeats 4000000
/-! a text times an int -/
namespace DL
open PySem PySem.Spec PyProof.Rows L2
end DL

set_option Elab.async false
set_option linter.all false
set_option maxRecDepth 100000
set_option maxHeartbeats 4000000
/-! dicts whose keys are tuples: owned by one name while they grow, data from then on -/
namespace DL
open PySem PySem.Spec PyProof.Rows L2
def kD : Key → D
  | .inl i => .int i
  | .inr s => .str s
abbrev tD (k : List Key) : D := .tup (k.map kD)
def has {α : Type} (kvs : List (List Key × α)) (k : List Key) : Bool := kvs.any fun kv => decide (kv.1 = k)
def look {α : Type} (kvs : List (List Key × α)) (k : List Key) : Option α := (kvs.find? fun kv => decide (kv.1 = k)).map (·.2)
/-- what stands at k from now on: in its place, or at the end -/
def putE (kvs : List (List Key × D)) (k : List Key) (d : D) : List (List Key × D) := if has kvs k = true then kvs.map (fun kv => if kv.1 = k then (kv.1, d) else kv) else kvs ++ [(k, d)]
section
variable {K : PySem.W.Frag} {I : Hp}
theorem dn_key {k : Key} {v : V} (n : Dn K I (kD k) v) : v = kV k := by
  cases k <;> cases n <;> rfl
theorem dns_keys : ∀ {ks : List Key} {xs : List V}, Dns K I (ks.map kD) xs → xs = ks.map kV
  | [], _, .nil => rfl
  | k :: ks, _, .cons h t => by rw [dn_key h, dns_keys t]; rfl
theorem Dnt.append : ∀ {l m : List (List Key × D)} {xs ys : List (List Key × V)}, Dnt K I l xs → Dnt K I m ys → Dnt K I (l ++ m) (xs ++ ys)
  | _, _, _, _, .nil, s => s
  | _, _, _, _, .cons h r, s => .cons h (Dnt.append r s)
theorem Dnt.length : ∀ {l : List (List Key × D)} {xs : List (List Key × V)}, Dnt K I l xs → l.length = xs.length
  | _, _, .nil => rfl
  | _, _, .cons _ r => congrArg (· + 1) (Dnt.length r)
theorem Dnt.has {k : List Key} : ∀ {l : List (List Key × D)} {xs : List (List Key × V)}, Dnt K I l xs → has l k = (xs.any fun kv => decide (kv.1 = k))
  | _, _, .nil => rfl
  | _, _, .cons (f := f) _ r => by
    have := Dnt.has (k := k) r
    unfold DL.has at this ⊢
    rw [List.any_cons, List.any_cons, this]
theorem Dnt.mapK {k : List Key} {d : D} {v : V} (n : Dn K I d v) : ∀ {l : List (List Key × D)} {xs : List (List Key × V)}, Dnt K I l xs → Dnt K I (l.map fun kv => if kv.1 = k then (kv.1, d) else kv) (xs.map fun kv => if kv.1 = k then (kv.1, v) else kv)
  | _, _, .nil => .nil
  | _, _, .cons (f := f) h r => by
    rw [List.map_cons, List.map_cons]
    by_cases c : f = k
    · rw [if_pos c, if_pos c]
      exact .cons n (Dnt.mapK n r)
    · rw [if_neg c, if_neg c]
      exact .cons h (Dnt.mapK n r)
theorem Dnt.put {k : List Key} {d : D} {v : V} (n : Dn K I d v) {l : List (List Key × D)} {xs : List (List Key × V)} (m : Dnt K I l xs) : Dnt K I (putE l k d) (putK xs k v) := by
  unfold putE putK
  rw [← m.has]
  by_cases c : DL.has l k = true
  · rw [if_pos c, if_pos c]
    exact m.mapK n
  · rw [if_neg c, if_neg c]
    exact m.append (.cons n .nil)
theorem dnt_look {k : List Key} : ∀ {kvs : List (List Key × D)} {ws : List (List Key × V)}, Dnt K I kvs ws → (∀ d, look kvs k = some d → ∃ v, valV ws k = some v ∧ Dn K I d v) ∧ (look kvs k = none → valV ws k = none)
  | _, _, .nil => ⟨fun d e => by simp [look] at e, fun _ => rfl⟩
  | _, _, .cons (f := f) (d := d0) (v := v0) h t => by
    obtain ⟨a, b⟩ := dnt_look (k := k) t
    by_cases c : f = k
    · subst c
      refine ⟨fun d e => ⟨v0, valV_pos rfl, ?_⟩, fun e => by simp [look, List.find?_cons] at e⟩
      simp [look, List.find?_cons] at e
      rw [← e]
      exact h
    · refine ⟨fun d e => ?_, fun e => ?_⟩
      · rw [valV_neg c]
        refine a d ?_
        simpa [look, List.find?_cons, c] using e
      · rw [valV_neg c]
        refine b ?_
        simpa [look, List.find?_cons, c] using e
theorem look_some {kvs : List (List Key × D)} {ws : List (List Key × V)} (m : Dnt K I kvs ws) (k : List Key) : (valV ws k).isSome = (look kvs k).isSome := by
  cases e : look kvs k with
  | none => rw [(dnt_look m).2 e]; rfl
  | some d =>
    obtain ⟨v, ev, _⟩ := (dnt_look m).1 d e
    rw [ev]; rfl
end
theorem dget_of {H : Hp} {a b : Addr} {kvs : List (List Key × V)} {k : List Key} (e : Rd H a (.dT kvs)) (eb : H b = some (.tup (k.map kV))) : DGet H a (.ref b) (valV kvs k) := .inr ⟨kvs, k, b, e, rfl, eb, rfl⟩
theorem dn_tupkey {K : PySem.W.Frag} {W : Wd} {H : Hp} {g : List Code} {k : List Key} {v : V} (ok : Ok g W H) (n : Dn K W.I (tD k) v) : ∃ q, v = .ref q ∧ H q = some (.tup (k.map kV)) := by
  cases n with
  | tup h m =>
    rw [dns_keys m] at h
    exact ⟨_, rfl, ok.ex _ _ h⟩
/-! ### reading -/
/-- k in d -/
theorem op_dinT {X : Cx} (hu : X.A.units + 1 < cLine) : OpR X (compareOp .In) (fun x y H Q => ∃ p o, y = .ref p ∧ DGet H p x o ∧ Q (.bl o.isSome) H) := by
  intro pins s σ H x y v u Q I rx ry h
  obtain ⟨p, o, rfl, g, q⟩ := h
  obtain rfl : u = Value.ref p := ry
  exact d_in hu I g rx fun s3 I3 => ⟨.bl o.isSome, H, I3, rfl, q⟩
theorem op_dninT {X : Cx} (hu : X.A.units + 1 < cLine) : OpR X (compareOp .NotIn) (fun x y H Q => ∃ p o, y = .ref p ∧ DGet H p x o ∧ Q (.bl (!o.isSome)) H) := by
  intro pins s σ H x y v u Q I rx ry h
  obtain ⟨p, o, rfl, g, q⟩ := h
  obtain rfl : u = Value.ref p := ry
  exact d_notIn hu I g rx fun s3 I3 => ⟨.bl (!o.isSome), H, I3, rfl, q⟩
section
variable {X : Cx} {B : Hp} {W0 : Wd} {S : En} {pos px p1 : Pos} {Q : D → Prop} {QB : Bool → Prop} {a b c e value key : Expr} {es : List Expr} {E : Ends'} {x : Str} {st : Stmt} {sts : List Stmt}
theorem od_din {kvs : List (List Key × D)} {k : List Key} (hu : X.A.units + 1 < cLine) (q : Q (.bl (look kvs k).isSome)) : OD X (compareOp .In) (tD k) (.dcT kvs) Q := by
  refine od_of (op_dinT hu) fun v u W H ok h1 h2 R c => ?_
  obtain ⟨bq, rfl, hb⟩ := dn_tupkey ok h1
  cases h2 with
  | @dcT _ p o ws hp m =>
    refine ⟨p, _, rfl, dget_of (.inr ⟨o, ok.ex _ _ hp⟩) hb, ?_⟩
    rw [look_some m]
    exact c.now ok (.bl _) q
theorem od_dnin {kvs : List (List Key × D)} {k : List Key} (hu : X.A.units + 1 < cLine) (q : Q (.bl (!(look kvs k).isSome))) : OD X (compareOp .NotIn) (tD k) (.dcT kvs) Q := by
  refine od_of (op_dninT hu) fun v u W H ok h1 h2 R c => ?_
  obtain ⟨bq, rfl, hb⟩ := dn_tupkey ok h1
  cases h2 with
  | @dcT _ p o ws hp m =>
    refine ⟨p, _, rfl, dget_of (.inr ⟨o, ok.ex _ _ hp⟩) hb, ?_⟩
    rw [look_some m]
    exact c.now ok (.bl _) q
theorem td_inT (i : Nat) (kvs : List (List Key × D)) (hu : X.A.units + 1 < cLine) (hN : X.N[i]? = some x) (h : S[i]? = some (some (.ownT kvs))) (he : ED X B S a fun y => ∃ k, y = tD k ∧ QB (look kvs k).isSome)
    (hm : behindInMarks .In (.Name x px) = false := by first | exact nomark _ | rfl) (hv : Vis X.env.scope x := by first | exact Or.inl rfl | exact Or.inr (Or.inl rfl) | exact Or.inr (Or.inr rfl)) (hd : (x == ("__debug__" : Str)) = false := by decide) (hcd : (x == ("__classdict__" : Str)) = false := by decide) : TD X B S (.Compare a [.In] [.Name x px] pos) QB := fun σ W H r R k0 => by
  refine PT.w (pt_cmpR (op_dinT hu) we_pe (pe_var hN hv hd hcd) hm) ?_
  obtain ⟨v, e1, p, ws, rfl, hB, n, hI, hH, d0⟩ := r.sl i _ h
  refine he σ W H r _ fun y u W2 H2 s2 ok2 n2 q2 => ?_
  obtain ⟨k, rfl, q⟩ := q2
  obtain ⟨bq, rfl, hb⟩ := dn_tupkey ok2 n2
  refine ⟨_, e1, p, _, rfl, dget_of (.inl (s2.keep _ _ hH n)) hb, ?_⟩
  rw [look_some (d0.mono s2.I)]
  exact ⟨_, rfl, (k0.step s2 ok2).now ok2 q⟩
end
/-! ### owned -/
section
variable {K : PySem.W.Frag} {g : List Code} {B : Hp} {S : En} {σ : L2.St} {W : Wd} {H : Hp} {i : Nat} {kvs kvs' : List (List Key × D)} {p : Addr} {ws ws' : List (List Key × V)}
theorem Rep.newT (r : Rep K g B S σ W H) (hB : B p = none) (n : ¬ W.P p) (hi : W.I p = none) (hp : H p = some (.dT ws)) (d : Dnt K W.I kvs ws) (new : ∀ (j : Nat) (m : List (List Key × D)), S[j]? = some (some (.ownT m)) → σ[j]? ≠ some (some (.ref p))) :
    Rep K g B (S.set i (some (.ownT kvs))) (σ.set i (some (.ref p))) W H where
  ok := r.ok
  gb := r.gb
  len := by simpa using r.len
  sl := fun j s e => by
    by_cases q : i = j
    · subst q
      by_cases z : i < S.length
      · rw [List.getElem?_set_self z] at e
        cases e
        exact ⟨_, List.getElem?_set_self (r.len ▸ z), p, ws, rfl, hB, n, hi, hp, d⟩
      · rw [List.getElem?_eq_none (by simpa using z)] at e
        cases e
    · rw [List.getElem?_set_ne q] at e ⊢
      exact r.sl j s e
  dist := fun a b l m q ne e1 e2 e3 => by
    have key : ∀ c l, (S.set i (some (.ownT kvs)))[c]? = some (some (Sl.own l)) → i ≠ c := fun c l e z => by
      subst z
      by_cases y : i < S.length
      · rw [List.getElem?_set_self y] at e; cases e
      · rw [List.getElem?_eq_none (by simpa using y)] at e; cases e
    have qa := key a l e1
    have qb := key b m e2
    rw [List.getElem?_set_ne qa] at e1 e3
    rw [List.getElem?_set_ne qb] at e2 ⊢
    exact r.dist a b l m q ne e1 e2 e3
  distT := fun a b la lb q ne e1 e2 e3 => by
    by_cases qa : i = a
    · subst qa
      have lt : i < σ.length := by
        rcases Nat.lt_or_ge i σ.length with z | z
        · exact z
        · rw [List.getElem?_eq_none (by simpa using z)] at e3; cases e3
      rw [List.getElem?_set_self lt] at e3
      cases e3
      rw [List.getElem?_set_ne ne] at e2 ⊢
      exact new b lb e2
    · rw [List.getElem?_set_ne qa] at e1 e3
      by_cases qb : i = b
      · subst qb
        intro e4
        have lt : i < σ.length := by
          rcases Nat.lt_or_ge i σ.length with z | z
          · exact z
          · rw [List.getElem?_eq_none (by simpa using z)] at e4; cases e4
        rw [List.getElem?_set_self lt] at e4
        cases e4
        exact new a la e1 e3
      · rw [List.getElem?_set_ne qb] at e2 ⊢
        exact r.distT a b la lb q ne e1 e2 e3
theorem Rep.putT (r : Rep K g B S σ W H) (h : S[i]? = some (some (.ownT kvs))) (e1 : σ[i]? = some (some (.ref p))) (hB : B p = none) (n : ¬ W.P p) (hI : W.I p = none) (hH : H p = some (.dT ws)) (d : Dnt K W.I kvs' ws') :
    Rep K g B (S.set i (some (.ownT kvs'))) σ W (upd H p (.dT ws')) := by
  have lt : i < S.length := (List.getElem?_eq_some_iff.mp h).1
  have key : ∀ {c : Nat} {m : List D}, (S.set i (some (.ownT kvs')))[c]? = some (some (Sl.own m)) → S[c]? = some (some (Sl.own m)) := fun {c m} ec => by
    by_cases q2 : i = c
    · subst q2
      rw [List.getElem?_set_self lt] at ec
      cases ec
    · rw [List.getElem?_set_ne q2] at ec
      exact ec
  refine ⟨ok_upd r.ok n hI, r.gb, by simpa using r.len, fun j s ej => ?_, fun a b la lb q ne e2 e3 e4 => r.dist a b la lb q ne (key e2) (key e3) e4, r.distT.setS i fun l _ => ⟨kvs, h⟩⟩
  by_cases q : i = j
  · subst q
    rw [List.getElem?_set_self lt] at ej
    cases ej
    exact ⟨_, e1, p, _, rfl, hB, n, hI, upd_same, d⟩
  · rw [List.getElem?_set_ne q] at ej
    obtain ⟨v2, e2, h2⟩ := r.sl j s ej
    refine ⟨v2, e2, ?_⟩
    cases s with
    | val d2 => exact h2
    | pot => exact h2
    | own m =>
      obtain ⟨p2, ys, rfl, b1, b2, b3, b4, b5⟩ := h2
      refine ⟨p2, ys, rfl, b1, b2, b3, ?_, b5⟩
      rw [upd_ne (fun y => by rw [y, hH] at b4; cases b4)]
      exact b4
    | ownT m =>
      obtain ⟨p2, ys, rfl, b1, b2, b3, b4, b5⟩ := h2
      refine ⟨p2, ys, rfl, b1, b2, b3, ?_, b5⟩
      rw [upd_ne (fun y => by
        rw [y] at e2
        exact r.distT i j kvs m p q h ej e1 e2)]
      exact b4
    | inst C p2 dx fs =>
      obtain ⟨vs, rfl, b1, b2, b3, b4, b5, b6, b7, b8, b9, b10⟩ := h2
      refine ⟨vs, rfl, b1, b2, b3, b4, b5, b6, b7, ?_, ?_, b10⟩
      · rw [upd_ne (fun y => by rw [y, hH] at b8; cases b8)]
        exact b8
      · rw [upd_ne (fun y => by rw [y, hH] at b9; cases b9)]
        exact b9
end
section
variable {X : Cx} {B : Hp} {W0 : Wd} {S : En} {pos px p1 : Pos} {Q : D → Prop} {a b c e value key : Expr} {E : Ends'} {x : Str} {st : Stmt} {sts : List Stmt}
/-- x = {} -/
theorem sd_newT {dp : Pos} (i : Nat) (hN : X.N.Nodup) (hi : X.N[i]? = some x) (q : E.nx (S.set i (some (.ownT [])))) (hx : Loc X.env.scope x := by first | exact Or.inl rfl | exact Or.inr rfl)
    (hs : swapsWith (.Dict [] [] dp) (some (.Name x px)) pos.line X.env = pure false := by rfl) (hf : X.fn x = true ∨ X.env.scope.names.lookup x = some .local := by first | exact .inl rfl | exact .inr rfl) : SD X B W0 S (.Assign [.Name x px] (.Dict [] [] dp) pos) E := fun σ W H r z D' k =>
  PS.w (ps_set hN hi hx pe_dnewT hs hf) fun p hp => k.nx _ _ W _ ((r.step (Stp.own hp) (r.ok.own hp)).newT (z.free r.ok hp) (r.ok.notP hp) (r.ok.free hp) upd_same .nil fun j m e1 e2 => by
    obtain ⟨v, e3, p2, ys, e4, _, _, _, h4, _⟩ := r.sl j _ e1
    rw [e2] at e3
    cases e3
    cases e4
    rw [hp] at h4
    cases h4) (z.trans r.ok (Stp.own hp)) (Ex.refl _) q
/-- x[k] = v, x the owner of its dict -/
theorem sd_putT (i : Nat) (kvs : List (List Key × D)) (hu : X.A.units + 1 < cLine) (hN : X.N[i]? = some x) (h : S[i]? = some (some (.ownT kvs))) (hl : kvs.length < 50000) (he : ED X B S value fun d => ED X B S key fun y => ∃ k, y = tD k ∧ E.nx (S.set i (some (.ownT (putE kvs k d)))))
    (hv : Vis X.env.scope x := by first | exact Or.inl rfl | exact Or.inr (Or.inl rfl) | exact Or.inr (Or.inr rfl)) (hd : (x == ("__debug__" : Str)) = false := by decide) (hcd : (x == ("__classdict__" : Str)) = false := by decide)
    (hs : swapsWith value (some (.Subscript (.Name x px) key p1)) pos.line X.env = pure false := by rfl) : SD X B W0 S (.Assign [.Subscript (.Name x px) key p1] value pos) E := fun σ W H r z D' k0 => by
  refine PS.w (ps_dput hu (pe_var hN hv hd hcd) we_pe we_pe hs) ?_
  obtain ⟨v0, e1, p, ws, rfl, hB, n, hI, hH, d0⟩ := r.sl i _ h
  refine he σ W H r _ fun d v W1 H1 s1 ok1 n1 q1 => ⟨_, e1, ?_⟩
  refine q1 σ W1 H1 (r.step s1 ok1) _ fun y u W2 H2 s2 ok2 n2 q2 => ?_
  obtain ⟨ks, rfl, q⟩ := q2
  obtain ⟨bq, rfl, hb⟩ := dn_tupkey ok2 n2
  have st := s1.trans ok1 s2
  have hH2 : H2 p = some (.dT ws) := st.keep _ _ hH n
  have nP : ¬ W2.P p := fun q => n (st.oldP p _ hH q)
  have hI2 : W2.I p = none := st.old p _ hH (fun _ z => by cases z) hI
  refine ⟨p, _, rfl, DPut.t hH2 hb (Nat.lt_of_lt_of_le (show ws.length < 60000 by rw [← d0.length]; omega) (by decide)), ?_⟩
  exact k0.nx _ σ W2 _ ((r.step st ok2).putT h e1 hB nP hI2 hH2 ((d0.mono st.I).put (n1.mono s2.I))) (stp_upd (z.trans r.ok st) hB) st.I q
/-- a new dict, not yet part of what never changes -/
def ContT (K : PySem.W.Frag) (g : List Code) (W : Wd) (H : Hp) (Q : List (List Key × D) → Prop) (R : VK) : Prop := ∀ kvs p ws W' H', Stp W H W' H' → Ok g W' H' → H p = none → ¬ W'.P p → W'.I p = none → H' p = some (.dT ws) → Dnt K W'.I kvs ws → Q kvs → R (.ref p) H'
def FT (X : Cx) (B : Hp) (S : En) (e : Expr) (Q : List (List Key × D) → Prop) : Prop := ∀ σ W H, Rep X.K (gOf X) B S σ W H → ∀ R, ContT X.K (gOf X) W H Q R → WE X e σ H R
theorem we_lock {σ : L2.St} {H : Hp} {R : VK} (h : WE X e σ H fun v H' => ∃ p ws, v = .ref p ∧ H' p = some (.dT ws) ∧ ∀ od, R (.ref p) (upd H' p (.frz od (.dT ws)))) : WE X e σ H R := fun pins s I => by
  refine wpAny_mono (h pins s I) (fun u s' hq => ?_) fun _ _ q => q
  obtain ⟨v, H', I', rv, p, ws, rfl, hp, q⟩ := hq
  obtain ⟨od, J⟩ := I'.lock hp True.intro
  exact ⟨.ref p, _, J, rv, q od⟩
theorem ed_ft (h : FT X B S e fun kvs => Q (.dcT kvs)) : ED X B S e Q := fun σ W H r R k => we_lock (by
  refine h σ W H r _ fun kvs p ws W' H' st ok hp n i hl d q => ⟨p, ws, rfl, hl, fun od => ?_⟩
  have ok0 : Ok (gOf X) W' (upd H' p (.frz od (.dT ws))) := ok_upd ok n i
  have ok1 := ok0.frz (p := p) upd_same n fun z => (r.ok.gd _ z).2.1 hp
  exact k (.dcT kvs) (.ref p) _ _ ((stp_upd st hp).frz hp i) ok1 (.dcT (o := od) (show upd W'.I p _ p = _ from upd_same) (d.mono (Ex.new i))) q)
end
end DL

set_option Elab.async false
set_option linter.all false
set_option maxRecDepth 100000
set_option maxHeartbeats 4000000
/-! dicts that are data: walked, told as lists, sorted -/
namespace DL
open PySem PySem.Spec PyProof.Rows L2
section
variable {g : List Code} {W : Wd} {H : Hp}
end
/-- the keys, as tuples -/
def keysD (kvs : List (List Key × D)) : List D := kvs.map fun p => tD p.1
section
variable {X : Cx} {B : Hp} {W0 : Wd} {S : En} {pos px p1 p : Pos} {Q : D → Prop} {a b c e : Expr} {E : Ends'} {x : Str} {st : Stmt} {sts : List Stmt} {kvs : List (List Key × D)}
end
end DL

set_option Elab.async false
set_option linter.all false
set_option maxRecDepth 100000
set_option maxHeartbeats 4000000
/-! {k: v for ..}, the keys tuples; lists of tuples of ints sorted -/
namespace DL
open PySem PySem.Spec PyProof.Rows L2
section
variable {X : Cx}
/-- one entry more, by a comprehension -/
theorem put_dT {pins : List (Addr × Obj)} {τ : L2.St} {G : Hp} {t : Shared} {E : Value → Shared → Prop} {D b : Addr} {ws : List (List Key × V)} {ks : List Key} {z : V} {u : Value} {R : Unit → Shared → Prop} (hu : X.A.units + 1 < cLine) (J : Inv X pins τ G t) (hD : G D = some (.dT ws)) (hw : ws.length < sizeLine)
    (hb : G b = some (.tup (ks.map kV))) (rz : RelV z u) (k : ∀ t', Inv X pins τ (upd G D (.dT (putK ws ks z))) t' → R () t') : wpAny (model X.prog X.w) X.A (dictSet D (.ref b) u) R E t := by
  obtain ⟨le, ns, ys, rel, at_⟩ := dt_of J.hok hD
  have le2 : ys.length ≤ sizeLine := (Paired.length rel) ▸ le
  have fit : (putK ws ks z).length ≤ sizeLine := Nat.le_trans (length_putK ws ks z) hw
  refine wpAny_dictSet_heap (hsz := le2) (Nat.lt_of_succ_lt hu) (key_of J.hok hb) at_ fun h' at2 same => k _ ?_
  obtain ⟨oD, es, ep, gD, x1, x2, x3, _, x5⟩ := at2
  refine d_write J (by rw [hD]; trivial) same ⟨oD, gD⟩ ⟨fit, ns, _, KT.keeps (rel.put ks hb rz) (fun c zs ec => ?_), oD, es, ep, gD, x1, x2, x3, x5⟩
  have : c ≠ D := fun e => by rw [e, hD] at ec; cases ec
  rw [upd_ne this, ec]
/-- {k: v for g in ..}: D the new dict -/
def tDcT (wi : TI) (g : TG) (tk tv : TE) (vs : List Nat) : TE := fun σ H Q => wi σ H fun Y H1 => ∀ D, H1 D = none → ∃ Z : Nat → Nat → Hp → Prop, (∃ m, Z 0 m (upd H1 D (.dT []))) ∧ ∀ i m G, Z i m G →
  (Y.stop i G ∧ Q (.ref D) G) ∨ (Y.go i G ∧ ∃ Nx : Hp → Prop, (∀ G', Nx G' → ∃ m', m' < m ∧ Z (i + 1) m' G') ∧ ∀ x G', Y.yld i G x G' → g x (wipe σ vs) G' fun τ G2 => wipe τ vs = wipe σ vs ∧
    tk τ G2 fun y G3 => tv τ G3 fun z G4 => ∃ ws ks b, y = .ref b ∧ G4 b = some (.tup (ks.map kV)) ∧ G4 D = some (.dT ws) ∧ ws.length < sizeLine ∧ Nx (upd G4 D (.dT (putK ws ks z))))
theorem pe_dcT {kx vx tg iter : Expr} {scope : Scope} {own : List (Str × Nat)} {pos : Pos} {wi : TI} {g : TG} {tk tv : TE} (hc : X.calm = true) (hu : X.A.units + 1 < cLine) (hN : X.N.Nodup) (hi : PI X tg iter wi) (ok : BlkOk X.N X.env.scope scope own) (hg : AllBlk X scope fun Y => PG Y tg g)
    (hk : AllBlk X scope fun Y => PE Y kx tk) (hv : AllBlk X scope fun Y => PE Y vx tv) (hs : ∀ x, foldedSetIterable iter X.env x = pure x := by intro _; rfl) : PE X (.DictComp kx vx [⟨tg, iter, [], 0⟩] scope pos) (tDcT wi g tk tv (own.map (·.2))) := by
  refine ⟨fun pins t σ H Q J h => ?_⟩
  rw [arm_eval_DictComp]
  have known : ∀ y ∈ scope.names, y.2 = .free → ∃ c, X.env.cells.lookup y.1 = some c := fun y my e => (ok.free y my e).elim (fun k => J.ok.has _ (Or.inl k)) (fun k => J.ok.has _ (Or.inr k))
  refine wpAny_comprehension_free rfl hs (closure_ok known) ok.kind (fun y my e => (ok.uniq y my).trans (congrArg some e)) (thn (hi.run pins t σ H _ J h) fun xv t1 hx => thn hx fun itv t2 hit => ?_)
  obtain ⟨it, fp, tn, Y, H2, rfl, J2, T, stay, fpOk, turns⟩ := hit
  refine wpAny_newObj_type (newEnv_comp ?_)
  generalize eD : t2.heap.objs.size = D
  obtain ⟨Z, ⟨m0, z0⟩, turn⟩ := turns D (J2.hok.fresh (Nat.le_of_eq eD))
  generalize e3 : ({ t2 with heap := t2.heap.push { cls := .type "dict", data := .dict #[] } } : Shared) = t3
  have hp3 : t3.heap = t2.heap.push { cls := .type "dict", data := .dict #[] } := by rw [← e3]
  have J3 : Inv X pins σ (upd H2 D (.dT [])) t3 := by
    subst e3 eD
    exact J2.laid (t' := t2.toks) (fun b o e => Heap.get?_push_of_some _ e) (Nat.le_refl _) (dt_empty t2.heap J2.big)
  have below : ∀ b ∈ fp, b < D := fun b mb => by
    obtain ⟨o, e, _⟩ := T.obj _ _ stay b mb
    exact eD ▸ Heap.lt_size e
  generalize eG : upd H2 D (.dT []) = G0 at J3 z0
  have fp3 : ∀ b ∈ fp, FpOk X pins G0 b ∧ b < t3.heap.objs.size := fun b mb => by
    have lt := below b mb
    refine ⟨⟨?_, (fpOk b mb).2⟩, by rw [hp3, Heap.size_push, eD]; exact Nat.lt_succ_of_lt lt⟩
    rw [← eG, upd_ne (Nat.ne_of_lt lt)]
    exact (fpOk b mb).1
  have stay3 : tn 0 t3.heap := T.keep _ _ _ stay fun b _ o e => hp3 ▸ Heap.get?_push_of_some _ e
  have J4 := block_start J3 ok hN fp3
  generalize eC : cellsFrom (t3.heap.objs.size + 1) scope.names (cloFrom X.env.cells scope.names []) = cs at J4
  have pg := hg t3 G0 t3.heap.objs.size cs fp
  have pk := hk t3 G0 t3.heap.objs.size cs fp
  have pv := hv t3 G0 t3.heap.objs.size cs fp
  generalize eE : compEnvC scope cs t3.heap.objs.size X.env = ce at J4 pg pk pv
  have loc : ce.locals = t3.heap.objs.size := by rw [← eE]; rfl
  have start : codeAny (model X.prog X.w) X.A (.compStart (.DictComp kx vx [⟨tg, iter, [], 0⟩] scope pos) 0 (.ref it) (.ref D) ce) (compPost (model X.prog X.w) X.A X.xe none (EP X pins σ Q) (.ref D) t3.heap.objs.size)
      { t3 with heap := pushCells (t3.heap.push { cls := .type "dict", data := .dict #[] }) scope.names } := by
    generalize e4 : ({ t3 with heap := pushCells (t3.heap.push { cls := .type "dict", data := .dict #[] }) scope.names } : Shared) = t4 at J4
    have stay4 : tn 0 t4.heap := T.keep _ _ _ stay3 fun b _ o e => by rw [← e4]; exact pushCells_keeps _ _ _ _ (Heap.get?_push_of_some _ e)
    have fpS : ∀ {τ : L2.St} {G : Hp} {u : Shared}, Inv (X.blk t3 G0 scope ce fp) [] τ G u → (∀ b ∈ fp, G b = none) → ∀ b ∈ fp, FpOk (X.blk t3 G0 scope ce fp) [] G b := fun {τ G u} I' no b mb =>
      ⟨no b mb, (I'.ok.exf b mb).1, I'.ok.exfs b mb, .inl mb, fun x c e => (I'.ok.exf b mb).2 x c e, fun p mp => absurd (show p ∈ ([] : List (Addr × Obj)) ++ [] from mp) (by simp)⟩
    have goes : codeAny (model X.prog X.w) X.A (.compLoop (.DictComp kx vx [⟨tg, iter, [], 0⟩] scope pos) 0 (.ref it) (.ref D) ce) (compPost (model X.prog X.w) X.A X.xe none (EP X pins σ Q) (.ref D) t3.heap.objs.size) t4 := by
      refine compLoop_anyD (fun n u => ∃ i G, Inv (X.blk t3 G0 scope ce fp) [] (wipe σ (own.map (·.2))) G u ∧ tn i u.heap ∧ (∀ b ∈ fp, G b = none) ∧ Z i n G) ?_ m0 ⟨0, G0, J4, stay4, fun b mb => (fp3 b mb).1.1, z0⟩
      rintro n t5 ⟨i, G5, J5, stay5, no5, z5⟩
      rcases turn i n G5 z5 with ⟨stop, fin⟩ | ⟨go, Nx, less, step⟩
      · refine thnF (T.done (X.blk t3 G0 scope ce fp) rfl rfl rfl hc i [] t5 _ G5 (fun _ _ => False) J5 (fpS J5 no5) stay5 stop) fun r t6 ⟨er, J6⟩ => ?_
        subst er
        have J7 : Inv X pins σ G5 t6 := J3.call' (ch := fp) J6.os J6.base J6.hok J6.bare fun b mb => by
          obtain ⟨_, a1, a2, a3, a4, a5⟩ := (fp3 b mb).1
          exact ⟨a3, a1, a4, a5⟩
        obtain ⟨m, ns, _⟩ := J6.loc
        have ns' : t6.heap.Ns ce.locals m := ns
        rw [loc] at ns'
        have noC : G5 t3.heap.objs.size = none := by
          have := J6.free
          rw [show (X.blk t3 G0 scope ce fp).env.locals = ce.locals from rfl, loc] at this
          exact this
        obtain ⟨f0, f1, f2, f3, f4, f5⟩ := J3.fpOk (H' := G5) (Nat.le_refl _) noC
        exact ⟨m, ns', fun h'' sb => ⟨.ref D, G5, J7.turned (t' := t6.toks) (fun b o nb e => (sb.2 b nb).trans e) f0 f1 f3 f4 f5, rfl, fin⟩⟩
      · refine thnF (T.item (X.blk t3 G0 scope ce fp) rfl rfl rfl hc i [] t5 _ G5 (fun _ _ => False) J5 (fpS J5 no5) stay5 go) fun r t6 ⟨u, er, goes6⟩ => ?_
        subst er
        refine thnF goes6 fun _ t7 ⟨x, G7, J7, r7, y7, stay7, no7⟩ => ?_
        refine thnF (pg.run _ t7 _ G7 x u _ (J7.pinned (fpS J7 no7) (T.obj _ _ stay7)) r7 (step x G7 y7)) fun _ t8 ⟨τ, G8, J8, wiped, q8⟩ => ?_
        refine thnF ((pts_nil (X := X.blk t3 G0 scope ce fp)).run _ t8 τ G8 (fun b G => b = true ∧ G = G8) J8 ⟨rfl, rfl⟩) fun b t9 ⟨G9, J9, eb, eG9⟩ => ?_
        subst eb eG9
        show wpAny _ _ (eval kx ce) _ _ t9
        refine thnF (pk.run _ t9 τ G9 _ J9 q8) fun kv ta ⟨y, Ga, Ja, ry, qa⟩ => ?_
        refine thnF (pv.run _ ta τ Ga _ Ja qa) fun vv tb ⟨w', Gb, Jb, rw', ws, ks, q, ey, hq, hD, hw, nx⟩ => ?_
        subst ey
        cases (show kv = Value.ref q from ry)
        refine put_dT (X := X.blk t3 G0 scope ce fp) hu Jb hD hw hq rw' fun tc Jc => ?_
        obtain ⟨m', lt, z6⟩ := less _ nx
        have same : ∀ b ∈ fp, ∀ o, t7.heap.get? b = some o → tc.heap.get? b = some o ∧ upd Gb D (.dT (putK ws ks w')) b = none := fun b mb o e => by
          have z := Jc.pin (b, o) (List.mem_append_right _ (List.mem_append_right _ (mem_pinsAt mb e)))
          exact ⟨z.1, z.2.1⟩
        have hl : (wipe σ (own.map (·.2))).length = τ.length := by rw [← wiped, wipe_length]
        refine ⟨m', lt, i + 1, _, (Jc.unpinned (pins := [])).weak hl (fun j v e => ?_), T.keep _ _ _ stay7 fun b mb o e => (same b mb o e).1, fun b mb => ?_, z6⟩
        · rw [← wiped] at e
          exact (wipe_some e).1
        · obtain ⟨o, e, _⟩ := T.obj _ _ stay7 b mb
          exact (same b mb o e).2
    exact codeAny_compStart_dict goes (T.self X.A 0 _ _ _ stay4 goes)
  rw [← eE] at start
  exact start
end
end DL

set_option Elab.async false
set_option linter.all false
set_option maxRecDepth 100000
set_option maxHeartbeats 4000000
/-! {k: v for .. in a list}; sorted of tuples of ints, as data -/
namespace DL
open PySem PySem.Spec PyProof.Rows L2
theorem putE_len (kvs : List (List Key × D)) (k : List Key) (d : D) : (putE kvs k d).length ≤ kvs.length + 1 := by
  unfold putE
  split
  · rw [List.length_map]; omega
  · simp
theorem dct_it {J : It} {n : Nat} {G : Hp → Prop} {Y : Nat → Hp → V → Hp → Prop} (w : Walk J n G Y) {g : TG} {tk tv : TE} {vs : List Nat} {σ : L2.St} {H1 : Hp} {D : Addr} {Qd : Hp → Prop} (Pv : Nat → Hp → Prop) (h0 : Pv 0 (upd H1 D (.dT []))) (hG : ∀ i H, i ≤ n → Pv i H → G H)
    (hs : ∀ i x H H', i < n → Pv i H → Y i H x H' → g x (wipe σ vs) H' fun σ2 H2 => wipe σ2 vs = wipe σ vs ∧ tk σ2 H2 fun y H3 => tv σ2 H3 fun z H4 => ∃ ws ks b, y = .ref b ∧ H4 b = some (.tup (ks.map kV)) ∧ H4 D = some (.dT ws) ∧ ws.length < sizeLine ∧ Pv (i + 1) (upd H4 D (.dT (putK ws ks z)))) (hd : ∀ H, Pv n H → Qd H) :
    ∃ Z : Nat → Nat → Hp → Prop, (∃ m, Z 0 m (upd H1 D (.dT []))) ∧ ∀ i m H, Z i m H → (J.stop i H ∧ Qd H) ∨ (J.go i H ∧ ∃ Nx : Hp → Prop, (∀ H', Nx H' → ∃ m', m' < m ∧ Z (i + 1) m' H') ∧ ∀ x H', J.yld i H x H' → g x (wipe σ vs) H' fun σ2 H2 => wipe σ2 vs = wipe σ vs ∧
      tk σ2 H2 fun y H3 => tv σ2 H3 fun z H4 => ∃ ws ks b, y = .ref b ∧ H4 b = some (.tup (ks.map kV)) ∧ H4 D = some (.dT ws) ∧ ws.length < sizeLine ∧ Nx (upd H4 D (.dT (putK ws ks z)))) := by
  refine ⟨fun i m H => m = n - i ∧ i ≤ n ∧ Pv i H, ⟨n, rfl, Nat.zero_le _, h0⟩, fun i m H ⟨em, hi, p⟩ => ?_⟩
  have hg := hG i H hi p
  rcases Nat.lt_or_ge i n with lt | ge
  · exact .inr ⟨w.goes i H lt hg, Pv (i + 1), fun H' p' => ⟨n - (i + 1), by omega, rfl, lt, p'⟩, fun x H' y => hs i x H H' lt p (w.yields i H x H' lt hg y)⟩
  · have : i = n := by omega
    subst this
    exact .inl ⟨w.stops H hg, hd H p⟩
/-- at an address of one's own: the dict so far -/
structure MidT (K : PySem.W.Frag) (g : List Code) (W1 : Wd) (H1 : Hp) (p : Addr) (l : List (List Key × D)) (W : Wd) (H : Hp) : Prop where
  st : Stp W1 H1 W H
  ok : Ok g W H
  n : ¬ W.P p
  i : W.I p = none
  h : ∃ ws, H p = some (.dT ws) ∧ Dnt K W.I l ws
theorem MidT.step {K : PySem.W.Frag} {g : List Code} {W1 W W2 : Wd} {H1 H H2 : Hp} {p : Addr} {l : List (List Key × D)} (m : MidT K g W1 H1 p l W H) (a : Stp W H W2 H2) (ok : Ok g W2 H2) : MidT K g W1 H1 p l W2 H2 := by
  obtain ⟨ws, hp, d⟩ := m.h
  exact ⟨m.st.trans m.ok a, ok, fun z => m.n (a.oldP p _ hp z), a.old p _ hp (fun _ z => by cases z) m.i, ws, a.keep p _ hp m.n, d.mono a.I⟩
theorem MidT.more {K : PySem.W.Frag} {g : List Code} {W1 W : Wd} {H1 H : Hp} {p : Addr} {l : List (List Key × D)} {k : List Key} {d : D} {v : V} (hp0 : H1 p = none) (m : MidT K g W1 H1 p l W H) (hd : Dn K W.I d v) (hl : l.length < 60000) :
    ∃ ws, H p = some (.dT ws) ∧ ws.length < sizeLine ∧ MidT K g W1 H1 p (putE l k d) W (upd H p (.dT (putK ws k v))) := by
  obtain ⟨ws, hp, ds⟩ := m.h
  exact ⟨ws, hp, Nat.lt_of_lt_of_le (ds.length ▸ hl) (by decide), stp_upd m.st hp0, ok_upd m.ok m.n m.i, m.n, m.i, _, upd_same, ds.put hd⟩
section
variable {X : Cx} {B : Hp} {W0 : Wd} {S : En} {pos px p1 p : Pos} {Q : D → Prop} {a b c e : Expr} {E : Ends'} {x : Str} {kvs : List (List Key × D)}
/-- {kx: vx for g in a list} -/
theorem ft_dcL {kx vx tg iter : Expr} {scope : Scope} {own : List (Str × Nat)} {g : TG} {l : List D} {Q : List (List Key × D) → Prop} (J : Nat → List (List Key × D) → Prop) (S' : D → En) (hc : X.calm = true) (hu : X.A.units + 1 < cLine) (hN : X.N.Nodup) (ok : BlkOk X.N X.env.scope scope own)
    (hg : AllBlk X scope fun Y => PG Y tg g) (h : ED X B S iter fun d => d = .lst l ∧ l.length ≤ 50000 ∧ J 0 []) (hp : ∀ d ∈ l, Pat X.K g (own.map (·.2)) S d (S' d))
    (he : ∀ (i : Nat) d acc, l[i]? = some d → J i acc → AllBlk X scope fun Y => ED Y B (S' d) kx fun y => ∃ k, y = tD k ∧ AllBlk X scope fun Y => ED Y B (S' d) vx fun z => J (i + 1) (putE acc k z))
    (hd : ∀ acc, J l.length acc → Q acc) (hs : ∀ x, foldedSetIterable iter X.env x = pure x := by intro _; rfl) : FT X B S (.DictComp kx vx [⟨tg, iter, [], 0⟩] scope pos) Q := fun σ W H r R k => by
  refine PE.w (pe_dcT (tk := WEb X scope kx) (tv := WEb X scope vx) hc hu hN (pi_list we_pe) ok hg web_pe web_pe hs) ?_
  refine h σ W H r _ fun d v W1 H1 s1 ok1 n1 q1 => ?_
  obtain ⟨rfl, hz, j0⟩ := q1
  cases n1 with
  | @lst _ a xs ha m =>
    refine ⟨a, rfl, ⟨xs, SqL.of (ok1.ex _ _ ha)⟩, fun p hp0 => ?_⟩
    have r1 := r.step s1 ok1
    have hlx := m.length
    refine dct_it walk_list (fun i H' => ∃ acc W', MidT X.K (gOf X) W1 H1 p acc W' H' ∧ acc.length ≤ i ∧ J i acc) ⟨[], W1, ⟨Stp.own hp0, ok1.own hp0, ok1.notP hp0, ok1.free hp0, [], upd_same, .nil⟩, Nat.le_refl _, j0⟩
      (fun i H' _ ⟨acc, W', mm, _⟩ => SqL.of (mm.ok.ex _ _ (mm.st.I _ _ ha))) ?_ ?_
    · rintro i y H' H2 hi ⟨acc, W', mm, hl, j⟩ ⟨rfl, hx⟩
      obtain ⟨d, hd', nd⟩ := m.get hx
      have r2 := r1.step mm.st mm.ok
      refine hp d (List.mem_of_getElem? hd') (gOf X) B σ W' H2 y r2 (nd.mono mm.st.I) _ fun σ2 e2 r3 => ⟨e2, ?_⟩
      show WEb X scope kx σ2 H2 _
      intro s H0 C cl fp
      refine he i d acc hd' j s H0 C cl fp σ2 W' H2 r3 _ fun y W3v W3 H3 s3 ok3 n3 q3 => ?_
      obtain ⟨k1, rfl, q3⟩ := q3
      obtain ⟨bq, rfl, hb⟩ := dn_tupkey ok3 n3
      show WEb X scope vx σ2 H3 _
      intro s' H0' C' cl' fp'
      refine q3 s' H0' C' cl' fp' σ2 W3 H3 (r3.step s3 ok3) _ fun z W4v W4 H4 s4 ok4 n4 q4 => ?_
      have st := s3.trans ok3 s4
      obtain ⟨ws, e1, e3, m4⟩ := (mm.step st ok4).more (k := k1) hp0 n4 (by omega)
      have hb4 : H4 bq = some (.tup (k1.map kV)) := s4.keep _ _ hb fun z => by
        obtain ⟨x1, x2, e, _⟩ := (ok3.pot bq z).2
        rw [hb] at e
        cases e
      exact ⟨ws, k1, bq, rfl, hb4, e1, e3, _, W4, m4, Nat.le_trans (putE_len _ _ _) (by omega), q4⟩
    · rintro H' ⟨acc, W', mm, hl, j⟩
      obtain ⟨ys, hH, ds⟩ := mm.h
      rw [← hlx] at j
      exact k acc p ys W' H' (s1.trans ok1 mm.st) mm.ok (s1.free ok1 hp0) mm.n mm.i hH ds (hd acc j)
end
/-! ### sorted -/
abbrev tI (l : List Int) : D := .tup (l.map D.int)
abbrev ik (l : List Int) : List Key := l.map Sum.inl
theorem tD_ik (l : List Int) : tD (ik l) = tI l := by simp [tD, tI, ik, kD, Function.comp_def]
section
variable {K : PySem.W.Frag} {I : Hp}
end
end DL

set_option Elab.async false
set_option linter.all false
set_option maxRecDepth 100000
set_option maxHeartbeats 4000000
/-! sorted(d), the keys tuples of ints -/
namespace DL
open PySem PySem.Spec PyProof.Rows L2
end DL

set_option Elab.async false
set_option linter.all false
set_option maxRecDepth 100000
set_option maxHeartbeats 4000000
/-! dict(l), l a list of pairs (tuple, value) -/
namespace DL
open PySem PySem.Spec PyProof.Rows L2
/-- one pair after another is put -/
def putAll (kvs more : List (List Key × D)) : List (List Key × D) := more.foldl (fun acc p => putE acc p.1 p.2) kvs
def putAllV (kvs more : List (List Key × V)) : List (List Key × V) := more.foldl (fun acc p => putK acc p.1 p.2) kvs
theorem putE_new {kvs : List (List Key × D)} {k : List Key} {d : D} (h : k ∉ kvs.map (·.1)) : putE kvs k d = kvs ++ [(k, d)] := by
  unfold putE
  rw [if_neg]
  intro z
  obtain ⟨p, hp, e⟩ := List.any_eq_true.mp z
  exact h (List.mem_map.mpr ⟨p, hp, of_decide_eq_true e⟩)
abbrev prD (p : List Key × D) : D := .tup [tD p.1, p.2]
section
variable {X : Cx} {B : Hp} {S : En} {pos p : Pos} {e : Expr}
end
end DL

set_option Elab.async false
set_option linter.all false
set_option maxRecDepth 100000
set_option maxHeartbeats 4000000
/-! == inside built-in sequences and dicts, by an own == where there is one: where all is equal -/
namespace DL
open PySem PySem.Spec PyProof.Rows L2
section
variable {prog : Program} {w : World} {A : Around} {E : Value → Shared → Prop}
end
/-- behind what is compared: later worlds -/
def Later (X : Cx) (pins : List (Addr × Obj)) (τ : L2.St) (W : Wd) (H : Hp) (t : Shared) : Prop := ∃ W' H', Inv X pins τ H' t ∧ Stp W H W' H' ∧ Ok (gOf X) W' H'
def EqR (X : Cx) (n : Nat) (x y : D) : Prop := ∀ (A : Around) (pins : List (Addr × Obj)) (t : Shared) (τ : L2.St) (W : Wd) (H : Hp) (v u : V) (v' u' : Value), L2.Sub X n A → A.guards = some (gOf X) → Inv X pins τ H t → Ok (gOf X) W H → Dn X.K W.I x v → Dn X.K W.I y u → RelV v v' → RelV u u' →
  wpAny (model X.prog X.w) A (eqBool v' u') (fun r t' => r = true ∧ Later X pins τ W H t') X.xe t
def RcR (X : Cx) (n : Nat) (x y : D) : Prop := ∀ (A : Around) (pins : List (Addr × Obj)) (t : Shared) (τ : L2.St) (W : Wd) (H : Hp) (v u : V) (v' u' : Value), L2.Sub X n A → A.guards = some (gOf X) → Inv X pins τ H t → Ok (gOf X) W H → Dn X.K W.I x v → Dn X.K W.I y u → RelV v v' → RelV u u' →
  wpAny (model X.prog X.w) A (richCompare .Eq v' u') (fun r t' => r = .bool true ∧ Later X pins τ W H t') X.xe t
section
variable {X : Cx} {n m : Nat} {x y : D}
def refD : D → Bool
  | .tup _ | .lst _ | .obj _ _ | .dcT _ => true
  | _ => false
end
section
variable {X : Cx} {n : Nat} {x y : D} {Q : D → Prop}
end
end DL

set_option Elab.async false
set_option linter.all false
set_option maxRecDepth 100000
set_option maxHeartbeats 4000000
/-! != of lists that are equal -/
namespace NQ
open PySem PySem.SeqAt
open AutoSeq1 (wpAny_loadPart')
open MeetsSeq MeetsSeq2 MeetsSeq3 SeqRoads2
section
variable {prog : Program} {w : World} {A : Around} {R : Result → Shared → Prop}
end
end NQ
namespace DL
open PySem PySem.Spec PyProof.Rows L2
section
variable {X : Cx} {n : Nat} {Q : D → Prop}
end
end DL

set_option Elab.async false
set_option linter.all false
set_option maxRecDepth 100000
set_option maxHeartbeats 4000000
/-! zip of two texts -/
namespace TZ
open PySem PySem.Spec PyProof.Rows
abbrev tio (x : Str) (t : Tok) : Obj := { cls := .type "str_ascii_iterator", data := .fields #[.str x t, .int 0 0] }
abbrev m1 (h : Heap) (x : Str) (t : Tok) : Heap := h.push (tio x t)
abbrev m2 (h : Heap) (x y : Str) (t u : Tok) : Heap := (m1 h x t).push (tio y u)
abbrev m3 (h : Heap) (x y : Str) (t u : Tok) : Heap := (m2 h x y t u).push { cls := .type "tuple", data := .seq #[.ref h.objs.size, .ref (m1 h x t).objs.size] }
abbrev m4 (h : Heap) (x y : Str) (t u : Tok) : Heap := (m3 h x y t u).push { cls := .type "tuple", data := .seq #[.none, .none] }
abbrev m5 (h : Heap) (x y : Str) (t u : Tok) : Heap := (m4 h x y t u).push { cls := .type "zip", data := .fields #[.none, .bool false, .bool false, .ref (m2 h x y t u).objs.size, .ref (m3 h x y t u).objs.size] }
section
variable {p : Program} {w : World} {A : Around} {E : Value → Shared → Prop} {s : Shared}
/-- how the zip stands ahead of turn i -/
structure St2 (x y : Str) (t u : Tok) (z TI TO i1 i2 : Addr) (i : Nat) (h : Heap) : Prop where
  z : IsZip h z TI TO .none
  ti : IsTupOf2 h TI (.ref i1) (.ref i2)
  to : ∃ a b, IsTupOf2 h TO a b
  f : h.IsStrIter i1 "str_ascii_iterator" x t i
  g : h.IsStrIter i2 "str_ascii_iterator" y u i
end
end TZ
namespace DL
open PySem PySem.Spec PyProof.Rows L2 TZ
/-- the signs of both, two by two -/
def Itss (x y : Str) : It := ⟨fun i _ => i < x.cps.size ∧ i < y.cps.size, fun i H v H' => ∃ T c d, x.cps[i]? = some c ∧ y.cps[i]? = some d ∧ v = .ref T ∧ H T = none ∧ H' = upd H T (.tup [.str ⟨#[c]⟩, .str ⟨#[d]⟩]),
  fun i _ => i ≤ x.cps.size ∧ i ≤ y.cps.size ∧ (i = x.cps.size ∨ i = y.cps.size)⟩
def iZss (ta : TA) : TI := fun σ H R => ta σ H fun vs H1 => ∃ x y, vs = [.str x, .str y] ∧ x.cps.all (· < 128) = true ∧ y.cps.all (· < 128) = true ∧ R (Itss x y) H1
end DL

set_option Elab.async false
set_option linter.all false
set_option maxRecDepth 100000
set_option maxHeartbeats 4000000
/-! texts, sign by sign -/
namespace DL
open PySem PySem.Spec PyProof.Rows L2
abbrev sg (c : Nat) : Str := ⟨#[c]⟩
def signs (s : Str) : List D := s.cps.toList.map fun c => .str (sg c)
section
variable {X : Cx} {B : Hp} {W0 : Wd} {S : En} {pos px p1 p apos cpos : Pos} {Q : D → Prop} {QB : Bool → Prop} {a b c e e2 o elt iter : Expr} {es : List Expr} {E : Ends'} {x : Str} {s : Str}
end
end DL

set_option Elab.async false
set_option linter.all false
set_option maxRecDepth 100000
set_option maxHeartbeats 4000000
/-! sum, min of tuples; factorial, perm; the signs of a text as a list, sorted -/
namespace DL
open PySem PySem.Spec PyProof.Rows L2
section
variable {prog : Program} {w : World} {A : Around} {E : Value → Shared → Prop} {s : Shared} {l : Addr}
end
section
variable {X : Cx} {Q : D → Prop}
theorem cd_sumL {l : List Int} (hc : X.calm = true) (q : Q (.int l.sum)) : CD X (.builtin "sum") [.val (.lst (l.map D.int))] Q := cd_of (cr_sum hc) fun vs W H ok ha R c => by
  obtain ⟨v, rfl, m⟩ := one_arg ha
  cases m with
  | @lst _ a xs hp m =>
    rw [Dns.ints m] at hp
    exact ⟨a, l, rfl, SqL.of (ok.ex _ _ hp), c.now ok (.int _) q⟩
/-- n! -/
def fac : Nat → Nat
  | 0 => 1
  | n + 1 => fac n * (n + 1)
/-! ### the signs of a text -/
end
end DL

set_option Elab.async false
set_option linter.all false
set_option maxRecDepth 100000
set_option maxHeartbeats 4000000
/-! enumerate(()); texts and enumerations walked -/
namespace EZ
open PySem PySem.Spec PyProof.Rows
open AutoSeq1 (wpAny_loadPart')
abbrev tit (l : Addr) : Obj := { cls := .type "tuple_iterator", data := .fields #[.ref l, .int 0 0] }
theorem new_enum (l : Addr) (xs : Array Value) : Meets (Builtin.«enumerate.__new__» ⟨[.type "enumerate", .ref l], []⟩) (fun _ R s => s.heap.IsTuple l xs ∧
    R (.ok (.ret (.ref (s.heap.push (tit l)).objs.size))) { s with heap := (s.heap.push (tit l)).push { cls := .type "enumerate", data := .fields #[.none, .bool false, .ref s.heap.objs.size, rawInt 0, .none, .none] } }) :=
  .of_wp fun prog w A R s h => by
    obtain ⟨h0, g, d, tk, os⟩ := s
    obtain ⟨hl, h⟩ := h
    have hsub := sub_enumerate
    have at_ : Heap.IsTuple (Shared.heap ⟨h0, g, d, tk, os⟩) l xs := hl
    wp_walk
    refine wpAny_stack_any fun st => wpAny_pure ?_
    split
    · rename_i c _ _ _ _ _
      cases (c == Value.type "enumerate")
      · wp_walk using wpAny_pyIter_tuple at_
        exact ⟨_, rfl, h⟩
      · wp_walk using wpAny_pyIter_tuple at_
        exact ⟨_, rfl, h⟩
    · wp_walk using wpAny_pyIter_tuple at_
      exact ⟨_, rfl, h⟩
theorem call_enum {prog : Program} {w : World} {A : Around} {E : Value → Shared → Prop} {s : Shared} {l : Addr} {xs : Array Value} {Q : Value → Shared → Prop} (hl : s.heap.IsTuple l xs)
    (h : ∀ h', IsEnum h' (s.heap.objs.size + 1) s.heap.objs.size 0 .none → h'.IsTupleIter s.heap.objs.size l 0 → (∀ b o, s.heap.get? b = some o → h'.get? b = some o) → Q (.ref (s.heap.objs.size + 1)) { s with heap := h' }) :
    wpAny (model prog w) A (call (.type "enumerate") [.ref l]) Q E s := by
  refine callType_new F.called_enumerate (by decide) (F.typeCall_enumerate_1 _) (F.newCall_enumerate_1 _) (fun obj => F.args_object_init_2 obj _) F.entry_enumerate_new (new_enum l xs) ⟨hl, ?_⟩
  have sz : (s.heap.push (tit l)).objs.size = s.heap.objs.size + 1 := Heap.size_push ..
  show _ ∧ _
  rw [sz]
  have e := Heap.get?_push_size (s.heap.push (tit l)) (o := { cls := .type "enumerate", data := .fields #[.none, .bool false, .ref s.heap.objs.size, rawInt 0, .none, .none] }) rfl
  rw [sz] at e
  exact ⟨⟨_, e, rfl⟩, h _ e ⟨_, Heap.get?_push_of_some _ (Heap.get?_push_size _ rfl), rfl, rfl⟩ fun b o x => Heap.get?_push_of_some _ (Heap.get?_push_of_some _ x)⟩
end EZ
namespace DL
open PySem PySem.Spec PyProof.Rows L2
/-- nothing to walk -/
def Itn (K : PySem.W.Frag) (a : Addr) : It := ⟨fun _ _ => False, fun _ _ _ _ => False, fun i H => i = 0 ∧ SqT K H a []⟩
def iEn (K : PySem.W.Frag) (ta : TA) : TI := fun σ H R => ta σ H fun vs H1 => ∃ a, vs = [.ref a] ∧ SqT K H1 a [] ∧ R (Itn K a) H1
section
variable {X : Cx} {B : Hp} {W0 : Wd} {S : En} {pos px p1 p apos cpos : Pos} {Q : D → Prop} {a b c e e2 o elt iter value : Expr} {es : List Expr} {E : Ends'} {x : Str}
/-- for i, x in enumerate(a list) -/
theorem sd_forE {elts : List Expr} {kk : Nat} {tpos : Pos} {body : List Stmt} {l : List D} (hp : PassesOwn (model X.prog X.w) X.A X.env X.xe) (hc : X.calm = true) (hm : X.mg "enumerate" = none) (Inv : Nat → En → Prop) (h : AD X B S [e] fun as => as = [.val (.lst l)] ∧ Inv 0 S)
    (hs : ∀ (i : Nat) d S', l[i]? = some d → Inv i S' → GD X B W0 S' (.Tuple elts kk tpos) (.tup [.int (i : Int), d]) fun S2 => SDs X B W0 S2 body { nx := Inv (i + 1), rt := E.rt, bk := E.nx, ct := Inv (i + 1) })
    (hd : ∀ S', Inv l.length S' → E.nx S') (hg : Gl X "enumerate" := by rfl) (hst : starEach [e] X.env = [(false, eval e X.env)] := by rfl) (hf : ∀ x, foldedSetIterable (.Call (.Name "enumerate" p) [e] [] p1) X.env x = pure x := by intro _; rfl) :
    SD X B W0 S (.For (.Tuple elts kk tpos) (.Call (.Name "enumerate" p) [e] [] p1) body [] pos) E := fun σ W H r z D' k => by
  refine PS.w (ps_for hp hc (pi_enum hg hm wa_pa hst) wg_pg wss_pss hf) ?_
  refine h σ W H r _ fun as vs W1 H1 s1 ok1 n1 q1 => ?_
  obtain ⟨rfl, i0⟩ := q1
  obtain ⟨v, rfl, m⟩ := one_arg n1
  cases m with
  | @lst _ a xs ha m =>
    refine ⟨a, xs, rfl, SqL.of (ok1.ex _ _ ha), for_it walk_enum (fun i σ' H' => ∃ S' W', Rep X.K (gOf X) B S' σ' W' H' ∧ Stp W0 B W' H' ∧ Ex W1.I W'.I ∧ Inv i S') ⟨S, W1, r.step s1 ok1, z.trans r.ok s1, Ex.refl _, i0⟩
      (fun i σ' H' _ ⟨S', W', r', _, e', _⟩ => SqL.of (r'.ok.ex _ _ (e' _ _ ha))) ?_ ?_⟩
    · rintro i y σ' H' H2 hi ⟨S', W', r', z', e', i'⟩ ⟨T, x1, x2, rfl, hT, rfl, ex1, ex2⟩
      obtain ⟨d, hd', nd⟩ := m.get ex2
      cases ex1
      have st := Stp.new (o := .tup [.int (i : Nat), x2]) r'.ok hT
      have ok2 := r'.ok.new (o := .tup [.int (i : Nat), x2]) hT
      refine hs i d S' hd' i' σ' _ _ _ (r'.step st ok2) (z'.trans r'.ok st) (.tup (show upd W'.I T _ T = _ from upd_same) (.cons (.int _) (.cons ((nd.mono e').mono st.I) .nil))) _ fun S3 σ3 W3 H3 r3 z3 e3 q3 => ?_
      have e4 := (e'.trans st.I).trans e3
      exact q3 σ3 W3 H3 r3 z3 _ ⟨fun S5 σ5 W5 H5 r5 z5 e5 q5 => ⟨S5, W5, r5, z5, e4.trans e5, q5⟩, fun d5 v5 W5 H5 r5 z5 e5 n5 q5 => k.rt d5 v5 W5 H5 r5 z5 ((s1.I.trans e4).trans e5) n5 q5,
        fun S5 σ5 W5 H5 r5 z5 e5 q5 => k.nx S5 σ5 W5 H5 r5 z5 ((s1.I.trans e4).trans e5) q5, fun S5 σ5 W5 H5 r5 z5 e5 q5 => ⟨S5, W5, r5, z5, e4.trans e5, q5⟩⟩
    · rintro σ' H' ⟨S', W', r', z', e', i'⟩
      rw [← m.length] at i'
      exact k.nx S' σ' W' H' r' z' (s1.I.trans e') (hd S' i')
end
end DL

set_option Elab.async false
set_option linter.all false
set_option maxRecDepth 100000
set_option maxHeartbeats 2000000
/-! slices of tuples and texts; methods of texts; x[i] += j; tuple(tuple) -/
namespace DL
open PySem L2 PyProof.Rows
section
variable {X : Cx} {B : Hp} {W0 : Wd} {S : En} {pos p2 px p1 p apos cpos tpos : Pos} {Q : D → Prop} {a b c e e2 o : Expr} {es : List Expr} {E : Ends'} {x : Str}
/-! methods of texts -/
section
variable {k0 : Nat}
end
/-! x[i] += j, x the owner of its list -/
def rGetL (K : PySem.W.Frag) : V → V → Hp → VK → Prop := fun x y H Q => ∃ p xs, ∃ j : Nat, ∃ v, x = .ref p ∧ y = .int (j : Int) ∧ H p = some (.lst xs) ∧ j < 100000 ∧ xs[j]? = some v ∧ Q v H
end
end DL

set_option Elab.async false
set_option linter.all false
set_option maxRecDepth 100000
set_option maxHeartbeats 2000000
/-! for x, y in zip(a, b) -/
namespace DL
open PySem L2 PyProof.Rows
section
variable {X : Cx} {B : Hp} {W0 : Wd} {S : En} {pos p p1 : Pos} {e e2 : Expr} {E : Ends'}
end
end DL

set_option Elab.async false
set_option linter.all false
set_option maxRecDepth 100000
set_option maxHeartbeats 2000000
/-! the empty tuple that a def has as a default: known by its address -/
namespace DL
open PySem L2 PyProof.Rows
def EmpT (K : PySem.W.Frag) (a : Addr) : Prop := ∃ (o : Obj) (n : Nat), K.lookup a = some o ∧ o.cls = .type "tuple" ∧ o.data = .seq #[] n
section
variable {X : Cx} {B : Hp} {W0 : Wd} {S : En} {pos p p1 : Pos} {Q : D → Prop} {e : Expr} {E : Ends'}
end
end DL

set_option Elab.async false
set_option linter.all false
set_option maxRecDepth 100000
set_option maxHeartbeats 2000000
/-! name = [elt for x in a text]; texts that are the same -/
namespace DL
open PySem L2 PyProof.Rows
section
variable {X : Cx} {B : Hp} {S : En} {elt iter : Expr}
end
end DL

set_option Elab.async false
set_option linter.all false
set_option maxRecDepth 100000
set_option maxHeartbeats 2000000
/-! [..] * n of one's own; a loop over a range that is not empty -/
namespace DL
open PySem L2 PyProof.Rows
section
variable {X : Cx} {B : Hp} {W0 : Wd} {S : En} {pos : Pos} {a b : Expr}
end
section
variable {X : Cx} {B : Hp} {W0 : Wd} {S : En} {pos : Pos}
end
end DL

set_option Elab.async false
set_option linter.all false
set_option maxRecDepth 100000
set_option maxHeartbeats 2000000
/-! d.get(k, x) of a dict that is data -/
namespace DL
open PySem L2 PyProof.Rows
section
variable {X : Cx} {B : Hp} {S : En} {Q : D → Prop} {o e f : Expr} {apos cpos : Pos}
end
end DL

set_option Elab.async false
set_option linter.all false
set_option maxRecDepth 100000
set_option maxHeartbeats 2000000
/-! sorted of a list or a tuple of data, by itself -/
namespace SRT
open PySem PySem.W PySem.Calls PyProof.Rows
section
variable {prog : Program} {w : World} {A : Around} {E : Value → Shared → Prop} {s : Shared}
theorem sorted_of {it : Addr} {T : String} {o : Obj} {n : Nat} {vs : List Value} {kw : List (Str × Value)} {Q : Value → Shared → Prop} (hT : T = "list" ∨ T = "tuple") (ho : s.heap.get? it = some o) (hc : o.cls = .type T) (hd : o.data = .seq vs.toArray n) (hL : vs.length ≤ sizeLine) (ha1 : argsOk "sorted" ⟨[.ref it], kw⟩) (ha2 : ∀ x, argsOk "list.sort" ⟨[.ref x], kw⟩)
    (body : ∀ h1 : Heap, (∀ b o', s.heap.get? b = some o' → h1.get? b = some o') → ∀ E' : Value → Shared → Prop, wpAny (model prog w) A.in1.in1 (Builtin.«list.sort» ⟨[.ref h1.objs.size], kw⟩) (fun f s' => f = .done (.ret .none) ∧ Q (.ref h1.objs.size) s') E' { s with heap := h1.push (seqObj "list" vs.toArray 0) }) :
    wpAny (model prog w) A (call (.builtin "sorted") [.ref it] kw) Q E s := by
  refine call_function_entry_kw kind_sorted plain_sorted entry_sorted ha1 ?_
  unfold Builtin.«sorted»
  refine wpAny_bind (m := checkCount "sorted" 1 1 _) (wpAny_pure ?_)
  refine wpAny_bind (PySem.wpAny_collect_seq it hT ho hc hd (fun h1 keep => ?_) (by simpa using hL))
  rw [List.toList_toArray]
  refine wpAny_bind (wpAny_newList ?_ hL)
  refine wpAny_bind (wpAny_holding (wpAny_call_entry_kw slot_list_sort ⟨_, Heap.get?_push_size _ rfl, rfl⟩ entry_list_sort ?body (ha2 _)))
  case body =>
    show wpAny (model prog w) A.in1.in1 (Builtin.«list.sort» ⟨[.ref h1.objs.size], kw⟩) _ _ _
    refine wpAny_mono (body h1 keep _) (fun f s' hf => ?_) fun _ _ e => e
    obtain ⟨rfl, hq⟩ := hf
    exact ⟨_, rfl, wpAny_pure ⟨_, rfl, hq⟩⟩
theorem sorted_dat {β : Type} {R : Value → β → Prop} {enc : β → PyData} {vs : List Value} {bs : List β} {it : Addr} {T : String} {o : Obj} {n : Nat} {Q : Value → Shared → Prop} (hT : T = "list" ∨ T = "tuple") (ho : s.heap.get? it = some o) (hc : o.cls = .type T) (hd : o.data = .seq vs.toArray n)
    (e : EachIs R vs bs) (er : EachIs (fun v b => ∃ as, Reads s.heap v (enc b) as) vs bs) (hal : AllAlike (bs.map enc)) (hk : Sortable (bs.map enc)) (hL : bs.length ≤ sizeLine) (hu : ∀ b, b ∈ bs → A.units + 2 + (enc b).depth < cLine)
    (h : ∀ out (h1 h' : Heap) p c, (∀ b o, s.heap.get? b = some o → h1.get? b = some o) → (∀ b o, h1.get? b = some o → h'.get? b = some o) → h1.objs.size ≤ p → h'.get? p = some (seqObj "list" (List.toArray out) c) → EachIs R out (bs.mergeSort (dataLe false enc)) → Q (.ref p) { s with heap := h' }) :
    wpAny (model prog w) A (call (.builtin "sorted") [.ref it]) Q E s := by
  refine sorted_of hT ho hc hd (by rw [e.length]; exact hL) (args_sorted1 _) (fun _ => args_list_sort _) fun h1 keep E' => ?_
  have keep2 : ∀ b o, s.heap.get? b = some o → b ≠ h1.objs.size ∧ (h1.push (seqObj "list" vs.toArray 0)).get? b = some o := fun b o q => ⟨Nat.ne_of_lt (Heap.lt_size (keep b o q)), Heap.get?_push_of_some _ (keep b o q)⟩
  have er' : EachIs (fun v b => ∃ as, Reads (sortingHeap (h1.push (seqObj "list" vs.toArray 0)) h1.objs.size vs) v (enc b) as) vs bs := er.mono fun _ _ ⟨as, r⟩ => ⟨as, PyProof.Rows.Reads.keeps (fun b o q => sortingHeap_old (keep2 b o q).1 (keep2 b o q).2) r⟩
  refine list_sort_vals (κ := dataKind (sortingHeap (h1.push (seqObj "list" vs.toArray 0)) h1.objs.size vs) (bs.map enc)) (s := { s with heap := h1.push (seqObj "list" vs.toArray 0) }) (Heap.get?_push_size _ rfl)
    (SortsAt.data (s := { s with heap := sortingHeap (h1.push (seqObj "list" vs.toArray 0)) h1.objs.size vs }) (each_map (R := fun v d => ∃ as, Reads (sortingHeap (h1.push (seqObj "list" vs.toArray 0)) h1.objs.size vs) v d as) enc er') hal hk (bound_map (A := A.in1.in1) hu)) (by rw [e.length]; exact hL) ⟨rfl, ?_⟩
  obtain ⟨c, hcc⟩ := sortedHeap_at (h := h1.push (seqObj "list" vs.toArray 0)) (a := h1.objs.size) (vs := vs) (n := 0) (out := (sortVals (dataKind (sortingHeap (h1.push (seqObj "list" vs.toArray 0)) h1.objs.size vs) (bs.map enc)) false vs vs).toArray) (Heap.get?_push_size _ rfl)
  refine h _ h1 _ _ c keep (fun b o q => ?_) (Nat.le_refl _) hcc (sortVals_data (h' := sortingHeap (h1.push (seqObj "list" vs.toArray 0)) h1.objs.size vs) false e er' hal)
  rw [sortedHeap_old (Nat.ne_of_lt (Heap.lt_size q)) (Heap.lt_size (Heap.get?_push_of_some _ q))]
  exact Heap.get?_push_of_some _ q
end
end SRT
namespace DL
open PySem PySem.Spec PySem.W PyProof.Rows L2
theorem each_of {K : PySem.W.Frag} {I : Hp} {α : Type} {f : α → D} : ∀ {bs : List α} {xs : List V} {its : List Value}, Dns K I (bs.map f) xs → Vals xs its → EachIs (fun v b => ∃ x, RelV x v ∧ Dn K I (f b) x) its bs
  | [], _, _, .nil, .nil => .nil
  | b :: bs, _, _, .cons d r, .cons v z => .cons ⟨_, v, d⟩ (each_of r z)
theorem of_each {K : PySem.W.Frag} {I : Hp} {α : Type} {f : α → D} : ∀ {bs : List α} {its : List Value}, EachIs (fun v b => ∃ x, RelV x v ∧ Dn K I (f b) x) its bs → ∃ ys, Vals ys its ∧ Dns K I (bs.map f) ys
  | _, _, .nil => ⟨[], .nil, .nil⟩
  | _, _, .cons h r => by
    obtain ⟨x, rv, d⟩ := h
    obtain ⟨ys, a, b⟩ := of_each r
    exact ⟨x :: ys, .cons rv a, .cons d b⟩
section
variable {X : Cx} {α : Type} {f : α → D} {enc : α → PyData} {bs : List α} {Q : D → Prop}
/-- sorted(a list or a tuple of data) -/
theorem cd_sortD {d : D} (hu : X.A.units + 100 < cLine) (sd : SeqD d (bs.map f)) (hp : ∀ b ∈ bs, PyD (f b) (enc b)) (hal : AllAlike (bs.map enc)) (hk : Sortable (bs.map enc)) (hdp : ∀ b ∈ bs, (enc b).depth ≤ 4) (hl : bs.length ≤ 50000) (q : Q (.lst ((bs.mergeSort (dataLe false enc)).map f))) : CD X (.builtin "sorted") [.val d] Q := fun vs W H ok ha R c pins s σ us I rv => by
  obtain ⟨v, rfl, m⟩ := one_arg ha
  have key : ∀ (a : Addr) (xs : List V) (its : List Value) (T : String) (o : Obj) (n : Nat), T = "list" ∨ T = "tuple" → s.heap.get? a = some o → o.cls = .type T → o.data = .seq its.toArray n → Vals xs its → Dns X.K W.I (bs.map f) xs → v = .ref a →
      wpAny (model X.prog X.w) X.A (call (.builtin "sorted") us) (EP X pins σ R) X.xe s := by
    intro a xs its T o n hT ho hc hd rvs dn e
    subst e
    obtain rfl := Vals.ref1 rv
    have e := each_of (f := f) dn rvs
    refine SRT.sorted_dat (enc := enc) hT ho hc hd e ((each_mem e).mono fun v b ⟨⟨x, r, d⟩, hb⟩ => Dp.reads I (enc b) x v ((hp b hb).dp ok d) r) hal hk (Nat.le_trans hl (by decide)) (fun b hb => by have := hdp b hb; omega) fun out h1 h' p cc keep0 keep hp hat eo => ?_
    obtain ⟨ys, y1, y2⟩ := of_each (f := f) eo
    have I1 : Inv X pins σ H { s with heap := h1, toks := s.toks } := I.kept keep0
    have hfr : H p = none := I1.hok.fresh hp
    have st := Stp.new (o := .lst ys) ok hfr
    have hlen : ys.length ≤ sizeLine := by
      have := y2.length
      rw [List.length_map, List.length_mergeSort] at this
      rw [← this]
      exact Nat.le_trans hl (by decide)
    exact ⟨.ref p, upd H p (.lst ys), I1.laid (t' := s.toks) keep hp ⟨hlen, out, cc, y1, hat⟩, rfl, c _ _ _ _ st (ok.new hfr) (.lst (show upd W.I p _ p = _ from upd_same) (y2.mono st.I)) q⟩
  rcases sd with rfl | rfl
  · cases m with
    | @lst _ a xs hp' dn =>
      obtain ⟨its, r1, ⟨o, n, g1, g2, _, g3⟩, _⟩ := I.list (SqL.of (ok.ex _ _ hp'))
      exact key a xs its "list" o n (.inl rfl) g1 g2 g3 r1 dn rfl
  · cases m with
    | @tup _ a xs hp' dn =>
      obtain ⟨its, r1, ⟨o, g1, g2, n, g3⟩, _⟩ := I.tuple (SqT.of (ok.ex _ _ hp'))
      exact key a xs its "tuple" o n (.inr rfl) g1 g2 g3 r1 dn rfl
end
end DL

set_option Elab.async false
set_option linter.all false
set_option maxRecDepth 100000
set_option maxHeartbeats 2000000
/-! sorted(.., key=f), f a def of the text -/
namespace SRT
open PySem PySem.W PySem.Calls PyProof.Rows
section
variable {prog : Program} {w : World} {A : Around} {E : Value → Shared → Prop} {s : Shared} {a kS : Addr} {vs : List Value} {keys : Array Value} {e e1 : Nat} {P : PySem.Fin → Shared → Prop}
/-- the heap behind the sort: the keys' list emptied, the items put back -/
def endHeap (h : Heap) (kS a : Addr) (out : List Value) : Heap := (h.update kS (Obj.mapSeq fun _ => (#[] : Array Value))).update a (Obj.mapSeq fun _ => out.toArray)
theorem tail {st : SortSt} {out : List Value} (nk : s.heap.get? kS = some (seqObj "list" keys e)) (na : s.heap.get? a = some (seqObj "list" #[] e1)) (hka : kS ≠ a)
    (hsz : keys.size ≤ sizeLine) (hz : out.length ≤ sizeLine) (hfl : failedOf st = none) (ho : (if false = true then ((arrOf st).map (·.2)).reverse else (arrOf st).map (·.2)) = out.toArray)
    (h : ∀ tk, P (.done (.ret .none)) { s with heap := endHeap s.heap kS a out, toks := tk }) :
    wpAny (model prog w) A (ksk_tail a false e1 (.ref kS) st) P E s := by
  have s1 := Heap.SameBut.update s.heap kS (Obj.mapSeq fun _ => (#[] : Array Value))
  have na1 : (s.heap.update kS (Obj.mapSeq fun _ => (#[] : Array Value))).get? a = some (seqObj "list" #[] e1) := (s1.2 a hka.symm).trans na
  have hz2 : out.toArray.size ≤ sizeLine + 1 := by
    rw [List.size_toArray]
    exact Nat.le_succ_of_le hz
  unfold ksk_tail
  try dsimp only
  rw [ho]
  refine wpAny_bind (listUpdate_at nk rfl ?_ hsz (Nat.zero_le _))
  refine wpAny_bind (wpAny_letGo ?_)
  refine wpAny_bind (seqEpoch_at na1 rfl ?_)
  refine wpAny_bind (listUpdate_at na1 rfl ?_ (Nat.zero_le _) hz2)
  rw [hfl]
  simp only [bne_self_eq_false, Bool.false_eq_true, if_false]
  exact wpAny_pure (h _)
theorem end_ {κ : PyProof.Rows.KeyKind} (nk : s.heap.get? kS = some (seqObj "list" keys e)) (na : s.heap.get? a = some (seqObj "list" #[] e1)) (hka : kS ≠ a)
    (S : SortsAt prog w A s κ keys.toList) (hsz : keys.size = vs.length) (hZ : vs.length ≤ sizeLine)
    (h : ∀ tk, P (.done (.ret .none)) { s with heap := endHeap s.heap kS a (sortVals κ false keys.toList vs), toks := tk }) :
    wpAny (model prog w) A (ksk_end a false vs.toArray e1 (.ref kS) keys) P E s := by
  obtain ⟨kd, h1, h2⟩ := S.kind
  have hkl : keys.toList.length = vs.length := by
    rw [Array.length_toList]
    exact hsz
  have hK : PyProof.Rows.KeysOf κ (keys.zip vs.toArray) := keysOf_zip S.keys
  have hol : (sortVals κ false keys.toList vs).length = vs.length := sortVals_length false hkl
  have hstart : (if false = true then (keys.zip vs.toArray).reverse else keys.zip vs.toArray).Perm (keys.zip vs.toArray) := Array.Perm.refl _
  have hss : (if false = true then (keys.zip vs.toArray).reverse else keys.zip vs.toArray).size = vs.length := by rw [hstart.size_eq, Array.size_zip, hsz, List.size_toArray, Nat.min_self]
  have fin : ∀ st' : SortSt, (arrOf st').Perm (if false = true then (keys.zip vs.toArray).reverse else keys.zip vs.toArray) → SortedToK κ (arrOf st') (if false = true then (keys.zip vs.toArray).reverse else keys.zip vs.toArray).size →
      Stable κ (arrOf st') (if false = true then (keys.zip vs.toArray).reverse else keys.zip vs.toArray) → (if false = true then ((arrOf st').map (·.2)).reverse else (arrOf st').map (·.2)) = (sortVals κ false keys.toList vs).toArray := by
    intro st' hp hs ht
    have e := sort_out (rev := false) (keys := keys) (items := vs.toArray) (xs := arrOf st') (κ := κ) hK hp hs ht
    have e' := congrArg List.toArray e
    rw [Array.toArray_toList] at e'
    exact e'
  unfold ksk_end
  try dsimp only
  show wpAny (model prog w) A _ P E s
  rw [if_neg (by decide : ¬ (false = true))]
  by_cases hl2 : vs.toArray.size < 2
  · rw [if_pos hl2, if_pos hl2]
    refine wpAny_bind (wpAny_pure ?_)
    rw [StateT.run_pure]
    refine wpAny_bind (wpAny_pure ?_)
    try dsimp only
    refine tail (st := SortSt.mk' general' (if false = true then (keys.zip vs.toArray).reverse else keys.zip vs.toArray) #[] 7 none) nk na hka (by rw [hsz]; exact hZ) (by rw [hol]; exact hZ) rfl (fin _ (Array.Perm.refl _) ?_ (Stable.refl _)) h
    intro i j hij hj
    rw [hss] at hj
    rw [List.size_toArray] at hl2
    have : i = j := by omega
    subst this
    exact KeyOrd.kle_refl _
  · rw [if_neg hl2, if_neg hl2]
    rw [List.size_toArray] at hl2
    refine wpAny_bind (h2 (by omega) _ ?_)
    refine wpAny_bind (wpAny_mono (H.wpS_sortRunsSt (κ := κ) (kd := kd) (a₀ := if false = true then (keys.zip vs.toArray).reverse else keys.zip vs.toArray)
      (st := SortSt.mk' kd (if false = true then (keys.zip vs.toArray).reverse else keys.zip vs.toArray) #[] 7 none)
      (Q := fun _ st' => failedOf st' = none ∧ (if false = true then ((arrOf st').map (·.2)).reverse else (arrOf st').map (·.2)) = (sortVals κ false keys.toList vs).toArray)
      h1 (hK.perm hstart) ⟨Array.Perm.refl _, rfl, rfl⟩ rfl (Stable.refl _) (by rw [hss]; omega) fun st' a1 a2 a3 a4 => ⟨a2, fin st' a1 a3 a4⟩) ?_ fun _ _ e => e)
    rintro ⟨⟨⟩, st'⟩ s' ⟨rfl, hf, ho⟩
    try dsimp only at ho ⊢
    exact tail nk na hka (by rw [hsz]; exact hZ) (by rw [hol]; exact hZ) hf ho h
/-- the keys asked one by one: I what holds behind so many -/
theorem rest {f : Value} (I : Nat → Shared → Prop) (h0 : I 0 s)
    (turn : ∀ (i : Nat) (v : Value) (s' : Shared), vs[i]? = some v → I i s' → wpAny (model prog w) A (call f [v]) (fun k s'' => ∃ kA e, s''.heap.get? kS = some (seqObj "list" kA e) ∧ kA.size < sizeLine ∧ I (i + 1) { s'' with heap := s''.heap.update kS (Obj.mapSeq (·.push k)) }) (fun _ _ => False) s')
    (done : ∀ s', I vs.length s' → ∃ (kA : Array Value) (e : Nat) (κ : PyProof.Rows.KeyKind), s'.heap.get? kS = some (seqObj "list" kA e) ∧ s'.heap.get? a = some (seqObj "list" #[] e1) ∧ kS ≠ a ∧ SortsAt prog w A s' κ kA.toList ∧ kA.size = vs.length ∧ vs.length ≤ sizeLine ∧ ∀ tk, P (.done (.ret .none)) { s' with heap := endHeap s'.heap kS a (sortVals κ false kA.toList vs), toks := tk }) :
    wpAny (model prog w) A (ksk_rest a f false vs.toArray e1 (.ref kS)) P E s := by
  unfold ksk_rest
  refine wpAny_bind (wpAny_rule ?_)
  first
    | rw [List.forIn_toArray]
    | (rw [← Array.forIn_toList]; simp only [List.toList_toArray])
    | rw [← Array.forIn_toList]
  refine wpAny_bind (ksk_fold (fun i s' => I i s') vs 0 s h0 ?step ?done)
  case step =>
    intro j x s' hx hI
    simp only [Nat.zero_add] at hI ⊢
    refine wpAny_bind (wpAny_attempt (wpAny_mono (turn j x s' hx hI) (fun v s'' he => ?_) fun _ _ hF => hF.elim))
    obtain ⟨kA, e, nk, hz, hi⟩ := he
    try dsimp only
    refine wpAny_bind (listUpdate_at nk rfl ?_ (Nat.le_of_lt hz) (Nat.le_trans (Nat.le_of_eq (Array.size_push ..)) (Nat.succ_le_succ (Nat.le_of_lt hz))))
    exact wpAny_pure ⟨rfl, hi⟩
  case done =>
    intro s' hI
    rw [Nat.zero_add] at hI
    obtain ⟨kA, e, κ, nk, na, hka, S, hsz, hZ, hP⟩ := done s' hI
    refine wpAny_bind (listItems_at nk rfl ?_)
    exact end_ nk na hka S hsz hZ hP
end
end SRT
namespace DL
open PySem PySem.Spec PySem.W PyProof.Rows L2
section
variable {X : Cx} {α : Type} {f kD : α → D} {enc : α → PyData} {bs : List α} {Q : D → Prop} {B : Hp} {S : En}
theorem Inv.track {X : Cx} {pins : List (Addr × Obj)} {σ : L2.St} {H : Hp} {s : Shared} {p : Addr} {o : HO} (I : Inv X pins σ H s) (hn : H p = none) (new : ObjOk X.prog X.w (upd H p o) s.heap p o) (h0 : X.s_0.heap.objs.size ≤ p) (hL : p ≠ X.env.locals) (hC : ∀ x c, X.env.cells.lookup x = some c → c ≠ p) (hP : ∀ q ∈ X.pn ++ pins, q.1 ≠ p) : Inv X pins σ (upd H p o) s := by
  have ne : ∀ b u, H b = some u → b ≠ p := fun b u e z => by rw [z, hn] at e; cases e
  have lt : ∀ b u, X.s_0.heap.get? b = some u → b ≠ p := fun b u e z => by subst z; exact absurd (Nat.lt_of_lt_of_le (Heap.lt_size e) h0) (Nat.lt_irrefl _)
  refine ⟨I.ok, I.os, I.bare, ⟨I.base.keep, I.base.slot, fun b u e n x => ?_, I.base.there, fun b xs e => ?_, fun b u v e => ?_, fun b ps e => ?_⟩, I.loc, I.cell, ?_, fun x c e => ?_, fun q hq => ?_, fun b u e => ?_, I.len⟩
  · rw [upd_ne (lt b u e)]
    exact I.base.free b u e n x
  · have := I.base.tups b xs e
    rw [upd_ne (ne b _ this)]
    exact this
  · have := I.base.frzs b u v e
    rw [upd_ne (ne b _ this)]
    exact this
  · obtain ⟨more, h⟩ := I.base.tbls b ps e
    exact ⟨more, by rw [upd_ne (ne b _ h)]; exact h⟩
  · rw [upd_ne (Ne.symm hL)]
    exact I.free
  · rw [upd_ne (hC x c e)]
    exact I.freeC x c e
  · obtain ⟨h1, h2, h3⟩ := I.pin q hq
    exact ⟨h1, by rw [upd_ne (hP q hq)]; exact h2, h3⟩
  · by_cases hb : b = p
    · subst hb
      rw [upd_same] at e
      cases e
      exact new
    · rw [upd_ne hb] at e
      exact (I.hok b u e).stay (fun _ _ _ q => q) (fun c q => by rw [upd_ne (ne c _ q)]; exact q) fun c xs q => by rw [upd_ne (ne c _ q)]; exact q
theorem each_at {α β : Type} {R : α → β → Prop} : ∀ {as : List α} {bs : List β} {i : Nat} {a : α}, EachIs R as bs → as[i]? = some a → ∃ b, bs[i]? = some b ∧ R a b
  | _, _, _, _, .nil, h => by simp at h
  | _, _, 0, _, .cons h _, e => by
    simp at e
    subst e
    exact ⟨_, rfl, h⟩
  | _, _, i + 1, _, .cons _ t, e => by
    obtain ⟨b, h1, h2⟩ := each_at (i := i) t (by simpa using e)
    exact ⟨b, by simpa using h1, h2⟩
/-- sorted(e, key=f) -/
theorem cd_sortKey {fn : Str} {k : Nat} {sp : SpD} {d : D} {fa : Addr} (F : Df X.prog X.w X.K X.mg X.base fn k 1 sp) (hfa : X.mg fn = some (.ref fa)) (hr : Room (k + 2) X.A) (hG : X.A.guards = some (gOf X)) (sd : SeqD d (bs.map f)) (hsp : ∀ b ∈ bs, sp [.val (f b)] fun d => d = kD b) (hp : ∀ b ∈ bs, PyD (kD b) (enc b)) (hal : AllAlike (bs.map enc)) (hk : Sortable (bs.map enc)) (hdp : ∀ b ∈ bs, (enc b).depth ≤ 4) (hl : bs.length ≤ 50000) (q : Q (.lst ((bs.mergeSort (dataLe false enc)).map f)))
    {vs zs : List V} {W : Wd} {H : Hp} (ok : Ok (gOf X) W H) (ha : Args X.K W [.val d] vs) (hz : Args X.K W [.val (.cls fa)] zs) {R : VK} (c : Cont X.K (gOf X) W H Q R) {pins : List (Addr × Obj)} {s : Shared} {σ : L2.St} {us ws : List Value} (I : Inv X pins σ H s) (rv : Vals vs us) (rz : Vals zs ws) :
    wpAny (model X.prog X.w) X.A (call (.builtin "sorted") us ([Str.ofString "key"].zip ws)) (EP X pins σ R) X.xe s := by
  obtain ⟨v, rfl, m⟩ := one_arg ha
  obtain ⟨z, rfl, mz⟩ := one_arg hz
  cases mz
  obtain ⟨fa', fd, ps, FG, hm, hkp, hb, hps⟩ := F.ex
  rw [hfa] at hm
  cases hm
  obtain ⟨w1, rfl, e1⟩ := vals1 rz
  obtain rfl : w1 = Value.ref fa := e1
  have hN : bs.length ≤ sizeLine := Nat.le_trans hl (by decide)
  have key : ∀ (a : Addr) (xs : List V) (its : List Value) (T : String) (o : Obj) (n : Nat), T = "list" ∨ T = "tuple" → s.heap.get? a = some o → o.cls = .type T → o.data = .seq its.toArray n → Vals xs its → Dns X.K W.I (bs.map f) xs → v = .ref a →
      wpAny (model X.prog X.w) X.A (call (.builtin "sorted") us [(Str.ofString "key", .ref fa)]) (EP X pins σ R) X.xe s := by
    intro a xs its T o n hT ho hc hd rvs dn e
    subst e
    obtain rfl := Vals.ref1 rv
    have ea := each_of (f := f) dn rvs
    have lits : its.length = bs.length := ea.length
    refine SRT.sorted_of hT ho hc hd (by rw [lits]; exact hN) (ksk_s1 _ _) (fun _ => ksk_l1 _ _) fun h1 keep E' => ?_
    rw [ksk_t1]
    have I1 : Inv X pins σ H { s with heap := h1, toks := s.toks } := I.kept keep
    have fr1 : H h1.objs.size = none := I1.hok.fresh (Nat.le_refl _)
    have at1 : (h1.push (seqObj "list" its.toArray 0)).get? h1.objs.size = some (seqObj "list" its.toArray 0) := Heap.get?_push_size _ rfl
    have sm2 := Heap.SameBut.update (h1.push (seqObj "list" its.toArray 0)) h1.objs.size (Obj.mapSeq fun _ => (#[] : Array Value))
    obtain ⟨c1, at2⟩ : ∃ c1, ((h1.push (seqObj "list" its.toArray 0)).update h1.objs.size (Obj.mapSeq fun _ => (#[] : Array Value))).get? h1.objs.size = some (seqObj "list" #[] c1) := ⟨_, get?_update_seq at1 fun _ => #[]⟩
    unfold ksk_tree
    refine wpAny_bind (listItems_at at1 rfl ?_)
    refine wpAny_bind (listUpdate_at at1 rfl ?_ (by rw [List.size_toArray, lits]; exact hN) (Nat.zero_le _))
    refine wpAny_bind (seqEpoch_at at2 rfl ?_)
    refine wpAny_bind (wpAny_newTuple ?_ (by show its.length ≤ _; rw [lits]; exact hN))
    refine wpAny_bind (wpAny_newList ?_ (Nat.zero_le _))
    refine wpAny_holding ?_
    have keep12 : ∀ b u, h1.get? b = some u → ((h1.push (seqObj "list" its.toArray 0)).update h1.objs.size (Obj.mapSeq fun _ => (#[] : Array Value))).get? b = some u := fun b u q => (sm2.2 b (Nat.ne_of_lt (Heap.lt_size q))).trans (Heap.get?_push_of_some _ q)
    generalize hh2 : (h1.push (seqObj "list" its.toArray 0)).update h1.objs.size (Obj.mapSeq fun _ => (#[] : Array Value)) = h2 at keep12 at2 ⊢
    have sz2 : h2.objs.size = h1.objs.size + 1 := by rw [← hh2, Heap.size_update, size_push']
    have I2 : Inv X pins σ H { s with heap := h2.push (seqObj "tuple" its.toArray 0), toks := s.toks } := I1.kept (h' := h2.push (seqObj "tuple" its.toArray 0)) (t' := s.toks) fun b u q => Heap.get?_push_of_some _ (keep12 b u q)
    have lp : ∀ q ∈ X.pn ++ pins, q.1 ≠ h1.objs.size := fun q hq z => by
      have := Heap.lt_size (I1.pin q hq).1
      rw [z] at this
      exact absurd this (Nat.lt_irrefl _)
    have nL : h1.objs.size ≠ X.env.locals := Nat.ne_of_gt I1.lt
    have nF : h1.objs.size ∉ X.fs := I1.nofs (Nat.le_refl _)
    have nC : ∀ x c, X.env.cells.lookup x = some c → c ≠ h1.objs.size := fun x c q z => by
      obtain ⟨v, hv⟩ := I1.cell x c q
      rw [z] at hv
      obtain ⟨o', g, _⟩ := hv
      exact absurd (Heap.lt_size g) (Nat.lt_irrefl _)
    have J2 : Inv X (pins ++ [(h1.objs.size, seqObj "list" #[] c1)]) σ H { s with heap := h2.push (seqObj "tuple" its.toArray 0), toks := s.toks } := I2.pins_of fun q hq => by
      rcases List.mem_append.mp hq with z | z
      · exact I2.pin q (List.mem_append_right _ z)
      · rw [List.mem_singleton.mp z]
        exact ⟨Heap.get?_push_of_some _ at2, fr1, nL, nF, fun v z => by cases z⟩
    generalize hk0 : (h2.push (seqObj "tuple" its.toArray 0)).objs.size = kS
    have kSz : kS = h1.objs.size + 2 := by rw [← hk0, size_push', sz2]
    have hka : kS ≠ h1.objs.size := by omega
    have frk : H kS = none := J2.hok.fresh (by rw [← hk0]; exact Nat.le_refl _)
    have atk : ((h2.push (seqObj "tuple" its.toArray 0)).push (seqObj "list" #[] 0)).get? kS = some (seqObj "list" #[] 0) := by rw [← hk0]; exact Heap.get?_push_size _ rfl
    have J3 : Inv X (pins ++ [(h1.objs.size, seqObj "list" #[] c1)]) σ (upd H kS (.lst [])) { s with heap := (h2.push (seqObj "tuple" its.toArray 0)).push (seqObj "list" #[] 0), toks := s.toks } := J2.laid (t' := s.toks) (fun b u q => Heap.get?_push_of_some _ q) (by rw [← hk0]; exact Nat.le_refl _) ⟨by decide, [], 0, .nil, atk⟩
    have mid0 : Mid X.K (gOf X) W H kS [] W (upd H kS (.lst [])) := ⟨Stp.own frk, ok.own frk, ok.notP frk, ok.free frk, [], upd_same, .nil⟩
    have ri := hr.in1.in1
    refine SRT.rest (s := { s with heap := (h2.push (seqObj "tuple" its.toArray 0)).push (seqObj "list" #[] 0), toks := s.toks }) (fun i s' => ∃ W' H', Inv X (pins ++ [(h1.objs.size, seqObj "list" #[] c1)]) σ H' s' ∧ Mid X.K (gOf X) W H kS ((bs.take i).map kD) W' H') ⟨W, _, J3, by rw [List.take_zero]; exact mid0⟩ ?_ ?_
    · rintro i v s' hv ⟨W', H', J, mm⟩
      obtain ⟨b, hb', x, rx, dx⟩ := each_at ea hv
      have bm := List.mem_of_getElem? hb'
      have hi : i < bs.length := (List.getElem?_eq_some_iff.mp hb').1
      refine wpAny_call (run_gn (A := X.A.in1.in1) FG ri hG J.env0.in1.in1 hb .nil J (.cons rx .nil) (Q := fun y H2 => ∃ W2, Stp W' H' W2 H2 ∧ Ok (gOf X) W2 H2 ∧ Dn X.K W2.I (kD b) y) ?_ fun u s2 hv2 => ?_)
      · rw [List.append_nil]
        exact ⟨[.val (f b)], W', _, mm.ok, .cons (dx.mono mm.st.I) .nil, hsp b bm, fun d2 v2 W2 H2 st ok' n' e2 => by subst e2; exact ⟨W2, st, ok', n'⟩⟩
      · obtain ⟨y, H2, J', ry, W2, st, ok', dy⟩ := hv2
        have m2 := mm.step st ok'
        obtain ⟨acc, e1, e3, m3⟩ := m2.more frk dy (by rw [List.length_map, List.length_take]; omega)
        obtain ⟨z1, kis, kk, r1, g1⟩ := J'.hok kS _ e1
        have sk := Heap.SameBut.update s2.heap kS (Obj.mapSeq (·.push u))
        obtain ⟨c2, hc2⟩ : ∃ c2, (s2.heap.update kS (Obj.mapSeq (·.push u))).get? kS = some (seqObj "list" (kis.toArray.push u) c2) := ⟨_, get?_update_seq g1 (·.push u)⟩
        refine ⟨kis.toArray, kk, g1, by rw [List.size_toArray, ← r1.length]; exact e3, W2, _, J'.write (x := kS) (e := kS) (o := .lst (acc ++ [y])) (t' := s2.toks) (by rw [e1]; trivial) (.inl rfl) (fun b2 u2 hb2 q2 => (sk.2 b2 hb2).trans q2) ⟨_, hc2⟩ ⟨by rw [List.length_append, List.length_singleton]; omega, kis ++ [u], c2, r1.append (.cons ry .nil), by rw [hc2]; simp⟩, ?_⟩
        rw [List.take_add_one, hb']
        simpa using m3
    · rintro s' ⟨W', H', J, mm⟩
      rw [lits, List.take_length] at mm
      obtain ⟨ks, e1, dk⟩ := mm.h
      obtain ⟨z1, kis, kk, r1, g1⟩ := J.hok kS _ e1
      have ap := (J.pin (h1.objs.size, seqObj "list" #[] c1) (List.mem_append_right _ (List.mem_append_right _ (List.mem_singleton.mpr rfl)))).1
      have np : H' h1.objs.size = none := (J.pin (h1.objs.size, seqObj "list" #[] c1) (List.mem_append_right _ (List.mem_append_right _ (List.mem_singleton.mpr rfl)))).2.1
      have lk : kis.length = bs.length := by rw [← r1.length, ← dk.length, List.length_map]
      have er : EachIs (fun v b => ∃ as, Reads s'.heap v (enc b) as) kis bs := (each_mem (each_of (f := kD) dk r1)).mono fun v b ⟨⟨x, r, d⟩, hb⟩ => Dp.reads J (enc b) x v ((hp b hb).dp mm.ok d) r
      have hk' : EachIs (fun v d => ∃ as, Reads s'.heap v d as) kis (bs.map enc) := each_map (R := fun v d => ∃ as, Reads s'.heap v d as) enc er
      refine ⟨kis.toArray, kk, dataKind s'.heap (bs.map enc), g1, ap, hka, SortsAt.data hk' hal hk fun d hd => ?_, by rw [List.size_toArray, lk, lits], by rw [lits]; exact hN, fun tk => ⟨rfl, ?_⟩⟩
      · obtain ⟨b, hb2, rfl⟩ := List.mem_map.mp hd
        have := hdp b hb2
        have := ri.un
        omega
      · have ko : KeyedOut false (bs.map enc) its (sortVals (dataKind s'.heap (bs.map enc)) false kis its) := ⟨s'.heap, kis, hal, rfl, hk'⟩
        have eo := keyedOut_each enc ko ea
        generalize ho' : sortVals (dataKind s'.heap (bs.map enc)) false kis its = out at eo
        obtain ⟨ys, y1, y2⟩ := of_each (f := f) eo
        have hlen : ys.length ≤ sizeLine := by
          have := y2.length
          rw [List.length_map, List.length_mergeSort] at this
          rw [← this]
          exact hN
        have s1 := Heap.SameBut.update s'.heap kS (Obj.mapSeq fun _ => (#[] : Array Value))
        obtain ⟨c3, hc3⟩ : ∃ c3, (s'.heap.update kS (Obj.mapSeq fun _ => (#[] : Array Value))).get? kS = some (seqObj "list" #[] c3) := ⟨_, get?_update_seq g1 fun _ => #[]⟩
        have J4 : Inv X pins σ (upd H' kS (.lst [])) { s' with heap := s'.heap.update kS (Obj.mapSeq fun _ => (#[] : Array Value)), toks := tk } := J.unpinned.write (x := kS) (e := kS) (t' := tk) (by rw [e1]; trivial) (.inl rfl) (fun b2 u2 hb2 q2 => (s1.2 b2 hb2).trans q2) ⟨_, hc3⟩ ⟨by decide, [], c3, .nil, hc3⟩
        have np4 : upd H' kS (.lst []) h1.objs.size = none := by rw [upd_ne (Ne.symm hka)]; exact np
        have na1 : (s'.heap.update kS (Obj.mapSeq fun _ => (#[] : Array Value))).get? h1.objs.size = some (seqObj "list" #[] c1) := (s1.2 _ (Ne.symm hka)).trans ap
        have s2 := Heap.SameBut.update (s'.heap.update kS (Obj.mapSeq fun _ => (#[] : Array Value))) h1.objs.size (Obj.mapSeq fun _ => out.toArray)
        obtain ⟨c4, hc4⟩ : ∃ c4, (SRT.endHeap s'.heap kS h1.objs.size out).get? h1.objs.size = some (seqObj "list" out.toArray c4) := ⟨_, get?_update_seq na1 fun _ => out.toArray⟩
        have hz0 : X.s_0.heap.objs.size ≤ h1.objs.size := I1.sz
        have J5 : Inv X pins σ (upd H' kS (.lst [])) { s' with heap := SRT.endHeap s'.heap kS h1.objs.size out, toks := tk } := L2.Inv.turned (s := { s' with heap := s'.heap.update kS (Obj.mapSeq fun _ => (#[] : Array Value)), toks := tk }) J4 (t' := tk) (it := h1.objs.size) (h' := SRT.endHeap s'.heap kS h1.objs.size out) (fun b2 o2 hb2 q2 => (s2.2 b2 hb2).trans q2) np4 nL (.inr hz0) nC lp
        have J6 := Inv.track (p := h1.objs.size) (o := .lst ys) J5 np4 ⟨hlen, out, c4, y1, hc4⟩ hz0 nL nC lp
        have st := mm.st
        have ok6 : Ok (gOf X) W' (upd H' kS (.lst [])) := {
          gd := fun b hb => by
            obtain ⟨n1, n2, n3⟩ := mm.ok.gd b hb
            refine ⟨n1, ?_⟩
            by_cases q : b = kS
            · subst q
              rw [upd_same]
              exact ⟨(fun z => by cases z), (fun _ z => by cases z)⟩
            · rw [upd_ne q]
              exact ⟨n2, n3⟩
          ex := fun b o hb => by
            rw [upd_ne (fun y => by rw [y, mm.i] at hb; cases hb)]
            exact mm.ok.ex b o hb
          pot := fun b hb => by
            obtain ⟨nb, y2, w2, h2⟩ := mm.ok.pot b hb
            have ne : b ≠ kS := fun y => mm.n (y ▸ hb)
            exact ⟨nb, y2, w2, by rw [upd_ne ne]; exact h2⟩ }
        have st6 : Stp W H W' (upd H' kS (.lst [])) := ⟨mm.st.I, mm.st.P, fun b o hb hn => by rw [upd_ne (ne_of_none hb frk)]; exact mm.st.keep b o hb hn, mm.st.old, mm.st.oldP⟩
        have st7 := Stp.new (o := .lst ys) ok6 np4
        refine ⟨.ref h1.objs.size, _, J6, rfl, c _ _ _ _ (st6.trans ok6 st7) (ok6.new np4) (.lst (show upd W'.I _ _ _ = _ from upd_same) ((y2.mono st6.I).mono st7.I)) q⟩
  rcases sd with rfl | rfl
  · cases m with
    | @lst _ a xs hp' dn =>
      obtain ⟨its, r1, ⟨o, n, g1, g2, _, g3⟩, _⟩ := I.list (SqL.of (ok.ex _ _ hp'))
      exact key a xs its "list" o n (.inl rfl) g1 g2 g3 r1 dn rfl
  · cases m with
    | @tup _ a xs hp' dn =>
      obtain ⟨its, r1, ⟨o, g1, g2, n, g3⟩, _⟩ := I.tuple (SqT.of (ok.ex _ _ hp'))
      exact key a xs its "tuple" o n (.inr rfl) g1 g2 g3 r1 dn rfl
theorem ed_imp {Q Q' : D → Prop} {e : Expr} (h : ED X B S e Q) (k : ∀ d, Q d → Q' d) : ED X B S e Q' := fun σ W H r R c => h σ W H r R fun d v W' H' st ok n q => c d v W' H' st ok n (k d q)
/-- sorted(e, key=f), the expression -/
theorem ed_sortKey {fn : Str} {k : Nat} {sp : SpD} {e : Expr} {p pos p2 kpos : Pos} (F : Df X.prog X.w X.K X.mg X.base fn k 1 sp) (hm : X.mg "sorted" = none) (hr : Room (k + 2) X.A) (hG : X.A.guards = some (gOf X))
    (h : ED X B S e fun d => ∃ (α : Type) (f kD : α → D) (enc : α → PyData) (bs : List α), SeqD d (bs.map f) ∧ (∀ b ∈ bs, sp [.val (f b)] fun d => d = kD b) ∧ (∀ b ∈ bs, PyD (kD b) (enc b)) ∧ AllAlike (bs.map enc) ∧ Sortable (bs.map enc) ∧ (∀ b ∈ bs, (enc b).depth ≤ 4) ∧ bs.length ≤ 50000 ∧ Q (.lst ((bs.mergeSort (dataLe false enc)).map f)))
    (hg : Gl X "sorted" := by rfl) (hgf : Gl X fn := by rfl) (hv : bootBuiltins "sorted" = some (.builtin "sorted") := by first | rfl | decide +kernel) (hdf : (fn == ("__debug__" : Str)) = false := by decide) (hst : starEach [e] X.env = (false, eval e X.env) :: starEach [] X.env := by rfl)
    (hps : ∀ {r : List V → List V → Hp → VK → Prop} {t tk : TA}, X.mg "sorted" = none → CallRK X (.builtin "sorted") [Str.ofString "key"] r → PA X [e] t → PK X [⟨some "key", .Name fn p2, kpos⟩] tk → PE X (.Call (.Name "sorted" p) [e] [⟨some "key", .Name fn p2, kpos⟩] pos) (tCKw r t tk) := by exact fun hm hc ha hk => pe_callBK hc rfl hm (by first | rfl | decide +kernel) ha hk) : ED X B S (.Call (.Name "sorted" p) [e] [⟨some "key", .Name fn p2, kpos⟩] pos) Q := fun σ W H r R c => by
  obtain ⟨fa, fd, ps, FG, hmf, hkp, hb, hpl⟩ := F.ex
  refine PE.w (hps (r := fun vs zs H1 R1 => ∀ pins s σ us ws, Inv X pins σ H1 s → Vals vs us → Vals zs ws → wpAny (model X.prog X.w) X.A (call (.builtin "sorted") us ([Str.ofString "key"].zip ws)) (EP X pins σ R1) X.xe s) hm (fun pins s σ H xs zs us ws Q I r1 r2 h => h pins s σ us ws I r1 r2) wa_pa wk_pk) ?_
  refine (ad_cons (ed_imp h fun d q => ad_nil ⟨d, rfl, q⟩) hst : AD X B S [e] fun as => ∃ d, as = [.val d] ∧ ∃ (α : Type) (f kD : α → D) (enc : α → PyData) (bs : List α), SeqD d (bs.map f) ∧ (∀ b ∈ bs, sp [.val (f b)] fun d => d = kD b) ∧ (∀ b ∈ bs, PyD (kD b) (enc b)) ∧ AllAlike (bs.map enc) ∧ Sortable (bs.map enc) ∧ (∀ b ∈ bs, (enc b).depth ≤ 4) ∧ bs.length ≤ 50000 ∧ Q (.lst ((bs.mergeSort (dataLe false enc)).map f))) σ W H r _ fun as vs W1 H1 s1 ok1 n1 q1 => ?_
  obtain ⟨d, rfl, α, f, kD, enc, bs, sd, h1, h2, h3, h4, h5, h6, q⟩ := q1
  refine (kd_cons (ed_cls hmf (kd_nil rfl) hgf hdf) : KD X B S [⟨some "key", .Name fn p2, kpos⟩] fun ks => ks = [.val (.cls fa)]) σ W1 H1 (r.step s1 ok1) _ fun ks zs W2 H2 s2 ok2 n2 q2 => ?_
  subst q2
  exact fun pins s σ us ws I rv rz => cd_sortKey F hmf hr hG sd h1 h2 h3 h4 h5 h6 q ok2 (n1.step s2) n2 ((c.step s1 ok1).step s2 ok2) I rv rz
end
end DL

set_option Elab.async false
set_option linter.all false
set_option maxRecDepth 100000
set_option maxHeartbeats 2000000
/-! tuples and lists of ints: added, cut, looked into; comprehensions with a test, of two fors; enumerate of a tuple -/
namespace DL
open PySem PySem.Spec PyProof.Rows L2
section
variable {X : Cx} {B : Hp} {W0 : Wd} {S : En} {pos px p1 p p2 : Pos} {Q : D → Prop} {a b c e : Expr} {E : Ends'} {x : Str}
/-! ### + of tuples -/
theorem od_catT {l m : List D} (hl : l.length + m.length ≤ 100000) (q : Q (.tup (l ++ m))) : OD X (binaryOp .Add) (.tup l) (.tup m) Q := by
  refine od_of op_catA fun v u W H ok h1 h2 R c => ?_
  cases h1 with
  | @tup _ a1 xs e1 d1 => cases h2 with
    | @tup _ a2 ys e2 d2 =>
      refine ⟨_, _, _, _, rfl, rfl, SqT.of (ok.ex _ _ e1), SqT.of (ok.ex _ _ e2), Nat.le_trans (by rw [← d1.length, ← d2.length]; exact hl) (by decide), fun z => ?_, fun _ z => ?_, fun _ _ p hp => ?_⟩
      · subst z
        cases d1
        exact c.now ok (.tup e2 d2) q
      · subst z
        cases d2
        rw [List.append_nil] at q
        exact c.now ok (.tup e1 d1) q
      · have st := Stp.new (o := .tup (xs ++ ys)) ok hp
        exact c (.tup (l ++ m)) (.ref p) _ _ st (ok.new hp) (.tup (show upd W.I p _ p = _ from upd_same) ((d1.append d2).mono st.I)) q
/-- a tuple's items from j on, j whatever it is -/
theorem ed_slFrA (h : ED X B S e fun d => ED X B S b fun y => ∃ l, ∃ j : Nat, d = .tup l ∧ y = .int (j : Int) ∧ Q (.tup (l.drop j))) : ED X B S (.Subscript e (.Slice (some b) none none p2) pos) Q := fun σ W H r R k => by
  refine PE.w (pe_slice L2.sl_tupA we_pe (po_some we_pe) po_none) ?_
  refine h σ W H r _ fun d v W1 H1 s1 ok1 n1 q1 => ?_
  show WE X b σ H1 _
  refine q1 σ W1 H1 (r.step s1 ok1) _ fun d2 u W2 H2 s2 ok2 n2 q2 => ?_
  obtain ⟨l, j, rfl, rfl, q2⟩ := q2
  cases n2
  have k2 := (k.step s1 ok1).step s2 ok2
  cases n1.mono s2.I with
  | @tup _ a xs ha m =>
    have lm := m.length
    refine ⟨_, rfl, a, xs, rfl, SqT.of (ok2.ex _ _ ha), fun hw => ?_, fun _ p hp => ?_⟩
    · rw [HT.sIx_nat, HT.sIx_none] at hw
      rcases Nat.eq_zero_or_pos j with z | z
      · subst z
        rw [List.drop_zero] at q2
        exact k2.now ok2 (.tup ha m) q2
      · have lz : l = [] := List.eq_nil_of_length_eq_zero (by have := hw.1; omega)
        subst lz
        rw [List.drop_nil] at q2
        exact k2.now ok2 (.tup ha m) q2
    · have e : cutV xs (some (j : Int)) none = xs.drop j := by
        unfold cutV
        rw [HT.sIx_nat, HT.sIx_none]
        rcases Nat.le_total j xs.length with z | z
        · rw [Nat.min_eq_left z]
          exact List.take_of_length_le (by rw [List.length_drop]; omega)
        · rw [Nat.min_eq_right z, List.drop_eq_nil_of_le (Nat.le_refl _), List.drop_eq_nil_of_le z, List.take_nil]
      rw [e]
      have st := Stp.new (o := .tup (xs.drop j)) ok2 hp
      exact k2 (.tup (l.drop j)) (.ref p) _ _ st (ok2.new hp) (.tup (show upd W2.I p _ p = _ from upd_same) ((dns_drop j m).mono st.I)) q2
/-! ### slices of lists -/
theorem ed_slLF (h : ED X B S e fun d => ED X B S b fun y => ∃ l, ∃ j : Nat, d = .lst l ∧ y = .int (j : Int) ∧ l.length ≤ 100000 ∧ Q (.lst (l.drop j))) : ED X B S (.Subscript e (.Slice (some b) none none p2) pos) Q := fun σ W H r R k => by
  refine PE.w (pe_slice L2.sl_list we_pe (po_some we_pe) po_none) ?_
  refine h σ W H r _ fun d v W1 H1 s1 ok1 n1 q1 => ?_
  show WE X b σ H1 _
  refine q1 σ W1 H1 (r.step s1 ok1) _ fun d2 u W2 H2 s2 ok2 n2 q2 => ?_
  obtain ⟨l, j, rfl, rfl, hj, q2⟩ := q2
  cases n2
  have k2 := (k.step s1 ok1).step s2 ok2
  cases n1.mono s2.I with
  | @lst _ a xs ha m =>
    refine ⟨_, rfl, a, xs, rfl, SqL.of (ok2.ex _ _ ha), fun p hp => ?_⟩
    have e : cutV xs (some (j : Int)) none = xs.drop j := by
      unfold cutV
      rw [HT.sIx_nat, HT.sIx_none]
      rcases Nat.le_total j xs.length with z | z
      · rw [Nat.min_eq_left z]
        exact List.take_of_length_le (by rw [List.length_drop]; omega)
      · rw [Nat.min_eq_right z, List.drop_eq_nil_of_le (Nat.le_refl _), List.drop_eq_nil_of_le z, List.take_nil]
    rw [e]
    have st := Stp.new (o := .lst (xs.drop j)) ok2 hp
    exact k2 (.lst (l.drop j)) (.ref p) _ _ st (ok2.new hp) (.lst (show upd W2.I p _ p = _ from upd_same) ((dns_drop j m).mono st.I)) q2
theorem ed_slLT (h : ED X B S e fun d => ED X B S b fun y => ∃ l, ∃ j : Int, d = .lst l ∧ y = .int j ∧ ((∃ k : Nat, j = (k : Int) ∧ Q (.lst (l.take k))) ∨ (j = -1 ∧ Q (.lst l.dropLast)))) : ED X B S (.Subscript e (.Slice none (some b) none p2) pos) Q := fun σ W H r R k => by
  refine PE.w (pe_slice L2.sl_list we_pe po_none (po_some we_pe)) ?_
  refine h σ W H r _ fun d v W1 H1 s1 ok1 n1 q1 => ?_
  show WE X b σ H1 _
  refine q1 σ W1 H1 (r.step s1 ok1) _ fun d2 u W2 H2 s2 ok2 n2 q2 => ?_
  obtain ⟨l, j, rfl, rfl, q2⟩ := q2
  cases n2
  have k2 := (k.step s1 ok1).step s2 ok2
  cases n1.mono s2.I with
  | @lst _ a xs ha m =>
    refine ⟨_, rfl, a, xs, rfl, SqL.of (ok2.ex _ _ ha), fun p hp => ?_⟩
    rcases q2 with ⟨i, rfl, q2⟩ | ⟨rfl, q2⟩
    · have e : cutV xs none (some (i : Int)) = xs.take i := by
        unfold cutV
        rw [HT.sIx_nat, HT.sIx_none, List.drop_zero, Nat.sub_zero]
        rcases Nat.le_total i xs.length with z | z
        · rw [Nat.min_eq_left z]
        · rw [Nat.min_eq_right z, List.take_of_length_le (Nat.le_refl _), List.take_of_length_le z]
      rw [e]
      have st := Stp.new (o := .lst (xs.take i)) ok2 hp
      exact k2 (.lst (l.take i)) (.ref p) _ _ st (ok2.new hp) (.lst (show upd W2.I p _ p = _ from upd_same) ((dns_take i m).mono st.I)) q2
    · have e : cutV xs none (some (-1)) = xs.take (xs.length - 1) := by
        unfold cutV
        rw [HT.sIx_none, List.drop_zero, Nat.sub_zero]
        have : HT.sIx xs.length xs.length (some (-1)) = xs.length - 1 := by
          show (if (-1 : Int) < 0 then ((-1 : Int) + (xs.length : Int)).toNat else min (-1 : Int).toNat xs.length) = _
          rw [if_pos (by decide)]
          omega
        rw [this]
      rw [e]
      have st := Stp.new (o := .lst (xs.take (xs.length - 1))) ok2 hp
      have ml : l.dropLast = l.take (xs.length - 1) := by rw [List.dropLast_eq_take, m.length]
      rw [ml] at q2
      exact k2 (.lst (l.take (xs.length - 1))) (.ref p) _ _ st (ok2.new hp) (.lst (show upd W2.I p _ p = _ from upd_same) ((dns_take (xs.length - 1) m).mono st.I)) q2
/-! ### in -/
theorem inV_ints {i : Int} : ∀ l : List Int, inV (.int i) (l.map V.int) = decide (i ∈ l)
  | [] => by simp [inV]
  | j :: l => by
    have := inV_ints (i := i) l
    unfold inV at this ⊢
    rw [List.map_cons, List.any_cons, this]
    by_cases h : j = i
    · subst h; simp [eqV]
    · have h' : ¬ i = j := fun z => h z.symm
      simp [eqV, h, h']
theorem od_ninI {i : Int} {l : List Int} {d : D} (sd : SeqD d (l.map D.int)) (q : Q (.bl (!decide (i ∈ l)))) : OD X (compareOp .NotIn) (.int i) d Q := od_of op_notIn_seq fun v u W H ok h1 h2 R c => by
  cases h1
  have hf : (l.map V.int).all flatV = true := by rw [List.all_map, List.all_eq_true]; intros; rfl
  rcases sd with rfl | rfl
  · cases h2 with
    | lst h m =>
      rw [m.ints] at h
      exact ⟨_, _, rfl, .inl (SqL.of (ok.ex _ _ h)), rfl, hf, by rw [inV_ints]; exact c.now ok (.bl _) q⟩
  · cases h2 with
    | tup h m =>
      rw [m.ints] at h
      exact ⟨_, _, rfl, .inr (SqT.of (ok.ex _ _ h)), rfl, hf, by rw [inV_ints]; exact c.now ok (.bl _) q⟩
abbrev pI (l : List Int) : PyData := .tuple (l.map .int)
theorem pyd_ints : ∀ l : List Int, PyDs (l.map D.int) (l.map .int)
  | [] => .nil
  | i :: l => .cons (.int i) (pyd_ints l)
theorem pyd_tI (l : List Int) : PyD (tI l) (pI l) := .tup (pyd_ints l)
theorem pyd_tIs : ∀ ls : List (List Int), PyDs (ls.map tI) (ls.map pI)
  | [] => .nil
  | l :: ls => .cons (pyd_tI l) (pyd_tIs ls)
theorem eqvA_ints : ∀ a b : List Int, PyData.eqvAll (a.map .int) (b.map .int) = decide (a = b)
  | [], [] => by simp [PyData.eqvAll]
  | [], _ :: _ => by simp [PyData.eqvAll]
  | _ :: _, [] => by simp [PyData.eqvAll]
  | x :: a, y :: b => by
    have := eqvA_ints a b
    simp only [List.map_cons, PyData.eqvAll, PyData.eqv, this]
    by_cases h : x = y <;> simp [h]
theorem eqv_pI (a b : List Int) : PyData.eqv (pI a) (pI b) = decide (a = b) := by
  show PyData.eqvAll _ _ = _
  exact eqvA_ints a b
theorem any_pI (l : List Int) : ∀ ls : List (List Int), ((ls.map pI).any fun z => PyData.eqv z (pI l)) = decide (l ∈ ls)
  | [] => by simp
  | m :: ls => by
    rw [List.map_cons, List.any_cons, any_pI l ls, eqv_pI]
    by_cases h : m = l
    · subst h; simp
    · have h' : ¬ l = m := fun z => h z.symm
      simp [h, h']
theorem can_ints : ∀ l : List Int, PyData.canLayAll0 (l.map .int) = true
  | [] => rfl
  | i :: l => by
    rw [List.map_cons, PyData.canLayAll0, can_ints l]
    rfl
theorem can_pIs : ∀ ls : List (List Int), PyData.canLayAll0 (ls.map pI) = true
  | [] => rfl
  | l :: ls => by
    rw [List.map_cons, PyData.canLayAll0, can_pIs ls, Bool.and_true]
    exact can_ints l
theorem dep_pIs : ∀ ls : List (List Int), PyData.depthAll (ls.map pI) ≤ 1
  | [] => Nat.zero_le _
  | l :: ls => by
    rw [List.map_cons, PyData.depthAll]
    have := dep_pIs ls
    have h : (pI l).depth = 1 := by
      show PyData.depthAll _ + 1 = 1
      rw [PySem.W.depth_ints]
    omega
theorem shaped_pI (l : List Int) : SeqAt.shaped (pI l) = true := by
  unfold SeqAt.shaped
  rw [Bool.and_eq_true, decide_eq_true_eq]
  refine ⟨can_ints l, ?_⟩
  show PyData.depthAll _ + 1 ≤ 64
  rw [PySem.W.depth_ints]
  decide
theorem shaped_pIs (ls : List (List Int)) : SeqAt.shaped (.list (ls.map pI)) = true := by
  unfold SeqAt.shaped
  rw [Bool.and_eq_true, decide_eq_true_eq]
  refine ⟨can_pIs ls, ?_⟩
  show PyData.depthAll _ + 1 ≤ 64
  have := dep_pIs ls
  omega
/-- a tuple of ints in a list of such -/
theorem od_inT {l : List Int} {ls : List (List Int)} (hu : X.A.units + 65 < cLine) (q : Q (.bl (decide (l ∈ ls)))) : OD X (compareOp .In) (tI l) (.lst (ls.map tI)) Q := od_of (op_inD hu) fun v u W H ok h1 h2 R c =>
  ⟨pI l, ls.map pI, (pyd_tI l).dp ok h1, (PyD.lst (pyd_tIs ls)).dp ok h2, shaped_pI l, shaped_pIs ls, by rw [any_pI]; exact c.now ok (.bl _) q⟩
theorem od_ninT {l : List Int} {ls : List (List Int)} (hu : X.A.units + 65 < cLine) (q : Q (.bl (!decide (l ∈ ls)))) : OD X (compareOp .NotIn) (tI l) (.lst (ls.map tI)) Q := od_of (op_notInD hu) fun v u W H ok h1 h2 R c =>
  ⟨pI l, ls.map pI, (pyd_tI l).dp ok h1, (PyD.lst (pyd_tIs ls)).dp ok h2, shaped_pI l, shaped_pIs ls, by rw [any_pI]; exact c.now ok (.bl _) q⟩
end
end DL

set_option Elab.async false
set_option linter.all false
set_option maxRecDepth 100000
set_option maxHeartbeats 2000000
/-! comprehensions told by functions: what each item becomes, which are kept -/
namespace DL
open PySem PySem.Spec PyProof.Rows L2
theorem take1 {α β : Type} (u : α → β) {l : List α} {i : Nat} {a : α} (h : l[i]? = some a) : (l.take (i + 1)).map u = (l.take i).map u ++ [u a] := by
  rw [List.take_add_one, h]
  simp
theorem take1f {α β : Type} (t : α → Bool) (u : α → β) {l : List α} {i : Nat} {a : α} (h : l[i]? = some a) : ((l.take (i + 1)).filter t).map u = ((l.take i).filter t).map u ++ if t a = true then [u a] else [] := by
  rw [List.take_add_one, h]
  cases c : t a with
  | true => simp [List.filter_append, c]
  | false => simp [List.filter_append, c]
section
variable {X : Cx} {B : Hp} {W0 : Wd} {S : En} {pos : Pos} {e elt iter c : Expr} {x : Str} {px : Pos} {scope : Scope} {own : List (Str × Nat)} {d0 : D} {Q : List D → Prop} {E : Ends'} {α : Type} {f u : α → D} {t : α → Bool} {l : List α}
/-- [elt for x in a list or a tuple] -/
theorem fd_mp (j : Nat) (hc : X.calm = true) (hN : X.N.Nodup) (ok : BlkOk X.N X.env.scope scope own) (hg : AllBlk X scope fun Y => PG Y (.Name x px) (gName j)) (hj : j ∈ own.map (·.2)) (hl : l.length ≤ 50000) (sd : SeqD d0 (l.map f)) (hit : ED X B S iter fun d => d = d0)
    (he : ∀ a ∈ l, AllBlk X scope fun Y => ED Y B (itE S own j (f a)) elt fun y => y = u a) (q : Q (l.map u)) (hs : ∀ x, foldedSetIterable iter X.env x = pure x := by intro _; rfl) : FD X B S (.ListComp elt [⟨.Name x px, iter, [], 0⟩] scope pos) Q := by
  have step : ∀ (i : Nat) d acc, (l.map f)[i]? = some d → acc.length = i → acc = (l.take i).map u → AllBlk X scope fun Y => ED Y B (itE S own j d) elt fun y => acc ++ [y] = (l.take (i + 1)).map u := by
    intro i d acc hi _ ha s H0 C cl fp
    rw [List.getElem?_map] at hi
    obtain ⟨a, h1, rfl⟩ := Option.map_eq_some_iff.mp hi
    refine ed_imp (he a (List.mem_of_getElem? h1) s H0 C cl fp) fun y ey => ?_
    rw [take1 u h1, ha, ey]
  have fin : ∀ acc : List D, acc.length = (l.map f).length → acc = (l.take (l.map f).length).map u → Q acc := by
    intro acc _ e
    rw [List.length_map, List.take_length] at e
    rw [e]
    exact q
  have hl' : (l.map f).length ≤ 50000 := by rw [List.length_map]; exact hl
  rcases sd with rfl | rfl
  · exact fd_lcL (fun i acc => acc = (l.take i).map u) (fun d => itE S own j d) hc hN ok hg (ed_imp hit fun d e => ⟨e, hl', rfl⟩) (fun d _ => pat_name j hj) step fin hs
  · exact fd_lcT (fun i acc => acc = (l.take i).map u) (fun d => itE S own j d) hc hN ok hg (ed_imp hit fun d e => ⟨e, hl', rfl⟩) (fun d _ => pat_name j hj) step fin hs
/-- [elt for x in a list or a tuple if c] -/
theorem fd_ft (j : Nat) (hc : X.calm = true) (hN : X.N.Nodup) (ok : BlkOk X.N X.env.scope scope own) (hg : AllBlk X scope fun Y => PG Y (.Name x px) (gName j)) (hj : j ∈ own.map (·.2)) (hl : l.length ≤ 50000) (sd : SeqD d0 (l.map f)) (hit : ED X B S iter fun d => d = d0)
    (ht : ∀ a ∈ l, AllBlk X scope fun Y => TD Y B (itE S own j (f a)) c fun b => b = t a) (he : ∀ a ∈ l, t a = true → AllBlk X scope fun Y => ED Y B (itE S own j (f a)) elt fun y => y = u a) (q : Q ((l.filter t).map u)) (hs : ∀ x, foldedSetIterable iter X.env x = pure x := by intro _; rfl) : FD X B S (.ListComp elt [⟨.Name x px, iter, [c], 0⟩] scope pos) Q := by
  have step : ∀ (i : Nat) d acc, (l.map f)[i]? = some d → acc.length ≤ i → acc = ((l.take i).filter t).map u → AllBlk X scope fun Y => TD Y B (itE S own j d) c fun b => if b = true then AllBlk X scope fun Y => ED Y B (itE S own j d) elt fun y => acc ++ [y] = ((l.take (i + 1)).filter t).map u else acc = ((l.take (i + 1)).filter t).map u := by
    intro i d acc hi _ ha s H0 C cl fp σ W H r R k
    rw [List.getElem?_map] at hi
    obtain ⟨a, h1, rfl⟩ := Option.map_eq_some_iff.mp hi
    have am := List.mem_of_getElem? h1
    refine ht a am s H0 C cl fp σ W H r R fun b W' H' st ok' eb => k b W' H' st ok' ?_
    subst eb
    rw [take1f t u h1]
    cases ta : t a with
    | true =>
      refine iteT ?_
      intro s H0 C cl fp
      refine ed_imp (he a am ta s H0 C cl fp) fun y ey => ?_
      rw [ha, ey, if_pos rfl]
    | false =>
      refine iteF ?_
      rw [ha, if_neg (by decide), List.append_nil]
  have fin : ∀ acc : List D, acc.length ≤ (l.map f).length → acc = ((l.take (l.map f).length).filter t).map u → Q acc := by
    intro acc _ e
    rw [List.length_map, List.take_length] at e
    rw [e]
    exact q
  have hl' : (l.map f).length ≤ 50000 := by rw [List.length_map]; exact hl
  rcases sd with rfl | rfl
  · exact fd_lcLI (fun i acc => acc = ((l.take i).filter t).map u) (fun d => itE S own j d) hc hN ok hg (ed_imp hit fun d e => ⟨e, hl', rfl⟩) (fun d _ => pat_name j hj) step fin hs
  · exact fd_lcTI (fun i acc => acc = ((l.take i).filter t).map u) (fun d => itE S own j d) hc hN ok hg (ed_imp hit fun d e => ⟨e, hl', rfl⟩) (fun d _ => pat_name j hj) step fin hs
/-- [elt for x in range(n) if c] -/
theorem fd_ftR {p1 pos1 : Pos} {n : Nat} {u : Nat → D} {t : Nat → Bool} (j : Nat) (hc : X.calm = true) (hN : X.N.Nodup) (hm : X.mg "range" = none) (ok : BlkOk X.N X.env.scope scope own) (hg : AllBlk X scope fun Y => PG Y (.Name x px) (gName j)) (hj : j ∈ own.map (·.2)) (hn : n ≤ 50000) (h : AD X B S [e] fun as => as = [.val (.int (n : Int))])
    (ht : ∀ i, i < n → AllBlk X scope fun Y => TD Y B (itE S own j (.int (i : Int))) c fun b => b = t i) (he : ∀ i, i < n → t i = true → AllBlk X scope fun Y => ED Y B (itE S own j (.int (i : Int))) elt fun y => y = u i) (q : Q (((List.range n).filter t).map u)) (hgl : Gl X "range" := by rfl) (hst : starEach [e] X.env = [(false, eval e X.env)] := by rfl)
    (hs : ∀ x, foldedSetIterable (.Call (.Name "range" p1) [e] [] pos1) X.env x = pure x := by intro _; rfl) : FD X B S (.ListComp elt [⟨.Name x px, .Call (.Name "range" p1) [e] [] pos1, [c], 0⟩] scope pos) Q := fun σ W H r R k => by
  refine PE.w (pe_lc (te := WEb X scope elt) (tt := WTb X scope c) hc hN (pi_range1 hgl hm wa_pa hst) ok hg (fun s H C cl fp => pts_one (wtb_pt s H C cl fp)) web_pe hs) ?_
  refine h σ W H r _ fun as vs W1 H1 s1 ok1 n1 q1 => ?_
  subst q1
  obtain ⟨v, rfl, m⟩ := one_arg n1
  cases m
  refine ⟨(n : Int), rfl, by omega, by omega, fun p hp0 => ?_⟩
  have r1 := r.step s1 ok1
  refine lc_range (lo := 0) (n := (n : Int).toNat) (fun i H' => ∃ acc W', Mid X.K (gOf X) W1 H1 p acc W' H' ∧ acc.length ≤ i ∧ acc = ((List.range i).filter t).map u) ⟨[], W1, ⟨Stp.own hp0, ok1.own hp0, ok1.notP hp0, ok1.free hp0, [], upd_same, .nil⟩, Nat.le_refl _, rfl⟩ ?_ ?_
  · rintro i H' hi ⟨acc, W', mm, hl2, ha⟩
    rw [Int.zero_add]
    have hi' : i < n := by omega
    have r2 := r1.step mm.st mm.ok
    refine pat_name j hj (gOf X) B σ W' H' (.int (i : Int)) r2 (.int _) _ fun σ2 e2 r3 => ⟨e2, ?_⟩
    show WTb X scope c σ2 H' _
    intro s H0 C cl fp
    refine ht i hi' s H0 C cl fp σ2 W' H' r3 _ fun b W2 H2 s2 ok2 q2 => ?_
    subst q2
    have er : ((List.range (i + 1)).filter t).map u = acc ++ if t i = true then [u i] else [] := by
      rw [List.range_succ, List.filter_append, List.map_append, ha]
      cases c : t i <;> simp [c]
    cases ta : t i with
    | false => exact iteF ⟨acc, W2, mm.step s2 ok2, Nat.le_succ_of_le hl2, by rw [er, ta]; simp⟩
    | true =>
      refine iteT ?_
      show WEb X scope elt σ2 H2 _
      intro s H0 C cl fp
      refine he i hi' ta s H0 C cl fp σ2 W2 H2 (r3.step s2 ok2) _ fun y v W3 H3 s3 ok3 n3 q3 => ?_
      obtain ⟨xs', e1, e3, m3⟩ := ((mm.step s2 ok2).step s3 ok3).more hp0 n3 (by omega)
      exact ⟨xs', e1, e3, _, W3, m3, by simp only [List.length_append, List.length_singleton]; omega, by rw [er, ta, if_pos rfl, q3]⟩
  · rintro H' ⟨acc, W', mm, hl2, ha⟩
    obtain ⟨ys, hH, ds⟩ := mm.h
    rw [Int.toNat_natCast] at ha
    exact k acc p ys W' H' (s1.trans ok1 mm.st) mm.ok (s1.free ok1 hp0) mm.n mm.i hH ds (by rw [ha]; exact q)
/-- [elt for x in a list or a tuple for y in a tuple of it] -/
theorem fd_mp2 {β : Type} {y : Str} {py : Pos} {iter1 : Expr} {m : α → List β} {g : β → D} {u : α → β → D} (i j : Nat) (hc : X.calm = true) (hN : X.N.Nodup) (ok : BlkOk X.N X.env.scope scope own) (hg : AllBlk X scope fun Y => PG Y (.Name x px) (gName i)) (hg1 : AllBlk X scope fun Y => PG Y (.Name y py) (gName j)) (hi : i ∈ own.map (·.2)) (hj : j ∈ own.map (·.2)) (hl : l.length ≤ 200) (hm : ∀ a ∈ l, (m a).length ≤ 200) (sd : SeqD d0 (l.map f)) (hit : ED X B S iter fun d => d = d0)
    (hit1 : ∀ a ∈ l, AllBlk X scope fun Y => ED Y B (itE S own i (f a)) iter1 fun d => d = .tup ((m a).map g)) (he : ∀ a ∈ l, ∀ b ∈ m a, AllBlk X scope fun Y => ED Y B ((wipeE (itE S own i (f a)) [j]).set j (some (.val (g b)))) elt fun y => y = u a b)
    (hpl : ∀ a ∈ l, PlainE (itE S own i (f a)) = true) (q : Q (l.flatMap fun a => (m a).map (u a))) (hs : ∀ x, foldedSetIterable iter X.env x = pure x := by intro _; rfl) (hs1 : ∀ env x, foldedSetIterable iter1 env x = pure x := by intro _ _; rfl) :
    FD X B S (.ListComp elt [⟨.Name x px, iter, [], 0⟩, ⟨.Name y py, iter1, [], 0⟩] scope pos) Q := fun σ W H r R k => by
  have body : ∀ (J : It) (xs : List V) (G : Hp → Prop) (W1 : Wd) (H1 : Hp), Stp W H W1 H1 → Ok (gOf X) W1 H1 → Walk J xs.length G (YAt xs) → (∀ H', Ex W1.I H' → G H') → Dns X.K W1.I (l.map f) xs → ∀ p, H1 p = none →
      ∃ Wf : Nat → Nat → Hp → Prop, (∃ m, Wf 0 m (upd H1 p (.lst []))) ∧ ∀ i' n H', Wf i' n H' → (J.stop i' H' ∧ R (.ref p) H') ∨ (J.go i' H' ∧ ∃ Nx : Hp → Prop, (∀ H', Nx H' → ∃ m', m' < n ∧ Wf (i' + 1) m' H') ∧ ∀ x H2, J.yld i' H' x H2 → gName i x (wipe σ (own.map (·.2))) H2 fun σ2 H3 => wipe σ2 (own.map (·.2)) = wipe σ (own.map (·.2)) ∧ tYes σ2 H3 fun b H4 =>
        if b = true then iTup X.K (WEb X scope iter1) σ2 H4 fun J1 H5 => ∃ Wg : Nat → Nat → Hp → Prop, (∃ m, Wg 0 m H5) ∧ ∀ j' k H, Wg j' k H →
          (J1.stop j' H ∧ Nx H) ∨ (J1.go j' H ∧ ∃ Nx1 : Hp → Prop, (∀ H', Nx1 H' → ∃ k', k' < k ∧ Wg (j' + 1) k' H') ∧ ∀ x H', J1.yld j' H x H' → gName j x (wipe σ2 [j]) H' fun σ3 H5 => wipe σ3 [j] = wipe σ2 [j] ∧ tYes σ3 H5 fun b H6 =>
            if b = true then WEb X scope elt σ3 H6 fun y H7 => ∃ acc, H7 p = some (.lst acc) ∧ acc.length < sizeLine ∧ Nx1 (upd H7 p (.lst (acc ++ [y]))) else Nx1 H6)
        else Nx H4) := by
    intro J xs G W1 H1 s1 ok1 w hG dn p hp0
    have r1 := r.step s1 ok1
    have lx : xs.length = l.length := by rw [← dn.length, List.length_map]
    have lb : ∀ (i' : Nat), ((l.take i').flatMap fun a => (m a).map (u a)).length ≤ 200 * 200 := fun i' => by
      rw [List.length_flatMap]
      have : ∀ l' : List α, (∀ a ∈ l', (m a).length ≤ 200) → (l'.map fun a => ((m a).map (u a)).length).sum ≤ 200 * l'.length := by
        intro l' h'
        induction l' with
        | nil => simp
        | cons a l' ih =>
          have h1 := ih fun b hb => h' b (List.mem_cons_of_mem _ hb)
          have h2 := h' a (List.mem_cons_self ..)
          simp only [List.map_cons, List.sum_cons, List.length_cons, List.length_map] at h1 ⊢
          omega
      refine Nat.le_trans (this _ fun a ha => hm a (List.mem_of_mem_take ha)) (Nat.mul_le_mul_left 200 ?_)
      rw [List.length_take]
      omega
    refine ⟨fun i' c H' => c = xs.length - i' ∧ i' ≤ xs.length ∧ ∃ acc W', Mid X.K (gOf X) W1 H1 p acc W' H' ∧ acc = (l.take i').flatMap fun a => (m a).map (u a), ⟨xs.length, rfl, Nat.zero_le _, [], W1, ⟨Stp.own hp0, ok1.own hp0, ok1.notP hp0, ok1.free hp0, [], upd_same, .nil⟩, rfl⟩, ?_⟩
    rintro i' c H' ⟨rfl, hi', acc, W', mid, jj⟩
    have G' : G H' := hG H' fun b o h => mid.ok.ex _ _ (mid.st.I _ _ h)
    by_cases lt : i' < xs.length
    · refine .inr ⟨w.goes i' H' lt G', fun H' => ∃ acc W', Mid X.K (gOf X) W1 H1 p acc W' H' ∧ acc = (l.take (i' + 1)).flatMap fun a => (m a).map (u a), fun H2 z => ⟨xs.length - (i' + 1), by omega, rfl, lt, z⟩, ?_⟩
      intro x H2 hy
      obtain ⟨rfl, hx⟩ := w.yields i' H' x H2 lt G' hy
      obtain ⟨d, hd, nd⟩ := dn.get hx
      rw [List.getElem?_map] at hd
      obtain ⟨a, ha, rfl⟩ := Option.map_eq_some_iff.mp hd
      have am := List.mem_of_getElem? ha
      refine pat_name i hi (gOf X) B σ W' H2 x (r1.step mid.st mid.ok) (nd.mono mid.st.I) _ fun σ2 e2 r2 => ⟨e2, ?_⟩
      unfold tYes
      refine iteT ?_
      show WEb X scope iter1 σ2 H2 _
      intro s H0 C cl fp
      refine hit1 a am s H0 C cl fp σ2 W' H2 r2 _ fun d2 v W2 H3 s2 ok2 n2 q2 => ?_
      subst q2
      cases n2 with
      | @tup _ a1 ys ha1 dy =>
        refine ⟨a1, rfl, ⟨ys, SqT.of (ok2.ex _ _ ha1)⟩, ?_⟩
        have mid2 := mid.step s2 ok2
        have ly : ys.length = (m a).length := by rw [← dy.length, List.length_map]
        refine ⟨fun j' c H' => c = ys.length - j' ∧ j' ≤ ys.length ∧ ∃ acc W3, Mid X.K (gOf X) W1 H1 p acc W3 H' ∧ Rep X.K (gOf X) B (itE S own i (f a)) σ2 W3 H' ∧ Ex W2.I W3.I ∧ acc = ((l.take i').flatMap fun a => (m a).map (u a)) ++ ((m a).take j').map (u a), ⟨ys.length, rfl, Nat.zero_le _, acc, W2, mid2, r2.step s2 ok2, Ex.refl _, by rw [jj]; simp⟩, ?_⟩
        rintro j' c H4 ⟨rfl, hj', acc3, W3, mid3, r3, ex3, jj3⟩
        have GT : SqT X.K H4 a1 ys := SqT.of (mid3.ok.ex _ _ (ex3 _ _ ha1))
        by_cases lt2 : j' < ys.length
        · refine .inr ⟨walk_tup.goes j' H4 lt2 GT, fun H' => ∃ acc W3, Mid X.K (gOf X) W1 H1 p acc W3 H' ∧ Rep X.K (gOf X) B (itE S own i (f a)) σ2 W3 H' ∧ Ex W2.I W3.I ∧ acc = ((l.take i').flatMap fun a => (m a).map (u a)) ++ ((m a).take (j' + 1)).map (u a), fun H5 z => ⟨ys.length - (j' + 1), by omega, rfl, lt2, z⟩, ?_⟩
          intro x2 H5 hy2
          obtain ⟨rfl, hx2⟩ := (walk_tup (K := X.K) (a := a1) (xs := ys)).yields j' H4 x2 H5 lt2 GT hy2
          obtain ⟨d3, hd3, nd3⟩ := dy.get hx2
          rw [List.getElem?_map] at hd3
          obtain ⟨b, hb, rfl⟩ := Option.map_eq_some_iff.mp hd3
          refine pat_name j (by simp) (gOf X) B σ2 W3 H5 x2 r3 (nd3.mono ex3) _ fun σ3 e3 r4 => ⟨e3, ?_⟩
          refine iteT ?_
          show WEb X scope elt σ3 _ _
          intro s H0 C cl fp
          refine he a am b (List.mem_of_getElem? hb) s H0 C cl fp σ3 W3 _ r4 _ fun y v W4 H6 s4 ok4 n4 q4 => ?_
          obtain ⟨xs', g1, g3, m3⟩ := (mid3.step s4 ok4).more hp0 n4 (by
            have h1 := lb i'
            have h2 := hm a am
            rw [jj3, List.length_append, List.length_map, List.length_take]
            omega)
          refine ⟨xs', g1, g3, _, W4, m3, (r3.step s4 ok4).base (hpl a am) m3.ok r.gb, ex3.trans s4.I, ?_⟩
          rw [take1 (u a) hb, jj3, q4, List.append_assoc]
        · have ej : j' = ys.length := by omega
          subst ej
          refine .inl ⟨walk_tup.stops H4 GT, acc3, W3, mid3, ?_⟩
          rw [jj3, List.take_add_one, ha, ly, List.take_length]
          simp
    · have ei : i' = xs.length := by omega
      subst ei
      refine .inl ⟨w.stops H' G', ?_⟩
      obtain ⟨zs, hH, ds⟩ := mid.h
      rw [lx, List.take_length] at jj
      exact k acc p zs W' H' (s1.trans ok1 mid.st) mid.ok (s1.free ok1 hp0) mid.n mid.i hH ds (by rw [jj]; exact q)
  have hv : ∀ i' ∈ [j], i' ∈ own.map (·.2) := fun i' h => by rw [List.mem_singleton.mp h]; exact hj
  rcases sd with rfl | rfl
  · refine PE.w (pe_lc2 (te := WEb X scope elt) (wi1 := iTup X.K (WEb X scope iter1)) hc hN (pi_list we_pe) ok hv hg (fun _ _ _ _ _ => pts_nil) (fun s H C cl fp => pi_tup (web_pe s H C cl fp)) hg1 (fun _ _ _ _ _ => pts_nil) web_pe hs hs1) ?_
    refine hit σ W H r _ fun d v W1 H1 s1 ok1 n1 q1 => ?_
    subst q1
    cases n1 with
    | @lst _ a xs ha dn => exact ⟨a, rfl, ⟨xs, SqL.of (ok1.ex _ _ ha)⟩, fun p hp0 => body _ xs _ W1 H1 s1 ok1 (walk_list (K := X.K) (a := a) (xs := xs)) (fun H' e => SqL.of (e _ _ ha)) dn p hp0⟩
  · refine PE.w (pe_lc2 (te := WEb X scope elt) (wi1 := iTup X.K (WEb X scope iter1)) hc hN (pi_tup we_pe) ok hv hg (fun _ _ _ _ _ => pts_nil) (fun s H C cl fp => pi_tup (web_pe s H C cl fp)) hg1 (fun _ _ _ _ _ => pts_nil) web_pe hs hs1) ?_
    refine hit σ W H r _ fun d v W1 H1 s1 ok1 n1 q1 => ?_
    subst q1
    cases n1 with
    | @tup _ a xs ha dn => exact ⟨a, rfl, ⟨xs, SqT.of (ok1.ex _ _ ha)⟩, fun p hp0 => body _ xs _ W1 H1 s1 ok1 (walk_tup (K := X.K) (a := a) (xs := xs)) (fun H' e => SqT.of (e _ _ ha)) dn p hp0⟩
end
end DL

set_option Elab.async false
set_option linter.all false
set_option maxRecDepth 100000
set_option maxHeartbeats 4000000
/-! enumerate of a tuple; dict comprehensions told by functions; list(range(n)) -/
namespace DL
open PySem PySem.Spec PyProof.Rows L2
def Ite2 (K : PySem.W.Frag) (a : Addr) : It :=
  ⟨fun i H => ∃ (xs : List V) (x : V), SqT K H a xs ∧ xs[i]? = some x, fun i H v H' => ∃ T x, v = .ref T ∧ H T = none ∧ H' = upd H T (.tup [.int (i : Nat), x]) ∧ ∀ xs, SqT K H a xs → xs[i]? = some x, fun i H => ∃ xs : List V, SqT K H a xs ∧ xs.length ≤ i⟩
theorem enum_endT {prog : Program} {w : World} {A : Around} {E : Value → Shared → Prop} {s : Shared} {e it l : Addr} {i : Nat} {items : Array Value} {old : Value} {Q : Option Value → Shared → Prop} (hh : A.handled = none) (he : IsEnum s.heap e it i old) (hit : s.heap.IsTupleIter it l i) (hl : s.heap.IsTuple l items) (hx : items[i]? = none)
    (hQ : ∀ h', Heap.ExtBut it s.heap h' → Q none { s with heap := h' }) : wpAny (model prog w) A (pyNext (.ref e)) Q E s := by
  have hT : s.TypeIs (.ref e) "enumerate" := ⟨_, he, rfl⟩
  unfold pyNext
  refine wpAny_bind (wpAny_attempt (wpAny_callSpecial?_slot (name := Str.ofString "__next__") hT F.slot_enumerate_next
    (wpAny_call_entry F.slot_enumerate_next hT F.entry_enumerate_next ?_ (F.args_enumerate_next_1 _))))
  show wpAny _ _ (field (.ref e) 2 >>= _) _ _ _
  refine wpAny_bind (wpAny_field he rfl (x := .ref it) rfl ?_)
  refine wpAny_bind (RZ.nextOf_tuple_end (A := A.in1) hh hit hl hx fun h' x he' hx' => ?_)
  obtain ⟨o, ho, hc⟩ := hx'
  refine wpAny_bind (wpAny_isInstance (T := "StopIteration") (b := true) ⟨o, ho, hc⟩ isSubtype_stop ?_)
  exact wpAny_pure (hQ _ he')
theorem turn_enumT {P : Program} {w : World} {K : PySem.W.Frag} {elts : List Expr} {kk : Nat} {tpos : Pos} (a e it : Addr) :
    Turn P w K (.Tuple elts kk tpos) (Ite2 K a) [e, it] e (fun i h => (∃ old, IsEnum h e it ((i : Nat) : Int) old) ∧ h.IsTupleIter it a i ∧ e ≠ it ∧ a ≠ it ∧ a ≠ e) where
  mem := by simp
  obj := fun i h st b hb => by
    obtain ⟨⟨old, he⟩, ⟨o, ho, hc, hd⟩, _⟩ := st
    have e' : b = e ∨ b = it := by simpa using hb
    rcases e' with z | z
    · rw [z]; exact ⟨_, he, fun v q => nomatch q⟩
    · rw [z]; exact ⟨o, ho, fun v q => by rw [hd] at q; cases q⟩
  keep := fun i h h' st k => let ⟨⟨old, he⟩, hi, hne⟩ := st; ⟨⟨old, k e (by simp) _ he⟩, hi.at fun o q => k it (by simp) o q, hne⟩
  item := by
    intro X hP hw hK hc i pins s σ H E I hf st hg
    subst hP hw hK
    obtain ⟨⟨old, he⟩, hit, hne, nai, nae⟩ := st
    obtain ⟨xs, x, hq, hx⟩ := hg
    obtain ⟨its, rv, tp, hz⟩ := I.tuple hq
    obtain ⟨u, hu, ru⟩ := rv.get hx
    have hel : e < s.heap.objs.size := Heap.lt_size he
    have hil : it < s.heap.objs.size := by obtain ⟨_, q, _⟩ := hit; exact Heap.lt_size q
    have lt : i < its.toArray.size := by
      rw [List.size_toArray]
      exact (List.getElem?_eq_some_iff.mp hu).1
    refine wpAny_pyNext_enum_itemD (Draws.tuple (A := X.A.in1) (I.ok.hd hc) it a nai its.toArray) he ⟨hit, tp⟩ lt hne (by simp [hne, Ne.symm nae]) fun x' h' tk hP ho hit' hT hsz hk => ?_
    have ex : x' = u := by
      have : its.toArray[i]? = some u := by simpa using hu
      rw [this] at hP
      exact (Option.some.inj hP).symm
    subst ex
    refine ⟨_, rfl, wpAny_letOwnedTupleGo_enum (s := { s with heap := h', toks := tk + 1 }) ho fun h'' he' sb => ?_⟩
    have hT2 : h''.get? s.heap.objs.size = some { cls := .type "tuple", data := .seq #[.int i tk, x'] } := (sb.2 _ (Nat.ne_of_gt hel)).trans hT
    have new : ObjOk X.prog X.w (upd H s.heap.objs.size (.tup [.int (i : Nat), x])) h'' s.heap.objs.size (.tup [.int (i : Nat), x]) :=
      ⟨by show 2 ≤ sizeLine; decide, [.int i tk, x'], .cons ⟨_, rfl⟩ (.cons ru .nil), ⟨_, hT2, rfl, _, rfl⟩⟩
    have I1 : Inv X pins σ (upd H s.heap.objs.size (.tup [.int (i : Nat), x])) { s with heap := h'', toks := tk + 1 } :=
      I.turnedNew (ch := [e, it]) (fun b ob hb q => (sb.2 b (fun z => hb (by simp [z]))).trans (hk b ob (fun z => hb (by simp [z])) (fun z => hb (by simp [z])) q)) hf (Nat.le_refl _) new
    refine ⟨.ref s.heap.objs.size, _, I1, rfl, ⟨_, x, rfl, I.hok.fresh (Nat.le_refl _), rfl, fun ys hy => by rw [I.tuple_inj hy hq]; exact hx⟩, ⟨⟨x', ?_⟩, hit'.1.at fun o q => (sb.2 it (Ne.symm hne)).trans q, hne, nai, nae⟩, fun b hb => ?_⟩
    · have e1 : ((i + 1 : Nat) : Int) = (i : Int) + 1 := by omega
      rw [e1]; exact he'
    · have hb' : b < s.heap.objs.size := by
        have e' : b = e ∨ b = it := by simpa using hb
        rcases e' with z | z
        · rw [z]; exact hel
        · rw [z]; exact hil
      rw [upd_ne (Nat.ne_of_lt hb')]
      exact (hf b hb).1
  done := by
    intro X hP hw hK hc i pins s σ H E I hf st hg
    subst hP hw hK
    obtain ⟨⟨old, he⟩, hit, hne, nai, nae⟩ := st
    obtain ⟨xs, hq, hx⟩ := hg
    obtain ⟨its, rv, tp, hz⟩ := I.tuple hq
    obtain ⟨f0, f1, f2, f3, f4, f5⟩ := hf it (by simp)
    have hl := rv.length
    exact enum_endT (I.ok.hd hc) he hit tp (by simp; omega) fun h' eb => ⟨rfl, I.turned (t' := s.toks) (fun b o hb q => eb b o hb q) f0 f1 f3 f4 f5⟩
  self := fun A i s Q E st h => let ⟨⟨_, he⟩, _⟩ := st; wpAny_pyIter_enum he h
def iEnumT (K : PySem.W.Frag) (ta : TA) : TI := fun σ H R => ta σ H fun vs H1 => ∃ a xs, vs = [.ref a] ∧ SqT K H1 a xs ∧ R (Ite2 K a) H1
theorem pi_enumT {X : Cx} {e : Expr} {ta : TA} {p pos tpos : Pos} {elts : List Expr} {kk : Nat} (hg : Gl X "enumerate") (hm : X.mg "enumerate" = none) (ha : PA X [e] ta) (hs : starEach [e] X.env = [(false, eval e X.env)] := by rfl) :
    PI X (.Tuple elts kk tpos) (.Call (.Name "enumerate" p) [e] [] pos) (iEnumT X.K ta) := by
  refine ⟨fun pins s σ H R J h => Call_ (ld_blt J hg hm boot_enumerate (PyProof.Rows.callWith_type1 (thn (ha.run pos pins s σ H _ J h) fun us s1 ⟨vs, H1, J1, r1, q1⟩ => ?_) hs rfl))⟩
  obtain ⟨a, xs, rfl, sq, q⟩ := q1
  cases r1 with
  | cons r rr =>
    cases rr
    cases r
    obtain ⟨its, rv, tp, _⟩ := J1.tuple sq
    refine EZ.call_enum tp fun h' h1 h2 keep => wpAny_pyIter_enum h1 ?_
    have J2 : Inv X pins σ H1 { s1 with heap := h' } := J1.kept (t' := s1.toks) keep
    have lt : a < s1.heap.objs.size := by obtain ⟨_, g, _⟩ := tp; exact Heap.lt_size g
    refine ⟨s1.heap.objs.size + 1, [s1.heap.objs.size + 1, s1.heap.objs.size], _, _, H1, rfl, J2, turn_enumT a _ _, ⟨⟨_, h1⟩, h2, Nat.succ_ne_self _, Nat.ne_of_lt lt, Nat.ne_of_lt (Nat.lt_succ_of_lt lt)⟩, fun b hb => ?_, q⟩
    have le : s1.heap.objs.size ≤ b := by
      have z : b = s1.heap.objs.size + 1 ∨ b = s1.heap.objs.size := by simpa using hb
      rcases z with z | z <;> rw [z]
      · exact Nat.le_add_right _ _
      · exact Nat.le_refl _
    exact J1.fpOk le (J1.hok.fresh le)
theorem walk_enumT {K : PySem.W.Frag} {a : Addr} {xs : List V} : Walk (Ite2 K a) xs.length (fun H => SqT K H a xs) (YPair (fun i => some (.int (i : Nat))) (fun i => xs[i]?)) := by
  refine ⟨fun i _ hi q => ⟨xs, xs[i], q, by simp [hi]⟩, fun _ q => ⟨xs, q, Nat.le_refl _⟩, fun i H v H' _ q y => ?_⟩
  obtain ⟨T, x, h1, h2, h3, h4⟩ := y
  exact ⟨T, .int (i : Nat), x, h1, h2, h3, rfl, h4 xs q⟩
section
variable {X : Cx} {B : Hp} {W0 : Wd} {S : En} {pos px p1 p apos cpos : Pos} {Q : D → Prop} {a b c e e2 o elt iter value : Expr} {es : List Expr} {E : Ends'} {x : Str}
/-- for i, x in enumerate(a tuple) -/
theorem sd_forET {elts : List Expr} {kk : Nat} {tpos : Pos} {body : List Stmt} {l : List D} (hp : PassesOwn (model X.prog X.w) X.A X.env X.xe) (hc : X.calm = true) (hm : X.mg "enumerate" = none) (Inv : Nat → En → Prop) (h : AD X B S [e] fun as => as = [.val (.tup l)] ∧ Inv 0 S)
    (hs : ∀ (i : Nat) d S', l[i]? = some d → Inv i S' → GD X B W0 S' (.Tuple elts kk tpos) (.tup [.int (i : Int), d]) fun S2 => SDs X B W0 S2 body { nx := Inv (i + 1), rt := E.rt, bk := E.nx, ct := Inv (i + 1) })
    (hd : ∀ S', Inv l.length S' → E.nx S') (hg : Gl X "enumerate" := by rfl) (hst : starEach [e] X.env = [(false, eval e X.env)] := by rfl) (hf : ∀ x, foldedSetIterable (.Call (.Name "enumerate" p) [e] [] p1) X.env x = pure x := by intro _; rfl) :
    SD X B W0 S (.For (.Tuple elts kk tpos) (.Call (.Name "enumerate" p) [e] [] p1) body [] pos) E := fun σ W H r z D' k => by
  refine PS.w (ps_for hp hc (pi_enumT hg hm wa_pa hst) wg_pg wss_pss hf) ?_
  refine h σ W H r _ fun as vs W1 H1 s1 ok1 n1 q1 => ?_
  obtain ⟨rfl, i0⟩ := q1
  obtain ⟨v, rfl, m⟩ := one_arg n1
  cases m with
  | @tup _ a xs ha m =>
    refine ⟨a, xs, rfl, SqT.of (ok1.ex _ _ ha), for_it walk_enumT (fun i σ' H' => ∃ S' W', Rep X.K (gOf X) B S' σ' W' H' ∧ Stp W0 B W' H' ∧ Ex W1.I W'.I ∧ Inv i S') ⟨S, W1, r.step s1 ok1, z.trans r.ok s1, Ex.refl _, i0⟩
      (fun i σ' H' _ ⟨S', W', r', _, e', _⟩ => SqT.of (r'.ok.ex _ _ (e' _ _ ha))) ?_ ?_⟩
    · rintro i y σ' H' H2 hi ⟨S', W', r', z', e', i'⟩ ⟨T, x1, x2, rfl, hT, rfl, ex1, ex2⟩
      obtain ⟨d, hd', nd⟩ := m.get ex2
      cases ex1
      have st := Stp.new (o := .tup [.int (i : Nat), x2]) r'.ok hT
      have ok2 := r'.ok.new (o := .tup [.int (i : Nat), x2]) hT
      refine hs i d S' hd' i' σ' _ _ _ (r'.step st ok2) (z'.trans r'.ok st) (.tup (show upd W'.I T _ T = _ from upd_same) (.cons (.int _) (.cons ((nd.mono e').mono st.I) .nil))) _ fun S3 σ3 W3 H3 r3 z3 e3 q3 => ?_
      have e4 := (e'.trans st.I).trans e3
      exact q3 σ3 W3 H3 r3 z3 _ ⟨fun S5 σ5 W5 H5 r5 z5 e5 q5 => ⟨S5, W5, r5, z5, e4.trans e5, q5⟩, fun d5 v5 W5 H5 r5 z5 e5 n5 q5 => k.rt d5 v5 W5 H5 r5 z5 ((s1.I.trans e4).trans e5) n5 q5,
        fun S5 σ5 W5 H5 r5 z5 e5 q5 => k.nx S5 σ5 W5 H5 r5 z5 ((s1.I.trans e4).trans e5) q5, fun S5 σ5 W5 H5 r5 z5 e5 q5 => ⟨S5, W5, r5, z5, e4.trans e5, q5⟩⟩
    · rintro σ' H' ⟨S', W', r', z', e', i'⟩
      rw [← m.length] at i'
      exact k.nx S' σ' W' H' r' z' (s1.I.trans e') (hd S' i')
/-- {kx: vx for g in a tuple} -/
theorem ft_dcTp {kx vx tg iter : Expr} {scope : Scope} {own : List (Str × Nat)} {g : TG} {l : List D} {Q : List (List Key × D) → Prop} (J : Nat → List (List Key × D) → Prop) (S' : D → En) (hc : X.calm = true) (hu : X.A.units + 1 < cLine) (hN : X.N.Nodup) (ok : BlkOk X.N X.env.scope scope own)
    (hg : AllBlk X scope fun Y => PG Y tg g) (h : ED X B S iter fun d => d = .tup l ∧ l.length ≤ 50000 ∧ J 0 []) (hp : ∀ d ∈ l, Pat X.K g (own.map (·.2)) S d (S' d))
    (he : ∀ (i : Nat) d acc, l[i]? = some d → J i acc → AllBlk X scope fun Y => ED Y B (S' d) kx fun y => ∃ k, y = tD k ∧ AllBlk X scope fun Y => ED Y B (S' d) vx fun z => J (i + 1) (putE acc k z))
    (hd : ∀ acc, J l.length acc → Q acc) (hs : ∀ x, foldedSetIterable iter X.env x = pure x := by intro _; rfl) : FT X B S (.DictComp kx vx [⟨tg, iter, [], 0⟩] scope pos) Q := fun σ W H r R k => by
  refine PE.w (pe_dcT (tk := WEb X scope kx) (tv := WEb X scope vx) hc hu hN (pi_tup we_pe) ok hg web_pe web_pe hs) ?_
  refine h σ W H r _ fun d v W1 H1 s1 ok1 n1 q1 => ?_
  obtain ⟨rfl, hz, j0⟩ := q1
  cases n1 with
  | @tup _ a xs ha m =>
    refine ⟨a, rfl, ⟨xs, SqT.of (ok1.ex _ _ ha)⟩, fun p hp0 => ?_⟩
    have r1 := r.step s1 ok1
    have hlx := m.length
    refine dct_it walk_tup (fun i H' => ∃ acc W', MidT X.K (gOf X) W1 H1 p acc W' H' ∧ acc.length ≤ i ∧ J i acc) ⟨[], W1, ⟨Stp.own hp0, ok1.own hp0, ok1.notP hp0, ok1.free hp0, [], upd_same, .nil⟩, Nat.le_refl _, j0⟩
      (fun i H' _ ⟨acc, W', mm, _⟩ => SqT.of (mm.ok.ex _ _ (mm.st.I _ _ ha))) ?_ ?_
    · rintro i y H' H2 hi ⟨acc, W', mm, hl, j⟩ ⟨rfl, hx⟩
      obtain ⟨d, hd', nd⟩ := m.get hx
      have r2 := r1.step mm.st mm.ok
      refine hp d (List.mem_of_getElem? hd') (gOf X) B σ W' H2 y r2 (nd.mono mm.st.I) _ fun σ2 e2 r3 => ⟨e2, ?_⟩
      show WEb X scope kx σ2 H2 _
      intro s H0 C cl fp
      refine he i d acc hd' j s H0 C cl fp σ2 W' H2 r3 _ fun y W3v W3 H3 s3 ok3 n3 q3 => ?_
      obtain ⟨k1, rfl, q3⟩ := q3
      obtain ⟨bq, rfl, hb⟩ := dn_tupkey ok3 n3
      show WEb X scope vx σ2 H3 _
      intro s' H0' C' cl' fp'
      refine q3 s' H0' C' cl' fp' σ2 W3 H3 (r3.step s3 ok3) _ fun z W4v W4 H4 s4 ok4 n4 q4 => ?_
      have st := s3.trans ok3 s4
      obtain ⟨ws, e1, e3, m4⟩ := (mm.step st ok4).more (k := k1) hp0 n4 (by omega)
      have hb4 : H4 bq = some (.tup (k1.map kV)) := s4.keep _ _ hb fun z => by
        obtain ⟨x1, x2, e, _⟩ := (ok3.pot bq z).2
        rw [hb] at e
        cases e
      exact ⟨ws, k1, bq, rfl, hb4, e1, e3, _, W4, m4, Nat.le_trans (putE_len _ _ _) (by omega), q4⟩
    · rintro H' ⟨acc, W', mm, hl, j⟩
      obtain ⟨ys, hH, ds⟩ := mm.h
      rw [← hlx] at j
      exact k acc p ys W' H' (s1.trans ok1 mm.st) mm.ok (s1.free ok1 hp0) mm.n mm.i hH ds (hd acc j)

/-- for i, x in enumerate(a list or a tuple) -/
theorem sd_forES {elts : List Expr} {kk : Nat} {tpos : Pos} {body : List Stmt} {l : List D} {d0 : D} (sd : SeqD d0 l) (hp : PassesOwn (model X.prog X.w) X.A X.env X.xe) (hc : X.calm = true) (hm : X.mg "enumerate" = none) (Inv : Nat → En → Prop) (h : AD X B S [e] fun as => as = [.val d0] ∧ Inv 0 S)
    (hs : ∀ (i : Nat) d S', l[i]? = some d → Inv i S' → GD X B W0 S' (.Tuple elts kk tpos) (.tup [.int (i : Int), d]) fun S2 => SDs X B W0 S2 body { nx := Inv (i + 1), rt := E.rt, bk := E.nx, ct := Inv (i + 1) })
    (hd : ∀ S', Inv l.length S' → E.nx S') (hg : Gl X "enumerate" := by rfl) (hst : starEach [e] X.env = [(false, eval e X.env)] := by rfl) (hf : ∀ x, foldedSetIterable (.Call (.Name "enumerate" p) [e] [] p1) X.env x = pure x := by intro _; rfl) :
    SD X B W0 S (.For (.Tuple elts kk tpos) (.Call (.Name "enumerate" p) [e] [] p1) body [] pos) E := by
  rcases sd with rfl | rfl
  · exact sd_forE hp hc hm Inv h hs hd hg hst hf
  · exact sd_forET hp hc hm Inv h hs hd hg hst hf
end
end DL

set_option Elab.async false
set_option linter.all false
set_option maxRecDepth 100000
set_option maxHeartbeats 4000000
/-! texts of lists and tuples that hold own objects -/
namespace DL
open PySem PySem.Spec PyProof.Rows L2
mutual
/-- data that can be written, each told by where it stands -/
inductive Rp : D → Prop
  | non : Rp .non
  | bl (b) : Rp (.bl b)
  | int (i) : Rp (.int i)
  | str (s) : Rp (.str s)
  | tup {l} : Rps l → Rp (.tup l)
  | lst {l} : Rps l → Rp (.lst l)
  | obj {C fs} : Rpf fs → Rp (.obj C fs)
inductive Rps : List D → Prop
  | nil : Rps []
  | cons {d l} : Rp d → Rps l → Rps (d :: l)
inductive Rpf : List (Str × D) → Prop
  | nil : Rpf []
  | cons {f d l} : Rp d → Rpf l → Rpf ((f, d) :: l)
end
section
variable {K : PySem.W.Frag} {I : Hp}
open Classical in
noncomputable def del (I : Hp) (a : Addr) : Hp := fun b => if b = a then none else I b
end
/-! being written: a stands no more among what never changes, and is back behind it -/
section
variable {g : List Code} {W W2 : Wd} {H H2 : Hp} {a : Addr} {o : HO}
end
end DL

set_option Elab.async false
set_option linter.all false
set_option maxRecDepth 100000
set_option maxHeartbeats 4000000
/-! how lists and tuples that hold own objects are written -/
namespace DL
open PySem PySem.Spec PyProof.Rows L2 Builtin Builtin.List
/-- an around that stands in the same def -/
structure Ar (X : Cx) (k : Nat) (A : Around) : Prop where
  r : Room k A
  f : A.frames = some X.stack
/-- d is written as t -/
def Wr (X : Cx) (k : Nat) (d : D) (t : Str) : Prop := ∀ (A : Around) (g : List Code) (W : Wd) (H : Hp) (pins : List (Addr × Obj)) (σ : L2.St) (s : Shared) (v : V) (u : Value) (base : Nat) (Q : Str → Shared → Prop) (E : Value → Shared → Prop), Ar X k A → A.guards = some g → Ok g W H → Inv X pins σ H s → Dn X.K W.I d v → RelV v u → base + t.length ≤ sizeLine →
  (∀ W' H' s', Stp W H W' H' → Ok g W' H' → Inv X pins σ H' s' → Q t s') → wpAny (model X.prog X.w) A (pyReprUnder base u) Q E s
section
variable {X : Cx} {k : Nat}
section
variable {A : Around} {g : List Code} {a P : Addr} {W1 : Wd} {H1 : Hp} {pins : List (Addr × Obj)} {σ : L2.St} {l : List D} {xs : List V} {ts : List Str} {base : Nat} {R : PySem.Result → Shared → Prop}
end
end
end DL

set_option Elab.async false
set_option linter.all false
set_option maxRecDepth 100000
set_option maxHeartbeats 4000000
namespace DL
open PySem PySem.Spec PyProof.Rows L2 Builtin Builtin.List
section
variable {X : Cx} {k : Nat}
end
end DL

set_option Elab.async false
set_option linter.all false
set_option maxRecDepth 100000
set_option maxHeartbeats 4000000
/-! k61: lots of things, houses: what is true of them -/
namespace M61
abbrev Lot := List Int
def lexlt : Lot → Lot → Bool
  | _, [] => false
  | [], _ :: _ => true
  | x :: xs, y :: ys => decide (x < y) || (decide (x = y) && lexlt xs ys)
/-- shorter ones first, then by their things -/
def lt2 (a b : Lot) : Bool := decide (a.length < b.length) || (decide (a.length = b.length) && lexlt a b)
theorem lexlt_irr : ∀ a, lexlt a a = false
  | [] => rfl
  | x :: xs => by unfold lexlt; rw [lexlt_irr xs]; simp
theorem lexlt_tri : ∀ {a b : Lot}, a.length = b.length → lexlt a b = false → a ≠ b → lexlt b a = true
  | [], [], _, _, h => absurd rfl h
  | [], _ :: _, h, _, _ => by simp at h
  | _ :: _, [], h, _, _ => by simp at h
  | x :: xs, y :: ys, hl, h, ne => by
    unfold lexlt at h ⊢
    simp only [Bool.or_eq_false_iff, Bool.and_eq_false_iff, decide_eq_false_iff_not] at h
    obtain ⟨h1, h2⟩ := h
    by_cases e : y < x
    · simp [e]
    · have exy : x = y := by omega
      subst exy
      have h3 : lexlt xs ys = false := by
        rcases h2 with h2 | h2
        · exact absurd rfl h2
        · exact h2
      have := lexlt_tri (a := xs) (b := ys) (by simpa using hl) h3 (fun z => ne (by rw [z]))
      simp [this]
theorem lexlt_asym : ∀ {a b : Lot}, lexlt a b = true → lexlt b a = false
  | _, [], h => by cases ‹Lot› <;> simp [lexlt] at h
  | [], _ :: _, _ => rfl
  | x :: xs, y :: ys, h => by
    unfold lexlt at h ⊢
    simp only [Bool.or_eq_true, Bool.and_eq_true, decide_eq_true_eq] at h
    rcases h with h | ⟨h1, h2⟩
    · have a1 : ¬ y < x := by omega
      have a2 : ¬ y = x := by omega
      simp [a1, a2]
    · subst h1
      simp [lexlt_asym h2]
theorem lexlt_trans : ∀ {a b c : Lot}, lexlt a b = true → lexlt b c = true → lexlt a c = true
  | _, [], _, h, _ => by cases ‹Lot› <;> simp [lexlt] at h
  | _, _ :: _, [], _, h => by simp [lexlt] at h
  | [], _ :: _, _ :: _, _, _ => rfl
  | x :: xs, y :: ys, z :: zs, h, k => by
    unfold lexlt at h k ⊢
    simp only [Bool.or_eq_true, Bool.and_eq_true, decide_eq_true_eq] at h k ⊢
    rcases h with h | ⟨h1, h2⟩
    · rcases k with k | ⟨k1, k2⟩
      · exact .inl (by omega)
      · exact .inl (by omega)
    · rcases k with k | ⟨k1, k2⟩
      · exact .inl (by omega)
      · exact .inr ⟨by omega, lexlt_trans h2 k2⟩
theorem lt2_irr (a : Lot) : lt2 a a = false := by simp [lt2, lexlt_irr]
theorem lt2_tri {a b : Lot} (h : lt2 a b = false) (ne : a ≠ b) : lt2 b a = true := by
  unfold lt2 at h ⊢
  simp only [Bool.or_eq_false_iff, Bool.and_eq_false_iff, decide_eq_false_iff_not] at h
  obtain ⟨h1, h2⟩ := h
  by_cases e : a.length = b.length
  · have h3 : lexlt a b = false := by
      rcases h2 with h2 | h2
      · exact absurd e h2
      · exact h2
    simp [lexlt_tri e h3 ne, e]
  · have : b.length < a.length := by omega
    simp [this]
theorem lt2_asym {a b : Lot} (h : lt2 a b = true) : lt2 b a = false := by
  unfold lt2 at h ⊢
  simp only [Bool.or_eq_true, Bool.and_eq_true, decide_eq_true_eq] at h
  rcases h with h | ⟨h1, h2⟩
  · have a1 : ¬ b.length < a.length := by omega
    have a2 : ¬ b.length = a.length := by omega
    simp [a1, a2]
  · simp [lexlt_asym h2, h1]
theorem lt2_trans {a b c : Lot} (h : lt2 a b = true) (k : lt2 b c = true) : lt2 a c = true := by
  unfold lt2 at *
  simp only [Bool.or_eq_true, Bool.and_eq_true, decide_eq_true_eq] at *
  rcases h with h | ⟨h1, h2⟩
  · rcases k with k | ⟨k1, k2⟩
    · exact .inl (by omega)
    · exact .inl (by omega)
  · rcases k with k | ⟨k1, k2⟩
    · exact .inl (by omega)
    · exact .inr ⟨by omega, lexlt_trans h2 k2⟩
/-! all lots -/
def subs : Nat → List Lot
  | 0 => [[]]
  | n + 1 => subs n ++ (subs n).map (· ++ [(n : Int)])
def ins2 (a : Lot) : List Lot → List Lot
  | [] => [a]
  | b :: l => if lt2 a b then a :: b :: l else b :: ins2 a l
def srt2 : List Lot → List Lot
  | [] => []
  | a :: l => ins2 a (srt2 l)
def ev (n : Nat) : List Lot := srt2 (subs n)
def less (l : Lot) (t : Int) : Lot := l.filter fun h => decide (h ≠ t)
def ins (t : Int) : Lot → Lot
  | [] => [t]
  | x :: xs => if t < x then t :: x :: xs else x :: ins t xs
theorem ins2_perm (a : Lot) : ∀ l, (ins2 a l).Perm (a :: l)
  | [] => .refl _
  | b :: l => by
    unfold ins2
    split
    · exact .refl _
    · exact ((ins2_perm a l).cons b).trans (.swap a b l)
theorem srt2_perm : ∀ l, (srt2 l).Perm l
  | [] => .refl _
  | a :: l => (ins2_perm a _).trans ((srt2_perm l).cons a)
/-- lists that are sorted, of the same lots, are the same -/
theorem uniq2 {a b : List Lot} (p : a.Perm b) (h1 : a.Pairwise fun x y => lt2 y x = false) (h2 : b.Pairwise fun x y => lt2 y x = false) : a = b :=
  List.Perm.eq_of_pairwise (fun x y _ _ c d => by
    rcases Classical.em (x = y) with e | e
    · exact e
    · rw [lt2_tri c (fun z => e z.symm)] at d
      cases d) h1 h2 p
theorem ev_pw : ∀ n, n ≤ 5 → (ev n).Pairwise fun x y => lt2 x y = true := by decide +kernel
theorem ev_le {n : Nat} (h : n ≤ 5) : (ev n).Pairwise fun x y => lt2 y x = false := (ev_pw n h).imp fun h => lt2_asym h
theorem ev_sub : ∀ n, n ≤ 5 → ∀ l ∈ ev n, l ∈ ev 5 := by decide +kernel
theorem ev_less : ∀ n, n ≤ 5 → ∀ l ∈ ev n, ∀ t ∈ l, less l t ∈ ev n := by decide +kernel
theorem ev_ins : ∀ n, n ≤ 5 → ∀ l ∈ ev n, ∀ t ∈ [(0 : Int), 1, 2, 3, 4], (decide (t < (n : Int)) && !l.contains t) = true → ins t l ∈ ev n := by decide +kernel
theorem ev_vd : ∀ n, n ≤ 5 → ∀ l ∈ ev n, (l.Pairwise (· < ·) ∧ ∀ t ∈ l, t ∈ [(0 : Int), 1, 2, 3, 4] ∧ 0 ≤ t ∧ t < n) := by decide +kernel
theorem ev_nil : ∀ n, n ≤ 5 → ([] : Lot) ∈ ev n := by decide +kernel
theorem ev_len : ∀ n, n ≤ 5 → (ev n).length ≤ 32 := by decide +kernel
/-- one fewer -/
def near (l m : Lot) : Bool := decide (m.length = l.length + 1) && l.all fun t => m.contains t
theorem near_less : ∀ l ∈ ev 5, ∀ m ∈ ev 5, near l m = true → ∃ t ∈ m, less m t = l := by decide +kernel
theorem less_near : ∀ m ∈ ev 5, ∀ t ∈ m, near (less m t) m = true := by decide +kernel
theorem more_of : ∀ a ∈ ev 5, ∀ b ∈ ev 5, a.length < b.length → ∃ t ∈ b, t ∉ a := by decide +kernel
end M61

set_option Elab.async false
set_option linter.all false
set_option maxRecDepth 100000
set_option maxHeartbeats 4000000
/-! k61: what is wrong with lots; houses -/
namespace M61
def lackB (lots : List Lot) (l : Lot) : Bool := !lots.contains l && (decide (l = []) || lots.any (near l))
def stuckB (lots : List Lot) (a b : Lot) : Bool := decide (a.length < b.length) && (b.filter fun t => !a.contains t).all fun t => !lots.contains (ins t a)
inductive Res where
  | none | lacks (l : Lot) | stuck (a b : Lot)
def stuckIn (lots told : List Lot) : Option (Lot × Lot) := told.findSome? fun a => (told.find? (stuckB lots a)).map fun b => (a, b)
def told (n : Nat) (lots : List Lot) : List Lot := (ev n).filter lots.contains
def fault (n : Nat) (lots : List Lot) : Res :=
  match (ev n).find? (lackB lots) with
  | some l => .lacks l
  | none => match stuckIn lots (told n lots) with
    | some (a, b) => .stuck a b
    | none => .none
def wanted (lots : List Lot) : List Lot := [] :: lots.flatMap fun m => m.map (less m)
def lacks (lots : List Lot) : List Lot := (wanted lots).filter fun l => !lots.contains l
theorem find_min {p : Lot → Bool} {x : Lot} : ∀ {l : List Lot}, (l.Pairwise fun a b => lt2 a b = true) → x ∈ l → p x = true → (∀ y ∈ l, p y = true → lt2 y x = false) → l.find? p = some x
  | [], _, h, _, _ => by cases h
  | a :: t, pw, hx, px, mn => by
    rw [List.pairwise_cons] at pw
    by_cases pa : p a = true
    · rw [List.find?_cons_of_pos pa]
      rcases List.mem_cons.mp hx with e | e
      · rw [e]
      · have := mn a (List.mem_cons_self ..) pa
        rw [pw.1 x e] at this
        cases this
    · rw [List.find?_cons_of_neg pa]
      rcases List.mem_cons.mp hx with e | e
      · rw [e] at px
        exact absurd px pa
      · exact find_min pw.2 e px fun y hy => mn y (List.mem_cons_of_mem _ hy)
section
variable {n : Nat} {lots : List Lot}
theorem mem_wanted (hn : n ≤ 5) (sub : ∀ l ∈ lots, l ∈ ev n) {l : Lot} : l ∈ wanted lots → l ∈ ev n ∧ (decide (l = []) || lots.any (near l)) = true := by
  intro h
  rcases List.mem_cons.mp h with e | e
  · subst e
    exact ⟨ev_nil n hn, by simp⟩
  · obtain ⟨m, hm, h2⟩ := List.mem_flatMap.mp e
    obtain ⟨t, ht, rfl⟩ := List.mem_map.mp h2
    have mn := sub m hm
    refine ⟨ev_less n hn m mn t ht, ?_⟩
    have := less_near m (ev_sub n hn m mn) t ht
    simp only [Bool.or_eq_true, List.any_eq_true]
    exact .inr ⟨m, hm, this⟩
theorem wanted_mem (hn : n ≤ 5) (sub : ∀ l ∈ lots, l ∈ ev n) {l : Lot} (hl : l ∈ ev n) (h : (decide (l = []) || lots.any (near l)) = true) : l ∈ wanted lots := by
  simp only [Bool.or_eq_true, List.any_eq_true, decide_eq_true_eq] at h
  rcases h with rfl | ⟨m, hm, h⟩
  · exact List.mem_cons_self ..
  · obtain ⟨t, ht, e⟩ := near_less l (ev_sub n hn l hl) m (ev_sub n hn m (sub m hm)) h
    exact List.mem_cons_of_mem _ (List.mem_flatMap.mpr ⟨m, hm, List.mem_map.mpr ⟨t, ht, e⟩⟩)
theorem mem_lacks (hn : n ≤ 5) (sub : ∀ l ∈ lots, l ∈ ev n) {l : Lot} : l ∈ lacks lots ↔ l ∈ ev n ∧ lackB lots l = true := by
  unfold lacks lackB
  rw [List.mem_filter, Bool.and_eq_true]
  constructor
  · rintro ⟨h1, h2⟩
    obtain ⟨a, b⟩ := mem_wanted hn sub h1
    exact ⟨a, h2, b⟩
  · rintro ⟨h1, h2, h3⟩
    exact ⟨wanted_mem hn sub h1 h3, h2⟩
/-- what the program finds lacking -/
theorem lacks_find (hn : n ≤ 5) (sub : ∀ l ∈ lots, l ∈ ev n) {ys : List Lot} {h : Lot} {t : List Lot} (p : ys.Perm (lacks lots)) (pw : ys.Pairwise fun x y => lt2 y x = false) (e : ys = h :: t) : (ev n).find? (lackB lots) = some h := by
  subst e
  obtain ⟨h1, h2⟩ := (mem_lacks hn sub).mp (p.mem_iff.mp (List.mem_cons_self ..))
  refine find_min (ev_pw n hn) h1 h2 fun y hy py => ?_
  have hm := p.mem_iff.mpr ((mem_lacks hn sub).mpr ⟨hy, py⟩)
  rcases List.mem_cons.mp hm with e | e
  · rw [e]
    exact lt2_irr _
  · exact (List.pairwise_cons.mp pw).1 y e
theorem lacks_none (hn : n ≤ 5) (sub : ∀ l ∈ lots, l ∈ ev n) (e : lacks lots = []) : (ev n).find? (lackB lots) = none := by
  rw [List.find?_eq_none]
  intro x hx px
  have := (mem_lacks hn sub).mpr ⟨hx, px⟩
  rw [e] at this
  cases this
theorem ev_nd (hn : n ≤ 5) : (ev n).Nodup := (ev_pw n hn).imp fun h e => by
  subst e
  rw [lt2_irr] at h
  cases h
theorem told_of (hn : n ≤ 5) (sub : ∀ l ∈ lots, l ∈ ev n) (nd : lots.Nodup) {ys : List Lot} (p : ys.Perm lots) (pw : ys.Pairwise fun x y => lt2 y x = false) : ys = told n lots := by
  refine uniq2 (p.trans ?_) pw ((ev_le hn).filter _)
  refine (List.perm_ext_iff_of_nodup nd ((ev_nd hn).filter _)).mpr fun a => ?_
  rw [List.mem_filter, List.contains_iff_mem]
  exact ⟨fun h => ⟨sub a h, h⟩, fun h => h.2⟩
/-- a family with these three is a house -/
theorem house_ok (hn : n ≤ 5) {H : Lot → Prop} (ml : ∀ l, l ∈ lots ↔ l ∈ ev n ∧ H l) (h0 : H []) (h1 : ∀ m t, m ∈ ev n → t ∈ m → H m → H (less m t)) (h2 : ∀ a b, a ∈ ev n → b ∈ ev n → H a → H b → a.length < b.length → ∃ t ∈ b, t ∉ a ∧ H (ins t a)) : fault n lots = .none := by
  have sub : ∀ l ∈ lots, l ∈ ev n := fun l h => ((ml l).mp h).1
  have f1 : (ev n).find? (lackB lots) = none := by
    rw [List.find?_eq_none]
    intro x hx px
    unfold lackB at px
    rw [Bool.and_eq_true] at px
    have hw := wanted_mem hn sub hx px.2
    have nx : x ∉ lots := by simpa using px.1
    rcases List.mem_cons.mp hw with e | e
    · subst e
      exact nx ((ml []).mpr ⟨hx, h0⟩)
    · obtain ⟨m, hm, hh⟩ := List.mem_flatMap.mp e
      obtain ⟨t, ht, rfl⟩ := List.mem_map.mp hh
      obtain ⟨a, b⟩ := (ml m).mp hm
      exact nx ((ml _).mpr ⟨hx, h1 m t a ht b⟩)
  have f2 : stuckIn lots (told n lots) = none := by
    unfold stuckIn
    rw [List.findSome?_eq_none_iff]
    intro a ha
    rw [Option.map_eq_none_iff, List.find?_eq_none]
    intro b hb sb
    unfold told at ha hb
    rw [List.mem_filter, List.contains_iff_mem] at ha hb
    unfold stuckB at sb
    rw [Bool.and_eq_true, decide_eq_true_eq, List.all_eq_true] at sb
    obtain ⟨t, tb, ta, ht⟩ := h2 a b ha.1 hb.1 ((ml a).mp ha.2).2 ((ml b).mp hb.2).2 sb.1
    have := sb.2 t (List.mem_filter.mpr ⟨tb, by simpa using ta⟩)
    have tv := (ev_vd n hn b hb.1).2 t tb
    have : ins t a ∉ lots := by simpa using this
    exact this ((ml _).mpr ⟨ev_ins n hn a ha.1 t tv.1 (by simp [ta, tv.2.2]), ht⟩)
  unfold fault
  rw [f1, f2]
end
/-! few things -/
theorem less_len : ∀ (m : Lot) (t : Int), (less m t).length ≤ m.length := fun m t => List.length_filter_le _ _
theorem ins_perm (t : Int) : ∀ l, (ins t l).Perm (t :: l)
  | [] => .refl _
  | x :: l => by
    unfold ins
    split
    · exact .refl _
    · exact ((ins_perm t l).cons x).trans (.swap t x l)
theorem house0 {n : Nat} (hn : n ≤ 5) {lots : List Lot} (k : Nat) (ml : ∀ l, l ∈ lots ↔ l ∈ ev n ∧ l.length ≤ k) : fault n lots = .none := by
  refine house_ok hn (H := fun l => l.length ≤ k) ml (Nat.zero_le _) (fun m t _ _ h => Nat.le_trans (less_len m t) h) fun a b ha hb h1 h2 lt => ?_
  obtain ⟨t, tb, ta⟩ := more_of a (ev_sub n hn a ha) b (ev_sub n hn b hb) lt
  refine ⟨t, tb, ta, ?_⟩
  rw [(ins_perm t a).length_eq, List.length_cons]
  omega
/-! kinds -/
def cnt (kd : Int → Int) (k : Int) (l : Lot) : Nat := (l.filter fun t => decide (kd t = k)).length
theorem cnt_perm {kd : Int → Int} {k : Int} {a b : Lot} (p : a.Perm b) : cnt kd k a = cnt kd k b := (p.filter _).length_eq
theorem cnt_cons {kd : Int → Int} {k t : Int} {a : Lot} : cnt kd k (t :: a) = cnt kd k a + if kd t = k then 1 else 0 := by
  unfold cnt
  rw [List.filter_cons]
  by_cases h : kd t = k
  · simp [h]
  · simp [h]
theorem cnt_sum {kd : Int → Int} : ∀ {l : Lot}, (∀ t ∈ l, kd t = 0 ∨ kd t = 1 ∨ kd t = 2) → l.length = cnt kd 0 l + cnt kd 1 l + cnt kd 2 l
  | [], _ => rfl
  | t :: l, h => by
    rw [cnt_cons, cnt_cons, cnt_cons, List.length_cons, cnt_sum fun x hx => h x (List.mem_cons_of_mem _ hx)]
    rcases h t (List.mem_cons_self ..) with e | e | e <;> rw [e] <;> simp <;> omega
theorem nd_le : ∀ {b a : Lot}, b.Nodup → (∀ x ∈ b, x ∈ a) → b.length ≤ a.length
  | [], _, _, _ => Nat.zero_le _
  | x :: b, a, nd, h => by
    rw [List.nodup_cons] at nd
    have hx := h x (List.mem_cons_self ..)
    have := nd_le (b := b) (a := a.erase x) nd.2 fun y hy => (List.mem_erase_of_ne fun e => nd.1 (by rw [← e]; exact hy)).mpr (h y (List.mem_cons_of_mem _ hy))
    rw [List.length_erase_of_mem hx] at this
    have : 0 < a.length := List.length_pos_of_mem hx
    rw [List.length_cons]
    omega
theorem house1 {n : Nat} (hn : n ≤ 5) {lots : List Lot} (kd : Int → Int) (cp : Int → Int) (hk : ∀ t, kd t = 0 ∨ kd t = 1 ∨ kd t = 2) (c0 : ∀ k, 0 ≤ cp k) (ml : ∀ l, l ∈ lots ↔ l ∈ ev n ∧ ∀ k, k = 0 ∨ k = 1 ∨ k = 2 → (cnt kd k l : Int) ≤ cp k) : fault n lots = .none := by
  refine house_ok hn (H := fun l => ∀ k, k = 0 ∨ k = 1 ∨ k = 2 → (cnt kd k l : Int) ≤ cp k) ml (fun k _ => c0 k) (fun m t _ _ h k hk => ?_) fun a b ha hb h1 h2 lt => ?_
  · have := h k hk
    have l : cnt kd k (less m t) ≤ cnt kd k m := by
      unfold cnt less
      rw [List.filter_filter]
      have : (m.filter fun x => decide (kd x = k) && decide (x ≠ t)) = (m.filter fun x => decide (kd x = k)).filter fun x => decide (x ≠ t) := by
        rw [List.filter_filter]
        exact congrArg (fun f => m.filter f) (funext fun x => Bool.and_comm _ _)
      rw [this]
      exact List.length_filter_le _ _
    omega
  · refine Classical.byContradiction fun no => ?_
    have nb : b.Nodup := (ev_vd n hn b hb).1.imp fun h e => by omega
    have all : ∀ k, k = 0 ∨ k = 1 ∨ k = 2 → cnt kd k b ≤ cnt kd k a := by
      intro k hk'
      by_cases z : ∃ t ∈ b, t ∉ a ∧ kd t = k
      · obtain ⟨t, tb, ta, e⟩ := z
        have : ¬ ∀ j, j = 0 ∨ j = 1 ∨ j = 2 → (cnt kd j (ins t a) : Int) ≤ cp j := fun y => no ⟨t, tb, ta, y⟩
        have : cp k < cnt kd k a + 1 := by
          refine Classical.byContradiction fun y => this fun j hj => ?_
          rw [cnt_perm (ins_perm t a), cnt_cons]
          by_cases ej : kd t = j
          · rw [if_pos ej]
            rw [e] at ej
            subst ej
            omega
          · rw [if_neg ej]
            have := h1 j hj
            omega
        have := h2 k hk'
        omega
      · unfold cnt
        refine nd_le (nb.filter _) fun x hx => ?_
        rw [List.mem_filter, decide_eq_true_eq] at hx ⊢
        refine ⟨Classical.byContradiction fun y => z ⟨x, hx.1, y, hx.2⟩, hx.2⟩
    have s1 := cnt_sum (kd := kd) (l := a) fun t _ => hk t
    have s2 := cnt_sum (kd := kd) (l := b) fun t _ => hk t
    have a0 := all 0 (.inl rfl)
    have a1 := all 1 (.inr (.inl rfl))
    have a2 := all 2 (.inr (.inr rfl))
    omega
end M61

set_option Elab.async false
set_option linter.all false
set_option maxRecDepth 100000
set_option maxHeartbeats 8000000
/-! k61: free vectors by Gram's determinants, ties without rings -/
namespace M61
/-- the determinant, along the first row -/
def det : Nat → List (List Int) → Int
  | _, [] => 1
  | 0, _ => 0
  | k + 1, r :: rs => ((List.range r.length).map fun j => (if j % 2 = 0 then 1 else -1) * r.getD j 0 * det k (rs.map fun q => q.eraseIdx j)).sum
def dot (u v : List Int) : Int := (List.zipWith (· * ·) u v).sum
def gram (vs : List (List Int)) : List (List Int) := vs.map fun u => vs.map fun v => dot u v
def free (vs : List (List Int)) : Bool := decide (det vs.length (gram vs) ≠ 0)
/-! in three coordinates -/
structure Vec where
  x : Int
  y : Int
  z : Int
def dt (u v : Vec) : Int := u.x * v.x + u.y * v.y + u.z * v.z
def G1 (u : Vec) : Int := dt u u
def G2 (u v : Vec) : Int := dt u u * dt v v - dt u v * dt u v
def G3 (u v w : Vec) : Int := u.x * (v.y * w.z - v.z * w.y) - u.y * (v.x * w.z - v.z * w.x) + u.z * (v.x * w.y - v.y * w.x)
def vl (u : Vec) : List Int := [u.x, u.y, u.z]
/-- of w coordinates, the others nought -/
def In (w : Nat) (u : Vec) (l : List Int) : Prop := (w = 1 ∧ u.y = 0 ∧ u.z = 0 ∧ l = [u.x]) ∨ (w = 2 ∧ u.z = 0 ∧ l = [u.x, u.y]) ∨ (w = 3 ∧ l = [u.x, u.y, u.z])
theorem dot_dt {w : Nat} {u v : Vec} {l m : List Int} (h : In w u l) (k : In w v m) : dot l m = dt u v := by
  unfold dot dt
  rcases h with ⟨e, h1, h2, rfl⟩ | ⟨e, h1, rfl⟩ | ⟨e, rfl⟩
  · subst e
    rcases k with ⟨e, k1, k2, rfl⟩ | ⟨e, k1, rfl⟩ | ⟨e, rfl⟩
    · rw [h1, h2]; simp
    · cases e
    · cases e
  · subst e
    rcases k with ⟨e, k1, k2, rfl⟩ | ⟨e, k1, rfl⟩ | ⟨e, rfl⟩
    · cases e
    · rw [h1]; simp
    · cases e
  · subst e
    rcases k with ⟨e, k1, k2, rfl⟩ | ⟨e, k1, rfl⟩ | ⟨e, rfl⟩
    · cases e
    · cases e
    · simp; omega
theorem det1 (a : Int) : det 1 [[a]] = a := by simp [det, List.range, List.range.loop]
theorem det2 (a b c d : Int) : det 2 [[a, b], [c, d]] = a * d - b * c := by
  simp [det, List.range, List.range.loop]
  grind
theorem det3 (a b c d e f g h i : Int) : det 3 [[a, b, c], [d, e, f], [g, h, i]] = a * (e * i - f * h) - b * (d * i - f * g) + c * (d * h - e * g) := by
  simp [det, List.range, List.range.loop]
  grind
theorem free0 : free [] = true := by decide
theorem free1 {w : Nat} {u : Vec} {l : List Int} (h : In w u l) : free [l] = decide (G1 u ≠ 0) := by
  unfold free gram G1
  simp only [List.map_cons, List.map_nil, List.length_cons, List.length_nil]
  rw [dot_dt h h, det1]
theorem free2 {w : Nat} {u v : Vec} {l m : List Int} (h : In w u l) (k : In w v m) : free [l, m] = decide (G2 u v ≠ 0) := by
  unfold free gram G2
  simp only [List.map_cons, List.map_nil, List.length_cons, List.length_nil]
  rw [dot_dt h h, dot_dt h k, dot_dt k h, dot_dt k k, det2, show dt v u = dt u v by unfold dt; grind]
theorem gram3 (u v w : Vec) : dt u u * (dt v v * dt w w - dt v w * dt w v) - dt u v * (dt v u * dt w w - dt v w * dt w u) + dt u w * (dt v u * dt w v - dt v v * dt w u) = G3 u v w * G3 u v w := by
  unfold dt G3
  grind
theorem free3 {n : Nat} {u v w : Vec} {l m o : List Int} (h : In n u l) (k : In n v m) (j : In n w o) : free [l, m, o] = decide (G3 u v w ≠ 0) := by
  unfold free gram
  simp only [List.map_cons, List.map_nil, List.length_cons, List.length_nil]
  rw [dot_dt h h, dot_dt h k, dot_dt h j, dot_dt k h, dot_dt k k, dot_dt k j, dot_dt j h, dot_dt j k, dot_dt j j, det3, gram3]
  have : (G3 u v w * G3 u v w ≠ 0) ↔ (G3 u v w ≠ 0) := by
    rw [ne_eq, ne_eq, Int.mul_eq_zero, or_self]
  exact decide_eq_decide.mpr this
/-! what is free -/
theorem sqn (a : Int) : 0 ≤ a * a := by
  rcases Int.le_total 0 a with h | h
  · exact Int.mul_nonneg h h
  · exact Int.mul_nonneg_of_nonpos_of_nonpos h h
theorem sqz {a : Int} (h : a * a = 0) : a = 0 := by
  rcases Int.mul_eq_zero.mp h with h | h <;> exact h
theorem sq3 {a b c : Int} (h : a * a + b * b + c * c = 0) : a = 0 ∧ b = 0 ∧ c = 0 := by
  have ha := sqn a
  have hb := sqn b
  have hc := sqn c
  have a0 : a * a = 0 := by omega
  have b0 : b * b = 0 := by omega
  have c0 : c * c = 0 := by omega
  exact ⟨sqz a0, sqz b0, sqz c0⟩
theorem G1_0 {u : Vec} (h : G1 u = 0) : u.x = 0 ∧ u.y = 0 ∧ u.z = 0 := sq3 h
theorem G2_0 {u v : Vec} (h : G2 u v = 0) : u.y * v.z - u.z * v.y = 0 ∧ u.z * v.x - u.x * v.z = 0 ∧ u.x * v.y - u.y * v.x = 0 := by
  refine sq3 ?_
  rw [← h]
  unfold G2 dt
  grind
theorem G2_of {u v : Vec} (h1 : u.y * v.z - u.z * v.y = 0) (h2 : u.z * v.x - u.x * v.z = 0) (h3 : u.x * v.y - u.y * v.x = 0) : G2 u v = 0 := by
  have : G2 u v = (u.y * v.z - u.z * v.y) * (u.y * v.z - u.z * v.y) + (u.z * v.x - u.x * v.z) * (u.z * v.x - u.x * v.z) + (u.x * v.y - u.y * v.x) * (u.x * v.y - u.y * v.x) := by
    unfold G2 dt
    grind
  rw [this, h1, h2, h3]
  rfl
theorem G2_sym (u v : Vec) : G2 u v = G2 v u := by unfold G2 dt; grind
theorem G2_self (u : Vec) : G2 u u = 0 := by unfold G2; grind
theorem G2_l {u v : Vec} (h : G2 u v ≠ 0) : G1 u ≠ 0 := fun z => h (by
  obtain ⟨a, b, c⟩ := G1_0 z
  exact G2_of (by rw [b, c]; grind) (by rw [a, c]; grind) (by rw [a, b]; grind))
theorem G2_r {u v : Vec} (h : G2 u v ≠ 0) : G1 v ≠ 0 := G2_l (by rw [G2_sym]; exact h)
theorem G3_uv {u v w : Vec} (h : G3 u v w ≠ 0) : G2 u v ≠ 0 := fun z => h (by
  obtain ⟨a, b, c⟩ := G2_0 z
  have : G3 u v w = (u.y * v.z - u.z * v.y) * w.x + (u.z * v.x - u.x * v.z) * w.y + (u.x * v.y - u.y * v.x) * w.z := by unfold G3; grind
  rw [this, a, b, c]
  grind)
theorem G3_sw2 (u v w : Vec) : G3 u v w = -G3 u w v := by unfold G3; grind
theorem G3_rot (u v w : Vec) : G3 u v w = G3 v w u := by unfold G3; grind
theorem G3_sw (u v w : Vec) : G3 u v w = -G3 v u w := by unfold G3; grind
theorem G3_vw {u v w : Vec} (h : G3 u v w ≠ 0) : G2 v w ≠ 0 := G3_uv (w := u) (by rw [← G3_rot]; exact h)
theorem G3_uw {u v w : Vec} (h : G3 u v w ≠ 0) : G2 u w ≠ 0 := by
  have := G3_vw (u := v) (v := u) (w := w) (fun z => h (by rw [G3_sw, z]; rfl))
  exact this
/-- one and two -/
theorem ex12 {s t u : Vec} (h : G1 s ≠ 0) (k : G2 t u ≠ 0) : G2 s t ≠ 0 ∨ G2 s u ≠ 0 := by
  refine Classical.byContradiction fun no => ?_
  have n1 : G2 s t = 0 := Classical.byContradiction fun z => no (.inl z)
  have n2 : G2 s u = 0 := Classical.byContradiction fun z => no (.inr z)
  obtain ⟨a1, a2, a3⟩ := G2_0 n1
  obtain ⟨b1, b2, b3⟩ := G2_0 n2
  refine k ?_
  have key : ∀ p q : Int, p ≠ 0 → p * q = 0 → q = 0 := fun p q hp e => (Int.mul_eq_zero.mp e).resolve_left hp
  by_cases sx : s.x = 0
  · by_cases sy : s.y = 0
    · have sz : s.z ≠ 0 := fun z => h (by unfold G1 dt; rw [sx, sy, z]; rfl)
      exact G2_of (key s.z _ sz (by grind)) (key s.z _ sz (by grind)) (key s.z _ sz (by grind))
    · exact G2_of (key s.y _ sy (by grind)) (key s.y _ sy (by grind)) (key s.y _ sy (by grind))
  · exact G2_of (key s.x _ sx (by grind)) (key s.x _ sx (by grind)) (key s.x _ sx (by grind))
/-- two and three -/
theorem ex23 {s r t u v : Vec} (h : G2 s r ≠ 0) (k : G3 t u v ≠ 0) : G3 s r t ≠ 0 ∨ G3 s r u ≠ 0 ∨ G3 s r v ≠ 0 := by
  refine Classical.byContradiction fun no => ?_
  have n1 : G3 s r t = 0 := Classical.byContradiction fun z => no (.inl z)
  have n2 : G3 s r u = 0 := Classical.byContradiction fun z => no (.inr (.inl z))
  have n3 : G3 s r v = 0 := Classical.byContradiction fun z => no (.inr (.inr z))
  have e : ∀ q, G3 s r q = (s.y * r.z - s.z * r.y) * q.x + (s.z * r.x - s.x * r.z) * q.y + (s.x * r.y - s.y * r.x) * q.z := fun q => by unfold G3; grind
  rw [e] at n1 n2 n3
  have key : ∀ p q : Int, p ≠ 0 → p * q = 0 → q = 0 := fun p q hp e => (Int.mul_eq_zero.mp e).resolve_left hp
  have cr : ∀ a b c : Int, a * t.x + b * t.y + c * t.z = 0 → a * u.x + b * u.y + c * u.z = 0 → a * v.x + b * v.y + c * v.z = 0 → a * G3 t u v = 0 ∧ b * G3 t u v = 0 ∧ c * G3 t u v = 0 := fun a b c h1 h2 h3 => by
    have i1 : a * G3 t u v = (a * t.x + b * t.y + c * t.z) * (u.y * v.z - u.z * v.y) + (a * u.x + b * u.y + c * u.z) * (v.y * t.z - v.z * t.y) + (a * v.x + b * v.y + c * v.z) * (t.y * u.z - t.z * u.y) := by unfold G3; grind
    have i2 : b * G3 t u v = (a * t.x + b * t.y + c * t.z) * (u.z * v.x - u.x * v.z) + (a * u.x + b * u.y + c * u.z) * (v.z * t.x - v.x * t.z) + (a * v.x + b * v.y + c * v.z) * (t.z * u.x - t.x * u.z) := by unfold G3; grind
    have i3 : c * G3 t u v = (a * t.x + b * t.y + c * t.z) * (u.x * v.y - u.y * v.x) + (a * u.x + b * u.y + c * u.z) * (v.x * t.y - v.y * t.x) + (a * v.x + b * v.y + c * v.z) * (t.x * u.y - t.y * u.x) := by unfold G3; grind
    rw [i1, i2, i3, h1, h2, h3]
    simp
  obtain ⟨c1, c2, c3⟩ := cr _ _ _ n1 n2 n3
  refine h (G2_of ?_ ?_ ?_)
  · exact Classical.byContradiction fun z => k (key _ _ z c1)
  · exact Classical.byContradiction fun z => k (key _ _ z c2)
  · exact Classical.byContradiction fun z => k (key _ _ z c3)
/-! the house of free vectors -/
/-- w coordinates: lots of at most w things whose vectors are free -/
def FreeL (w : Nat) (V : Int → Vec) : Lot → Prop
  | [] => True
  | [s] => 1 ≤ w ∧ G1 (V s) ≠ 0
  | [s, t] => 2 ≤ w ∧ G2 (V s) (V t) ≠ 0
  | [s, t, u] => 3 ≤ w ∧ G3 (V s) (V t) (V u) ≠ 0
  | _ => False
theorem ins1 (V : Int → Vec) {w : Nat} {s t : Int} (h : 2 ≤ w) (k : G2 (V s) (V t) ≠ 0) : t ∉ [s] ∧ FreeL w V (ins t [s]) := by
  refine ⟨fun z => ?_, ?_⟩
  · rw [List.mem_singleton.mp z] at k
    exact k (G2_self _)
  · unfold ins
    split
    · exact ⟨h, by rw [G2_sym]; exact k⟩
    · exact ⟨h, k⟩
theorem G3_13 {u v : Vec} : G3 u v u = 0 := by unfold G3; grind
theorem G3_23 {u v : Vec} : G3 u v v = 0 := by unfold G3; grind
theorem insr (V : Int → Vec) {w : Nat} {s r t : Int} (h : 3 ≤ w) (k : G3 (V s) (V r) (V t) ≠ 0) : t ∉ [s, r] ∧ FreeL w V (ins t [s, r]) := by
  refine ⟨fun z => ?_, ?_⟩
  · rcases List.mem_cons.mp z with e | e
    · rw [e] at k
      exact k G3_13
    · rw [List.mem_singleton.mp e] at k
      exact k G3_23
  · unfold ins
    split
    · exact ⟨h, by rw [G3_rot]; exact k⟩
    · unfold ins
      split
      · exact ⟨h, fun z => k (by rw [G3_sw2, z]; rfl)⟩
      · exact ⟨h, k⟩
theorem filter3 {s t u x : Int} {p : Prop} (V : Int → Vec) {w : Nat} (h : FreeL w V [s, t, u]) (m : (less [s, t, u] x).length ≤ 2) : FreeL w V (less [s, t, u] x) := by
  obtain ⟨h, k⟩ := h
  have e1 := G3_uv k
  have e2 := G3_vw k
  have e3 := G3_uw k
  unfold less at m ⊢
  by_cases a : s = x <;> by_cases b : t = x <;> by_cases c : u = x <;> simp [List.filter_cons, a, b, c] at m ⊢
  · trivial
  · exact ⟨by omega, G2_r e2⟩
  · exact ⟨by omega, G2_l e2⟩
  · exact ⟨by omega, e2⟩
  · exact ⟨by omega, G2_l e1⟩
  · exact ⟨by omega, e3⟩
  · exact ⟨by omega, e1⟩
theorem house2 {n : Nat} (hn : n ≤ 5) {lots : List Lot} (w : Nat) (V : Int → Vec) (ml : ∀ l, l ∈ lots ↔ l ∈ ev n ∧ FreeL w V l) : fault n lots = .none := by
  refine house_ok hn ml trivial (fun m t hm ht h => ?_) fun a b ha hb h1 h2 lt => ?_
  · match m, h with
    | [], _ => cases ht
    | [s], h =>
      rw [List.mem_singleton] at ht
      subst ht
      simp [less]
      trivial
    | [s, r], ⟨h, k⟩ =>
      have e1 := G2_l k
      have e2 := G2_r k
      unfold less
      by_cases a : s = t <;> by_cases b : r = t <;> simp [List.filter_cons, a, b]
      · trivial
      · exact ⟨by omega, e2⟩
      · exact ⟨by omega, e1⟩
      · rcases List.mem_cons.mp ht with e | e
        · exact absurd e.symm a
        · exact absurd (List.mem_singleton.mp e).symm b
    | [s, r, u], h =>
      refine filter3 (p := True) V h ?_
      have := less_near [s, r, u] (ev_sub n hn _ hm) t ht
      unfold near at this
      rw [Bool.and_eq_true, decide_eq_true_eq] at this
      simp only [List.length_cons, List.length_nil] at this
      omega
    | _ :: _ :: _ :: _ :: _, h => cases h
  · match a, h1, b, h2 with
    | [], _, [], _ => simp at lt
    | [], _, [t], h => exact ⟨t, by simp, by simp, h⟩
    | [], _, [t, u], ⟨h, k⟩ => exact ⟨t, by simp, by simp, by omega, G2_l k⟩
    | [], _, [t, u, v], ⟨h, k⟩ => exact ⟨t, by simp, by simp, by omega, G2_l (G3_uv k)⟩
    | [s], _, [], _ => simp at lt
    | [s], _, [_], _ => simp at lt
    | [s], ⟨h1, k1⟩, [t, u], ⟨h, k⟩ =>
      rcases ex12 k1 k with e | e
      · exact ⟨t, by simp, ins1 V h e⟩
      · exact ⟨u, by simp, ins1 V h e⟩
    | [s], ⟨h1, k1⟩, [t, u, v], ⟨h, k⟩ =>
      rcases ex12 k1 (G3_uv k) with e | e
      · exact ⟨t, by simp, ins1 V (by omega) e⟩
      · exact ⟨u, by simp, ins1 V (by omega) e⟩
    | [s, r], _, [], _ => simp at lt
    | [s, r], _, [_], _ => simp at lt
    | [s, r], _, [_, _], _ => simp at lt
    | [s, r], ⟨h1, k1⟩, [t, u, v], ⟨h, k⟩ =>
      rcases ex23 k1 k with e | e | e
      · exact ⟨t, by simp, insr V h e⟩
      · exact ⟨u, by simp, insr V h e⟩
      · exact ⟨v, by simp, insr V h e⟩
    | [_, _, _], _, [], _ => simp at lt
    | [_, _, _], _, [_], _ => simp at lt
    | [_, _, _], _, [_, _], _ => simp at lt
    | [_, _, _], _, [_, _, _], _ => simp at lt
    | _ :: _ :: _ :: _ :: _, h, _, _ => cases h
    | _, _, _ :: _ :: _ :: _ :: _, h => cases h
/-! ties -/
abbrev Tie := Int × Int
def five : List Tie := [(0, 1), (0, 2), (1, 2), (1, 3), (2, 3)]
def vec (p : Int) : Vec := ⟨if p = 1 then 1 else 0, if p = 2 then 1 else 0, if p = 3 then 1 else 0⟩
def tv (p : Tie) : Vec := ⟨(vec p.1).x - (vec p.2).x, (vec p.1).y - (vec p.2).y, (vec p.1).z - (vec p.2).z⟩
def melt (ms : List Int) (p : Tie) : List Int := ms.map fun m => if m = ms.getD p.2.toNat 0 then ms.getD p.1.toNat 0 else m
def noRing : List Int → List Tie → Bool
  | _, [] => true
  | ms, p :: ps => if ms.getD p.1.toNat 0 = ms.getD p.2.toNat 0 then false else noRing (melt ms p) ps
abbrev four : List Int := [0, 1, 2, 3]
theorem ring1 : ∀ p ∈ five, noRing four [p] = decide (G1 (tv p) ≠ 0) := by decide +kernel
theorem ring2 : ∀ p ∈ five, ∀ q ∈ five, noRing four [p, q] = decide (G2 (tv p) (tv q) ≠ 0) := by decide +kernel
theorem ring3 : ∀ p ∈ five, ∀ q ∈ five, ∀ r ∈ five, noRing four [p, q, r] = decide (G3 (tv p) (tv q) (tv r) ≠ 0) := by decide +kernel
theorem ring4 : ∀ p ∈ five, ∀ q ∈ five, ∀ r ∈ five, ∀ s ∈ five, noRing four [p, q, r, s] = false := by decide +kernel
theorem ring_app : ∀ (ps qs : List Tie) (ms : List Int), noRing ms ps = false → noRing ms (ps ++ qs) = false
  | [], _, _, h => by simp [noRing] at h
  | p :: ps, qs, ms, h => by
    unfold noRing at h
    rw [List.cons_append]
    unfold noRing
    split
    · rfl
    · rename_i c
      rw [if_neg c] at h
      exact ring_app ps qs _ h
theorem ring_free (ps : Int → Tie) (h5 : ∀ t, ps t ∈ five) : ∀ l : Lot, noRing four (l.map ps) = true ↔ FreeL 3 (fun t => tv (ps t)) l
  | [] => ⟨fun _ => trivial, fun _ => rfl⟩
  | [s] => by
    rw [show [s].map ps = [ps s] from rfl, ring1 _ (h5 s), decide_eq_true_eq]
    exact ⟨fun h => ⟨by decide, h⟩, fun h => h.2⟩
  | [s, t] => by
    rw [show [s, t].map ps = [ps s, ps t] from rfl, ring2 _ (h5 s) _ (h5 t), decide_eq_true_eq]
    exact ⟨fun h => ⟨by decide, h⟩, fun h => h.2⟩
  | [s, t, u] => by
    rw [show [s, t, u].map ps = [ps s, ps t, ps u] from rfl, ring3 _ (h5 s) _ (h5 t) _ (h5 u), decide_eq_true_eq]
    exact ⟨fun h => ⟨by decide, h⟩, fun h => h.2⟩
  | s :: t :: u :: v :: l => by
    rw [show (s :: t :: u :: v :: l).map ps = [ps s, ps t, ps u, ps v] ++ l.map ps from rfl, ring_app _ _ _ (ring4 _ (h5 s) _ (h5 t) _ (h5 u) _ (h5 v))]
    exact ⟨fun h => (by cases h), fun h => (by cases h)⟩
end M61

set_option Elab.async false
set_option linter.all false
set_option maxRecDepth 100000
set_option maxHeartbeats 2000000
/-! the law's own call, of a def whose promise asks that the guards are known -/
namespace DL
open PySem PySem.Spec PyProof.Rows L2
/-- what is tracked when the law is called: the script alone, and that only where it is no object of the module -/
def given (K : PySem.W.Frag) (a : Addr) (o : Obj) (ns : List Int) : Hp := fun b => if b = a ∧ K.lookup a = none then some (.frz o (.lst (ns.map V.int))) else none
theorem given_is {K : PySem.W.Frag} {a b : Addr} {o : Obj} {ns : List Int} {u : HO} (h : given K a o ns b = some u) : b = a ∧ K.lookup a = none ∧ u = .frz o (.lst (ns.map V.int)) := by
  unfold given at h
  by_cases c : b = a ∧ K.lookup a = none
  · rw [if_pos c] at h
    exact ⟨c.1, c.2, (Option.some.inj h).symm⟩
  · rw [if_neg c] at h
    cases h
theorem law_gn {P : Program} {w : World} {K : PySem.W.Frag} {mg mb : Str → Option Value} {k : Nat} {fa a : Addr} {fd : FuncData} {x : Str} {sp : SpG} {t : Shared} {vs : List Value} {ns : List Int}
    (kin : K.In t.heap) (glob : t.heap.Ns mainGlobals mg) (bl : t.heap.Ns builtinsNs mb) (boot : ∀ x : Str, x ≠ "__name__" → mb x = bootBuiltins x) (lim : t.heap.NoLimit) (gens : t.gens = #[])
    (script : t.heap.get? a = some { cls := .type "list", data := .seq vs.toArray }) (iv : IntsAre vs ns) (len : ns.length ≤ sizeLine) (room : Room k callerA)
    (F : ∀ base : Heap, K.In base → base.Ns mainGlobals mg → GnOk P w K mg base k fa fd [x] sp) (bind : ∀ (s : Shared) (u : Value), BindsTo s fd ⟨[u], []⟩ [(x, u)])
    (q : ∀ H : Hp, SqL K H a (ns.map V.int) → sp [] [.ref a] H fun v _ => v = .bl true) :
    codeAny (model P w) callerA (.call (.ref fa) ⟨[.ref a], []⟩) (fun r s' => r = .ok (.ret (.bool true)) ∧ OldK t.heap s'.heap ∧ s'.os = t.os ∧ AllBare s'.gens) t := by
  have rel : Vals (ns.map V.int) vs := vals_ints iv
  obtain ⟨H, eH⟩ : ∃ H, H = given K a { cls := .type "list", data := .seq vs.toArray } ns := ⟨_, rfl⟩
  have one : ∀ {b : Addr} {u : HO}, H b = some u → b = a ∧ K.lookup a = none ∧ u = .frz { cls := .type "list", data := .seq vs.toArray } (.lst (ns.map V.int)) := fun {b u} e => given_is (by rw [← eH]; exact e)
  -- what is tracked is no dict and nothing of the module
  have untracked : ∀ {b : Addr}, (b = a → K.lookup a = none → False) → H b = none := fun {b} n => by
    cases e : H b with
    | none => rfl
    | some u => exact (n (one e).1 (one e).2.1).elim
  have inBase : ∀ {b : Addr} {o : Obj}, t.heap.get? b = some o → (b = a → K.lookup a = none → False) → (hidT t.heap H).get? b = some o := fun e n => hidT_get e (untracked n)
  have dict : ∀ {b : Addr} {m : Str → Option Value}, t.heap.Ns b m → (hidT t.heap H).Ns b m := fun {b m} ⟨o, es, n, e, d, r⟩ => ⟨o, es, n, inBase e (fun z _ => by
    rw [z, script] at e
    cases e
    exact nomatch (show Data.seq vs.toArray _ = Data.dict es n from d)), d, r⟩
  have kin' : K.In (hidT t.heap H) := fun b o e => inBase (kin b o e) fun z n => by rw [z, n] at e; cases e
  have hold : HOk P w H t.heap := fun b u e => by
    obtain ⟨rfl, _, rfl⟩ := one e
    exact ⟨script, by rw [List.length_map]; exact len, vs, _, rel, script⟩
  have seq : SqL K H a (ns.map V.int) := by
    cases c : K.lookup a with
    | none => exact .inl (.inr ⟨{ cls := .type "list", data := .seq vs.toArray }, by rw [eH]; exact if_pos ⟨rfl, c⟩⟩)
    | some o =>
      have e := kin a o c
      rw [script] at e
      cases e
      exact .inr ⟨_, vs.toArray, _, c, rfl, rfl, rfl, by rw [List.size_toArray, iv.length]; exact len, rel⟩
  have md : Mod K mg (hidT t.heap H) := ⟨kin', dict glob, ⟨mb, dict bl, boot⟩, let ⟨mc, h1, h2⟩ := lim; ⟨mc, dict h1, h2⟩⟩
  have env : Env0 P w K mg (hidT t.heap H) callerA [] t H := ⟨rfl, md, fun b o e => of_hidT e, Nat.le_of_eq (hidT_size _ _), trivial, fun b z => absurd (show b ∈ ([] : List Addr) from z) List.not_mem_nil, hold, .of_eq gens⟩
  refine codeAny_mono ((F _ kin' (dict glob)).run callerA [] [] t H ⟨[.ref a], []⟩ [.ref a] [.ref a] _ room rfl env (bind t (.ref a)) (.cons rfl .nil) (q H seq)) fun r s' back => ?_
  match r, back with
  | .error e, back => exact back.elim
  | .ok (.ret u), ⟨v, H', os, bare, un, hold', ru, ev⟩ =>
    have ev' : v = .bl true := ev
    subst ev'
    obtain rfl : u = Value.bool true := ru
    refine ⟨rfl, OldK.of_keep fun b o e => ?_, os, bare⟩
    cases c : H b with
    | none => exact un.keep b o e c (fun z => absurd (show b ∈ ([] : List Addr) from z) List.not_mem_nil) List.not_mem_nil
    | some u =>
      obtain ⟨rfl, _, rfl⟩ := one c
      have after := (hold' _ _ (un.frzs _ _ _ c)).1
      rw [script] at e
      cases e
      exact after
/-- the goal that the head of an open law leaves, from the law's promise -/
theorem walk_gn {l : PySem.W.OpenLaw} {n k : Nat} {q : Program} {loose : List Str} {XP : (Str → Option Value) → Heap → Prop} {YP : World → Heap → Prop} {d : DefRec} {K : Params → PySem.W.Frag} {sp : World → SpG} {x : Str}
    (hn : l.most = some n) (hn2 : n ≤ sizeLine) (hdf : d.params.defaults = []) (hr : Room k callerA) (hY : ∀ (w : World) (h : Heap), YP w h → (K w.params).In h)
    (F : ∀ (w : World) (mg : Str → Option Value) (fa : Addr) (h : Heap), (K w.params).In h → h.Ns mainGlobals mg → mg d.name = some (.ref fa) →
      ∃ fd : FuncData, (∀ (s : Shared) (u : Value), BindsTo s fd ⟨[u], []⟩ [(x, u)]) ∧ ∀ base : Heap, (K w.params).In base → base.Ns mainGlobals mg → GnOk l.prog w (K w.params) mg base k fa fd [x] (sp w))
    (hsp : ∀ (w : World) (H : Hp) (a : Addr) (ns : List Int), ns.length ≤ n → SqL (K w.params) H a (ns.map V.int) → sp w [] [.ref a] H fun v _ => v = .bl true) :
    PySem.W.WalkO q loose XP YP l.row.toRowW d [] (fun f vs => PySem.call f vs) :=
  Att.attach_call hn hdf fun w s₀ s₁ mg mb fa o pm cd doc a vs ns G Y ho hd hcd hmg hobj hints hlen hg =>
    let ⟨fd, hb, hF⟩ := F w mg fa _ (hY w _ Y) G.T.g hmg
    law_gn (hY w _ Y) G.T.g G.T.b G.T.builtins G.T.nolimit hg hobj hints (Nat.le_trans hlen hn2) hr hF hb fun H hS => hsp w H a ns hlen hS
end DL

set_option Elab.async false
set_option linter.all false
set_option maxRecDepth 100000
set_option maxHeartbeats 2000000
/-! k61: the text by places, what its module knows -/
namespace K61
open PySem L2 DL M61
def top (i : Nat) : Stmt := PySem.Challenge.pw_onecrest_k61_whole_lots_judged.main.body.getD i (.Pass ⟨0, 0, 0, 0⟩)
end K61

set_option Elab.async false
set_option linter.all false
set_option maxRecDepth 100000
set_option maxHeartbeats 4000000
/-! name = [comprehension], told by functions; dict comprehensions told by functions -/
namespace DL
open PySem PySem.Spec PyProof.Rows L2
section
variable {X : Cx} {B : Hp} {W0 : Wd} {S : En} {pos : Pos} {E : Ends'}
theorem lc_LI {elt iter c : Expr} {scope : Scope} {own : List (Str × Nat)} {g : TG} {l : List D} {Q : List D → Prop} (J : Nat → List D → Prop) (S' : D → En)
    (h : ED X B S iter fun d => d = .lst l ∧ l.length ≤ 50000 ∧ J 0 []) (hp : ∀ d ∈ l, Pat X.K g (own.map (·.2)) S d (S' d))
    (he : ∀ (i : Nat) d acc, l[i]? = some d → acc.length ≤ i → J i acc → ∀ (s : Shared) (H0 : Hp) (C : Addr) (cl : List (Str × Addr)) (fp : List Addr), TD (X.blk s H0 scope (compEnvC scope cl C X.env) fp) B (S' d) c fun b =>
      if b = true then ∀ (s : Shared) (H0 : Hp) (C : Addr) (cl : List (Str × Addr)) (fp : List Addr), ED (X.blk s H0 scope (compEnvC scope cl C X.env) fp) B (S' d) elt fun y => J (i + 1) (acc ++ [y]) else J (i + 1) acc)
    (hd : ∀ acc, acc.length ≤ l.length → J l.length acc → Q acc) : LC X B S (tLc (iList X.K (WE X iter)) g (WTb X scope c) (WEb X scope elt) (own.map (·.2))) Q := fun σ W H r R k => by
  refine h σ W H r _ fun d v W1 H1 s1 ok1 n1 q1 => ?_
  obtain ⟨rfl, hz, j0⟩ := q1
  cases n1 with
  | @lst _ a xs ha m =>
    refine ⟨a, rfl, ⟨xs, SqL.of (ok1.ex _ _ ha)⟩, fun p hp0 => ?_⟩
    have r1 := r.step s1 ok1
    refine lc_list (K := X.K) (a := a) (xs := xs) (fun i H' => ∃ acc W', Mid X.K (gOf X) W1 H1 p acc W' H' ∧ acc.length ≤ i ∧ J i acc) ⟨[], W1, ⟨Stp.own hp0, ok1.own hp0, ok1.notP hp0, ok1.free hp0, [], upd_same, .nil⟩, Nat.le_refl _, j0⟩
      (fun i H' _ ⟨acc, W', mm, _⟩ => SqL.of (mm.ok.ex _ _ (mm.st.I _ _ ha))) ?_ ?_
    · rintro i x H' hx ⟨acc, W', mm, hl, j⟩
      obtain ⟨d, hd', nd⟩ := m.get hx
      have r2 := r1.step mm.st mm.ok
      refine hp d (List.mem_of_getElem? hd') (gOf X) B σ W' H' x r2 (nd.mono mm.st.I) _ fun σ2 e2 r3 => ?_
      refine ⟨e2, ?_⟩
      show WTb X scope c σ2 H' _
      intro s H0 C cl fp
      have lt : i < l.length := (List.getElem?_eq_some_iff.mp hd').1
      refine he i d acc hd' hl j s H0 C cl fp σ2 W' H' r3 _ fun b W2 H2 s2 ok2 q2 => ?_
      cases b with
      | false => exact iteF ⟨acc, W2, mm.step s2 ok2, Nat.le_succ_of_le hl, by simpa using q2⟩
      | true =>
        refine iteT ?_
        show WEb X scope elt σ2 H2 _
        intro s H0 C cl fp
        refine (show ∀ (s : Shared) (H0 : Hp) (C : Addr) (cl : List (Str × Addr)) (fp : List Addr), ED (X.blk s H0 scope (compEnvC scope cl C X.env) fp) B (S' d) elt fun y => J (i + 1) (acc ++ [y]) by simpa using q2) s H0 C cl fp σ2 W2 H2 (r3.step s2 ok2) _ fun y v W3 H3 s3 ok3 n3 q3 => ?_
        obtain ⟨xs', e1, e3, m3⟩ := ((mm.step s2 ok2).step s3 ok3).more hp0 n3 (by omega)
        exact ⟨xs', e1, e3, _, W3, m3, by simp only [List.length_append, List.length_singleton]; omega, q3⟩
    · rintro H' ⟨acc, W', mm, hl, j⟩
      obtain ⟨ys, hH, ds⟩ := mm.h
      rw [← m.length] at hl j
      exact k acc p ys W' H' (s1.trans ok1 mm.st) mm.ok (s1.free ok1 hp0) mm.n mm.i hH ds (hd acc hl j)
theorem lc_TI {elt iter c : Expr} {scope : Scope} {own : List (Str × Nat)} {g : TG} {l : List D} {Q : List D → Prop} (J : Nat → List D → Prop) (S' : D → En)
    (h : ED X B S iter fun d => d = .tup l ∧ l.length ≤ 50000 ∧ J 0 []) (hp : ∀ d ∈ l, Pat X.K g (own.map (·.2)) S d (S' d))
    (he : ∀ (i : Nat) d acc, l[i]? = some d → acc.length ≤ i → J i acc → ∀ (s : Shared) (H0 : Hp) (C : Addr) (cl : List (Str × Addr)) (fp : List Addr), TD (X.blk s H0 scope (compEnvC scope cl C X.env) fp) B (S' d) c fun b =>
      if b = true then ∀ (s : Shared) (H0 : Hp) (C : Addr) (cl : List (Str × Addr)) (fp : List Addr), ED (X.blk s H0 scope (compEnvC scope cl C X.env) fp) B (S' d) elt fun y => J (i + 1) (acc ++ [y]) else J (i + 1) acc)
    (hd : ∀ acc, acc.length ≤ l.length → J l.length acc → Q acc) : LC X B S (tLc (iTup X.K (WE X iter)) g (WTb X scope c) (WEb X scope elt) (own.map (·.2))) Q := fun σ W H r R k => by
  refine h σ W H r _ fun d v W1 H1 s1 ok1 n1 q1 => ?_
  obtain ⟨rfl, hz, j0⟩ := q1
  cases n1 with
  | @tup _ a xs ha m =>
    refine ⟨a, rfl, ⟨xs, SqT.of (ok1.ex _ _ ha)⟩, fun p hp0 => ?_⟩
    have r1 := r.step s1 ok1
    refine lc_tup (K := X.K) (a := a) (xs := xs) (fun i H' => ∃ acc W', Mid X.K (gOf X) W1 H1 p acc W' H' ∧ acc.length ≤ i ∧ J i acc) ⟨[], W1, ⟨Stp.own hp0, ok1.own hp0, ok1.notP hp0, ok1.free hp0, [], upd_same, .nil⟩, Nat.le_refl _, j0⟩
      (fun i H' _ ⟨acc, W', mm, _⟩ => SqT.of (mm.ok.ex _ _ (mm.st.I _ _ ha))) ?_ ?_
    · rintro i x H' hx ⟨acc, W', mm, hl, j⟩
      obtain ⟨d, hd', nd⟩ := m.get hx
      have r2 := r1.step mm.st mm.ok
      refine hp d (List.mem_of_getElem? hd') (gOf X) B σ W' H' x r2 (nd.mono mm.st.I) _ fun σ2 e2 r3 => ?_
      refine ⟨e2, ?_⟩
      show WTb X scope c σ2 H' _
      intro s H0 C cl fp
      have lt : i < l.length := (List.getElem?_eq_some_iff.mp hd').1
      refine he i d acc hd' hl j s H0 C cl fp σ2 W' H' r3 _ fun b W2 H2 s2 ok2 q2 => ?_
      cases b with
      | false => exact iteF ⟨acc, W2, mm.step s2 ok2, Nat.le_succ_of_le hl, by simpa using q2⟩
      | true =>
        refine iteT ?_
        show WEb X scope elt σ2 H2 _
        intro s H0 C cl fp
        refine (show ∀ (s : Shared) (H0 : Hp) (C : Addr) (cl : List (Str × Addr)) (fp : List Addr), ED (X.blk s H0 scope (compEnvC scope cl C X.env) fp) B (S' d) elt fun y => J (i + 1) (acc ++ [y]) by simpa using q2) s H0 C cl fp σ2 W2 H2 (r3.step s2 ok2) _ fun y v W3 H3 s3 ok3 n3 q3 => ?_
        obtain ⟨xs', e1, e3, m3⟩ := ((mm.step s2 ok2).step s3 ok3).more hp0 n3 (by omega)
        exact ⟨xs', e1, e3, _, W3, m3, by simp only [List.length_append, List.length_singleton]; omega, q3⟩
    · rintro H' ⟨acc, W', mm, hl, j⟩
      obtain ⟨ys, hH, ds⟩ := mm.h
      rw [← m.length] at hl j
      exact k acc p ys W' H' (s1.trans ok1 mm.st) mm.ok (s1.free ok1 hp0) mm.n mm.i hH ds (hd acc hl j)
theorem sd_ownLcI {i : Nat} {y : Str} {py spos : Pos} {elt tg iter c : Expr} {scope : Scope} {own : List (Str × Nat)} {wi : TI} {g : TG} (hc : X.calm = true) (hN : X.N.Nodup) (hy : X.N[i]? = some y) (hyl : X.env.scope.names.lookup y = some .local) (hi : PI X tg iter wi) (ok : BlkOk X.N X.env.scope scope own)
    (hg : ∀ (s : Shared) (H : Hp) (C : Addr) (cl : List (Str × Addr)) (fp : List Addr), PG (X.blk s H scope (compEnvC scope cl C X.env) fp) tg g)
    (h : LC X B S (tLc wi g (WTb X scope c) (WEb X scope elt) (own.map (·.2))) fun l => E.nx (S.set i (some (.own l))))
    (hsw : swapsWith (.ListComp elt [⟨tg, iter, [c], 0⟩] scope pos) (some (.Name y py)) spos.line X.env = pure true := by exact sw_true rfl rfl rfl rfl) (hs : ∀ x, foldedSetIterable iter X.env x = pure x := by intro _; rfl) :
    SD X B W0 S (.Assign [.Name y py] (.ListComp elt [⟨tg, iter, [c], 0⟩] scope pos) spos) E := fun σ W H r z D' k => by
  refine PS.w (ps_setLc (i := i) hc hN hy hyl hsw hi ok hg (fun s H C cl fp => pts_one (wtb_pt s H C cl fp)) web_pe hs) ?_
  exact h σ W H r _ fun l p xs W1 H1 s1 ok1 hp n i1 hl d q1 => k.nx _ _ W1 H1 ((r.step s1 ok1).setOwn (z.free r.ok hp) n i1 hl d fun j m e1 e2 => by
    obtain ⟨v, e3, p2, ys, e4, _, _, _, h4, _⟩ := r.sl j _ e1
    rw [e2] at e3
    cases e3
    cases e4
    rw [hp] at h4
    cases h4) (z.trans r.ok s1) s1.I q1
end
section
variable {X : Cx} {B : Hp} {W0 : Wd} {S : En} {pos : Pos} {e elt iter c : Expr} {x : Str} {px : Pos} {scope : Scope} {own : List (Str × Nat)} {d0 : D} {Q : List D → Prop} {E : Ends'} {α : Type} {f u : α → D} {t : α → Bool} {l : List α}
/-- [elt for x in a list or a tuple if c] -/
theorem sd_ft {y : Str} {py spos : Pos} (i0 : Nat) (hy : X.N[i0]? = some y) (hyl : X.env.scope.names.lookup y = some .local) (j : Nat) (hc : X.calm = true) (hN : X.N.Nodup) (ok : BlkOk X.N X.env.scope scope own) (hg : AllBlk X scope fun Y => PG Y (.Name x px) (gName j)) (hj : j ∈ own.map (·.2)) (hl : l.length ≤ 50000) (sd : SeqD d0 (l.map f)) (hit : ED X B S iter fun d => d = d0)
    (ht : ∀ a ∈ l, AllBlk X scope fun Y => TD Y B (itE S own j (f a)) c fun b => b = t a) (he : ∀ a ∈ l, t a = true → AllBlk X scope fun Y => ED Y B (itE S own j (f a)) elt fun y => y = u a) (q : E.nx (S.set i0 (some (.own ((l.filter t).map u))))) (hsw : swapsWith (.ListComp elt [⟨.Name x px, iter, [c], 0⟩] scope pos) (some (.Name y py)) spos.line X.env = pure true := by exact sw_true rfl rfl rfl rfl) (hs : ∀ x, foldedSetIterable iter X.env x = pure x := by intro _; rfl) : SD X B W0 S (.Assign [.Name y py] (.ListComp elt [⟨.Name x px, iter, [c], 0⟩] scope pos) spos) E := by
  have step : ∀ (i : Nat) d acc, (l.map f)[i]? = some d → acc.length ≤ i → acc = ((l.take i).filter t).map u → AllBlk X scope fun Y => TD Y B (itE S own j d) c fun b => if b = true then AllBlk X scope fun Y => ED Y B (itE S own j d) elt fun y => acc ++ [y] = ((l.take (i + 1)).filter t).map u else acc = ((l.take (i + 1)).filter t).map u := by
    intro i d acc hi _ ha s H0 C cl fp σ W H r R k
    rw [List.getElem?_map] at hi
    obtain ⟨a, h1, rfl⟩ := Option.map_eq_some_iff.mp hi
    have am := List.mem_of_getElem? h1
    refine ht a am s H0 C cl fp σ W H r R fun b W' H' st ok' eb => k b W' H' st ok' ?_
    subst eb
    rw [take1f t u h1]
    cases ta : t a with
    | true =>
      refine iteT ?_
      intro s H0 C cl fp
      refine ed_imp (he a am ta s H0 C cl fp) fun y ey => ?_
      rw [ha, ey, if_pos rfl]
    | false =>
      refine iteF ?_
      rw [ha, if_neg (by decide), List.append_nil]
  have fin : ∀ acc : List D, acc.length ≤ (l.map f).length → acc = ((l.take (l.map f).length).filter t).map u → E.nx (S.set i0 (some (.own acc))) := by
    intro acc _ e
    rw [List.length_map, List.take_length] at e
    rw [e]
    exact q
  have hl' : (l.map f).length ≤ 50000 := by rw [List.length_map]; exact hl
  rcases sd with rfl | rfl
  · exact sd_ownLcI hc hN hy hyl (pi_list we_pe) ok hg (lc_LI (fun i acc => acc = ((l.take i).filter t).map u) (fun d => itE S own j d) (ed_imp hit fun d e => ⟨e, hl', rfl⟩) (fun d _ => pat_name j hj) step fin) hsw hs
  · exact sd_ownLcI hc hN hy hyl (pi_tup we_pe) ok hg (lc_TI (fun i acc => acc = ((l.take i).filter t).map u) (fun d => itE S own j d) (ed_imp hit fun d e => ⟨e, hl', rfl⟩) (fun d _ => pat_name j hj) step fin) hsw hs
/-- [elt for x in a list or a tuple] -/
theorem sd_mpL {y : Str} {py spos : Pos} (i0 : Nat) (hy : X.N[i0]? = some y) (hyl : X.env.scope.names.lookup y = some .local) (j : Nat) (hc : X.calm = true) (hN : X.N.Nodup) (ok : BlkOk X.N X.env.scope scope own) (hg : AllBlk X scope fun Y => PG Y (.Name x px) (gName j)) (hj : j ∈ own.map (·.2)) (hl : l.length ≤ 50000) (hit : ED X B S iter fun d => d = .lst (l.map f))
    (he : ∀ a ∈ l, AllBlk X scope fun Y => ED Y B (itE S own j (f a)) elt fun y => y = u a) (q : E.nx (S.set i0 (some (.own (l.map u))))) (hsw : swapsWith (.ListComp elt [⟨.Name x px, iter, [], 0⟩] scope pos) (some (.Name y py)) spos.line X.env = pure true := by exact sw_true rfl rfl rfl rfl) (hs : ∀ x, foldedSetIterable iter X.env x = pure x := by intro _; rfl) : SD X B W0 S (.Assign [.Name y py] (.ListComp elt [⟨.Name x px, iter, [], 0⟩] scope pos) spos) E := by
  have step : ∀ (i : Nat) d acc, (l.map f)[i]? = some d → acc.length = i → acc = (l.take i).map u → AllBlk X scope fun Y => ED Y B (itE S own j d) elt fun y => acc ++ [y] = (l.take (i + 1)).map u := by
    intro i d acc hi _ ha s H0 C cl fp
    rw [List.getElem?_map] at hi
    obtain ⟨a, h1, rfl⟩ := Option.map_eq_some_iff.mp hi
    refine ed_imp (he a (List.mem_of_getElem? h1) s H0 C cl fp) fun y ey => ?_
    rw [take1 u h1, ha, ey]
  have fin : ∀ acc : List D, acc.length = (l.map f).length → acc = (l.take (l.map f).length).map u → E.nx (S.set i0 (some (.own acc))) := by
    intro acc _ e
    rw [List.length_map, List.take_length] at e
    rw [e]
    exact q
  have hl' : (l.map f).length ≤ 50000 := by rw [List.length_map]; exact hl
  exact sd_ownLc hc hN hy hyl (pi_list we_pe) ok hg (lc_L (fun i acc => acc = (l.take i).map u) (fun d => itE S own j d) (ed_imp hit fun d e => ⟨e, hl', rfl⟩) (fun d _ => pat_name j hj) step fin) hsw hs
/-- {k: v for x in a list or a tuple}, the keys distinct -/
theorem ft_mp {kx vx : Expr} {ky : α → List Key} {vl : α → D} {Q : List (List Key × D) → Prop} (j : Nat) (hc : X.calm = true) (hu : X.A.units + 1 < cLine) (hN : X.N.Nodup) (ok : BlkOk X.N X.env.scope scope own) (hg : AllBlk X scope fun Y => PG Y (.Name x px) (gName j)) (hj : j ∈ own.map (·.2)) (hl : l.length ≤ 50000) (sd : SeqD d0 (l.map f)) (hit : ED X B S iter fun d => d = d0) (hnd : (l.map ky).Nodup)
    (he : ∀ a ∈ l, AllBlk X scope fun Y => ED Y B (itE S own j (f a)) kx fun y => y = tD (ky a)) (hv : ∀ a ∈ l, AllBlk X scope fun Y => ED Y B (itE S own j (f a)) vx fun y => y = vl a) (q : Q (l.map fun a => (ky a, vl a))) (hs : ∀ x, foldedSetIterable iter X.env x = pure x := by intro _; rfl) : FT X B S (.DictComp kx vx [⟨.Name x px, iter, [], 0⟩] scope pos) Q := by
  have fresh : ∀ (i : Nat) a, l[i]? = some a → ky a ∉ ((l.take i).map fun a => (ky a, vl a)).map (·.1) := by
    intro i a h z
    rw [List.map_map] at z
    obtain ⟨b, hb, e⟩ := List.mem_map.mp z
    obtain ⟨k, hk, e2⟩ := List.getElem_of_mem hb
    rw [List.length_take] at hk
    rw [List.getElem_take] at e2
    obtain ⟨hi, e3⟩ := List.getElem?_eq_some_iff.mp h
    have := (List.pairwise_iff_getElem.mp hnd) k i (by rw [List.length_map]; omega) (by rw [List.length_map]; omega) (by omega)
    rw [List.getElem_map, List.getElem_map, e2, e3] at this
    exact this e
  have step : ∀ (i : Nat) d acc, (l.map f)[i]? = some d → acc = ((l.take i).map fun a => (ky a, vl a)) → AllBlk X scope fun Y => ED Y B (itE S own j d) kx fun y => ∃ k, y = tD k ∧ AllBlk X scope fun Y => ED Y B (itE S own j d) vx fun z => putE acc k z = (l.take (i + 1)).map fun a => (ky a, vl a) := by
    intro i d acc hi ha s H0 C cl fp
    rw [List.getElem?_map] at hi
    obtain ⟨a, h1, rfl⟩ := Option.map_eq_some_iff.mp hi
    have am := List.mem_of_getElem? h1
    refine ed_imp (he a am s H0 C cl fp) fun y ey => ⟨ky a, ey, fun s H0 C cl fp => ed_imp (hv a am s H0 C cl fp) fun z ez => ?_⟩
    rw [ez, ha, putE_new (fresh i a h1), take1 (fun a => (ky a, vl a)) h1]
  have fin : ∀ acc : List (List Key × D), acc = ((l.take (l.map f).length).map fun a => (ky a, vl a)) → Q acc := by
    intro acc e
    rw [List.length_map, List.take_length] at e
    rw [e]
    exact q
  have hl' : (l.map f).length ≤ 50000 := by rw [List.length_map]; exact hl
  rcases sd with rfl | rfl
  · exact ft_dcL (fun i acc => acc = (l.take i).map fun a => (ky a, vl a)) (fun d => itE S own j d) hc hu hN ok hg (ed_imp hit fun d e => ⟨e, hl', rfl⟩) (fun d _ => pat_name j hj) step fin hs
  · exact ft_dcTp (fun i acc => acc = (l.take i).map fun a => (ky a, vl a)) (fun d => itE S own j d) hc hu hN ok hg (ed_imp hit fun d e => ⟨e, hl', rfl⟩) (fun d _ => pat_name j hj) step fin hs
end
end DL

set_option Elab.async false
set_option linter.all false
set_option maxRecDepth 100000
set_option maxHeartbeats 4000000
/-! k61: counts, rising ones, lots by length, one fewer -/
namespace K61
open PySem L2 DL M61
section
variable {X : Cx} {B : Hp} {S : En} {pos : Pos} {Q : D → Prop} {x : Str} {d : D}
theorem nm (i : Nat) (q : Q d) (hN : X.N[i]? = some x := by rfl) (h : S[i]? = some (some (.val d)) := by rfl) (hv : Vis X.env.scope x := by first | exact Or.inl rfl | exact Or.inr (Or.inl rfl) | exact Or.inr (Or.inr rfl))
    (hd : (x == ("__debug__" : Str)) = false := by decide) (hcd : (x == ("__classdict__" : Str)) = false := by decide) : ED X B S (.Name x pos) Q := ed_name i hN h q hv hd hcd
theorem kB {QB : Bool → Prop} {b : Bool} (q : QB b) : ∃ k, D.bl b = .bl k ∧ QB k := ⟨b, rfl, q⟩
end
theorem relab {c : Str → NameKind → Bool} {x : Str} {k : NameKind} : ∀ {l : List (Str × NameKind)}, l.lookup x = some k → (l.map fun (n, k) => if c n k = true then (n, NameKind.cell) else (n, k)).lookup x = some k ∨ (l.map fun (n, k) => if c n k = true then (n, NameKind.cell) else (n, k)).lookup x = some .cell
  | [], h => by simp at h
  | (n, k') :: l, h => by
    rw [List.map_cons]
    by_cases e : x == n
    · rw [List.lookup_cons, e] at h
      cases h
      by_cases cc : c n k = true
      · simp only [cc, if_true]
        right
        rw [List.lookup_cons, e]
      · simp only [cc]
        left
        show List.lookup x ((n, k) :: _) = _
        rw [List.lookup_cons, e]
    · have e' : (x == n) = false := by simpa using e
      rw [List.lookup_cons, e'] at h
      have := relab (c := c) (l := l) h
      by_cases cc : c n k' = true
      · simp only [cc, if_true]
        rw [List.lookup_cons, e']
        exact this
      · simp only [cc]
        show List.lookup x ((n, k') :: _) = _ ∨ List.lookup x ((n, k') :: _) = _
        rw [List.lookup_cons, e']
        exact this
theorem blkOk_in {N : List Str} {scope scope' : Scope} {own : List (Str × Nat)} {cl : List (Str × Addr)} {a : Addr} {env : Env} (h : BlkOk N scope scope' own) : BlkOk N (compEnvC scope cl a env).scope scope' own :=
  ⟨h.kind, h.uniq, h.ix, fun y hy e => by
    rcases h.free y hy e with k | k
    · rcases relab (c := fun n k => k == NameKind.free && env.scope.kind == .function && env.kindOf n == some .cell) k with z | z
      · exact .inl z
      · exact .inl z
    · rcases relab (c := fun n k => k == NameKind.free && env.scope.kind == .function && env.kindOf n == some .cell) k with z | z
      · exact .inr z
      · exact .inl z, h.own⟩
theorem un1 {k : Nat} {A : Around} (r : Room k A) : A.units + 1 < cLine := by have := r.un; omega
theorem un64 {k : Nat} {A : Around} (r : Room k A) : A.units + 64 < cLine := by have := r.un; omega
theorem un65 {k : Nat} {A : Around} (r : Room k A) : A.units + 65 < cLine := by have := r.un; omega
theorem un100 {k : Nat} {A : Around} (r : Room k A) : A.units + 100 < cLine := by have := r.un; omega
/-- what the module knows -/
structure Txt (K : PySem.W.Frag) (mg : Str → Option Value) : Prop where
  isi : mg "isinstance" = none
  int : mg "int" = none
  bool : mg "bool" = none
  list : mg "list" = none
  tuple : mg "tuple" = none
  abs : mg "abs" = none
  len : mg "len" = none
  max : mg "max" = none
  min : mg "min" = none
  divmod : mg "divmod" = none
  repr : mg "repr" = none
  range : mg "range" = none
  all : mg "all" = none
  any : mg "any" = none
  zip : mg "zip" = none
  enum : mg "enumerate" = none
  sorted : mg "sorted" = none
  sum : mg "sum" = none
  k7 : PySem.W.kitOne K (.type "int") (.type "bool") = some false
  l1 : PySem.W.kitAny K (.type "list") [.type "list", .type "tuple"] = some true
  l2 : PySem.W.kitAny K (.type "tuple") [.type "list", .type "tuple"] = some true
  most : ∃ tk, mg "MOST_THINGS" = some (.int 7 tk)
theorem same {K : PySem.W.Frag} {t : Value} (h : (t == t) = true) : PySem.W.kitOne K t t = some true := by
  unfold PySem.W.kitOne
  rw [if_pos h]
section
variable {P : Program} {w : World} {K : PySem.W.Frag} {mg : Str → Option Value} {base : Heap}
abbrev spInt : SpD := fun as Q => ∃ i : Int, as = [.val (.int i)] ∧ Q (.bl true)
theorem sc_isint : FnScope ["value"] ["value"] (defScope (top 1)) := ⟨rfl, rfl, rfl, by decide +kernel, rfl, by decide +kernel, by decide +kernel⟩
theorem ok_isint {f : Addr} {fd : FuncData} (F : FunS K "is_integer" "is_integer" (top 1) f fd) (T : Txt K mg) : GnOk P w K mg base 1 f fd ["value"] (lift K spInt) := by
  refine gn_dl F sc_isint (fun as Q h => by obtain ⟨_, rfl, _⟩ := h; rfl) (fun cdv A outer s H hr hG W as Q h => ?_)
  obtain ⟨i, rfl, q⟩ := h
  refine sds_cons (sd_ret (ed_and (ed_callB T.isi (ad_cons (nm 0 (ad_cons (ed_ty T.int (ad_nil (cd_isi (.int i) (.ty _) (same (by decide +kernel)) (kB ?_))))))))))
  show ED _ _ _ _ _
  exact ed_one (ed_not (ed_callB T.isi (ad_cons (nm 0 (ad_cons (ed_ty T.bool (ad_nil (cd_isi (.int i) (.ty _) T.k7 (kB q)))))))))
abbrev spCnt : SpD := fun as Q => ∃ i : Int, as = [.val (.int i)] ∧ Q (.bl (decide (0 ≤ i)))
theorem sc_iscount : FnScope ["value"] ["value"] (defScope (top 2)) := ⟨rfl, rfl, rfl, by decide +kernel, rfl, by decide +kernel, by decide +kernel⟩
theorem ok_iscount {f : Addr} {fd : FuncData} (F : FunS K "is_count" "is_count" (top 2) f fd) (G : Df P w K mg base "is_integer" 1 1 spInt) : GnOk P w K mg base 2 f fd ["value"] (lift K spCnt) := by
  refine gn_dl F sc_iscount (fun as Q h => by obtain ⟨_, rfl, _⟩ := h; rfl) (fun cdv A outer s H hr hG W as Q h => ?_)
  obtain ⟨i, rfl, q⟩ := h
  refine sds_cons (sd_ret (ed_and (ed_call G hr hG (ad_cons (nm 0 (ad_nil ⟨i, rfl, kB ?_⟩))))))
  show ED _ _ _ _ _
  exact ed_one (ed_cmp (nm 0 (ed_int (od_ge q))))
abbrev spL : SpD := fun as Q => ∃ d l, as = [.val d] ∧ SeqD d l ∧ Q (.bl true)
theorem sc_islist : FnScope ["value"] ["value"] (defScope (top 3)) := ⟨rfl, rfl, rfl, by decide +kernel, rfl, by decide +kernel, by decide +kernel⟩
theorem ok_islist {f : Addr} {fd : FuncData} (F : FunS K "is_list" "is_list" (top 3) f fd) (T : Txt K mg) : GnOk P w K mg base 1 f fd ["value"] (lift K spL) := by
  refine gn_dl F sc_islist (fun as Q h => by obtain ⟨_, _, rfl, _⟩ := h; rfl) (fun cdv A outer s H hr hG W as Q h => ?_)
  obtain ⟨d, l, rfl, hd, q⟩ := h
  refine sds_cons (sd_ret (ed_callB T.isi (ad_cons (nm 0 (ad_cons (ed_tup (ad_cons (ed_ty T.list (ad_cons (ed_ty T.tuple (ad_nil ⟨[.ty "list", .ty "tuple"], rfl, by decide, ad_nil ?_⟩)))))))))))
  rcases hd with rfl | rfl
  · exact cd_isi2 (.lst l) (.ty _) (.ty _) T.l1 q
  · exact cd_isi2 (.tup l) (.ty _) (.ty _) T.l2 q
theorem trues : ∀ {out : List D}, (∀ y ∈ out, y = .bl true) → out = (List.replicate out.length true).map D.bl
  | [], _ => rfl
  | y :: out, h => by
    rw [h y (List.mem_cons_self ..), List.length_cons, List.replicate_succ, List.map_cons, ← trues fun z hz => h z (List.mem_cons_of_mem _ hz)]
theorem cd_allT {X : Cx} {Q : D → Prop} {out : List D} (hc : X.calm = true) (h : ∀ y ∈ out, y = .bl true) (q : Q (.bl true)) : CD X (.builtin "all") [.val (.lst out)] Q := by
  rw [trues h]
  refine cd_all hc ?_
  have : (List.replicate out.length true).all id = true := by simp
  rw [this]
  exact q
abbrev spRis : SpD := fun as Q => ∃ l : List Int, as = [.val (tI l)] ∧ l.Pairwise (· < ·) ∧ l.length ≤ 100 ∧ Q (.bl true)
theorem sc_rising : FnScope ["parts", "one", "two"] ["parts"] (defScope (top 4)) := ⟨rfl, rfl, rfl, by decide +kernel, rfl, by decide +kernel, by decide +kernel⟩
theorem ok_rising {f : Addr} {fd : FuncData} (F : FunS K "is_rising" "is_rising" (top 4) f fd) (T : Txt K mg) : GnOk P w K mg base 1 f fd ["parts"] (lift K spRis) := by
  refine gn_dl F sc_rising (fun as Q h => by obtain ⟨_, rfl, _⟩ := h; rfl) (fun cdv A outer s H hr hG W as Q h => ?_)
  obtain ⟨l, rfl, hl, h100, q⟩ := h
  have nd := sc_rising.nd
  refine sds_cons (sd_ret (ed_callB T.all (ad_cons (ed_fd (fd_lcZ (l.map D.int) ((l.drop 1).map D.int) (fun _ acc => ∀ y ∈ acc, y = .bl true) (fun d d' => (itE [some (.val (tI l)), none, none] [("one", 1), ("two", 2)] 1 d).set 2 (some (.val d'))) (own := [("one", 1), ("two", 2)]) rfl nd T.zip (blkOk_by (by show blkC ["parts", "one", "two"] (defScope (top 4)) _ _ = true; decide +kernel)) (fun _ _ _ _ _ => pg_tup rfl (pgs_cons (pg_name (i := 1) nd rfl (Or.inl rfl)) (pgs_cons (pg_name (i := 2) nd rfl (Or.inl rfl)) pgs_nil rfl) rfl)) ?_ (fun d d' => pat_two 1 2 (by simp) (by simp)) ?_ ?_)))))
  · exact ad_cons (nm 0 (ad_cons (ed_slFrA (nm 0 (ed_int ⟨l.map D.int, 1, rfl, rfl, ad_nil ⟨_, _, rfl, .inr rfl, .inr (by rw [List.map_drop]), by rw [List.length_map]; omega, by simp⟩⟩)))))
  · intro i d d' acc h1 h2 _ ha s2 H0 C2 cl fp
    rw [List.getElem?_map] at h1 h2
    obtain ⟨x, e1, rfl⟩ := Option.map_eq_some_iff.mp h1
    obtain ⟨y, e2, rfl⟩ := Option.map_eq_some_iff.mp h2
    rw [List.getElem?_drop, Nat.add_comm] at e2
    obtain ⟨i1, rfl⟩ := List.getElem?_eq_some_iff.mp e1
    obtain ⟨i2, rfl⟩ := List.getElem?_eq_some_iff.mp e2
    have lt := List.pairwise_iff_getElem.mp hl i (i + 1) i1 i2 (by omega)
    refine ed_cmp (nm 1 (nm 2 (od_lt ?_)))
    rw [decide_eq_true lt]
    intro z hz
    rcases List.mem_append.mp hz with m | m
    · exact ha z m
    · exact List.mem_singleton.mp m
  · intro acc i _ ha _ _ _
    exact ad_nil (cd_allT rfl ha q)
abbrev spRC : SpD := fun as Q => ∃ l : List Int, ∃ n : Int, as = [.val (tI l), .val (.int n)] ∧ l.Pairwise (· < ·) ∧ l.length ≤ 100 ∧ (∀ c ∈ l, 0 ≤ c ∧ c < n) ∧ Q (.bl true)
theorem sc_rc : FnScope ["value", "limit", "count"] ["value", "limit"] (defScope (top 5)) := ⟨rfl, rfl, rfl, by decide +kernel, rfl, by decide +kernel, by decide +kernel⟩
theorem ok_rc {f : Addr} {fd : FuncData} (F : FunS K "is_rising_counts" "is_rising_counts" (top 5) f fd) (T : Txt K mg) (L : Df P w K mg base "is_list" 1 1 spL) (G : Df P w K mg base "is_count" 2 1 spCnt) (R : Df P w K mg base "is_rising" 1 1 spRis) : GnOk P w K mg base 3 f fd ["value", "limit"] (lift K spRC) := by
  refine gn_dl F sc_rc (fun as Q h => by obtain ⟨_, _, rfl, _⟩ := h; rfl) (fun cdv A outer s H hr hG W as Q h => ?_)
  obtain ⟨l, n, rfl, hl, h100, hn, q⟩ := h
  have nd := sc_rc.nd
  refine sds_cons (sd_if (td_of (tw_or (td_not (td_val (ed_call L (hr.mono (j := 1) (by decide)) hG (ad_cons (nm 0 (ad_nil ⟨_, _, rfl, .inr rfl, kB ?_⟩)))))))))
  show TW _ _ _ _ _
  refine tw_or1 (td_not (td_val (ed_callB T.all (ad_cons (ed_fd (fd_mp (f := D.int) (u := fun _ => .bl true) (l := l) 2 rfl nd (own := [("count", 2)]) (blkOk_by (by show blkC ["value", "limit", "count"] (defScope (top 5)) _ _ = true; decide +kernel)) (fun _ _ _ _ _ => pg_name (i := 2) nd rfl (Or.inl rfl)) (by simp) (by omega) (.inr rfl) (nm 0 rfl) ?_ (ad_nil (cd_allT rfl (fun y hy => by obtain ⟨_, _, rfl⟩ := List.mem_map.mp hy; rfl) (kB ?_)))))))))
  · intro c hc s2 H0 C2 cl fp
    refine ed_and (ed_call G (hr.mono (j := 2) (by decide)) hG (ad_cons (nm 2 (ad_nil ⟨c, rfl, kB ?_⟩))))
    rw [decide_eq_true (hn c hc).1]
    show ED _ _ _ _ _
    exact ed_one (ed_cmp (nm 2 (nm 1 (od_lt (by rw [decide_eq_true (hn c hc).2])))))
  · show SDs _ _ _ _ _ _
    exact sds_nil (sds_cons (sd_ret (ed_call R (hr.mono (j := 1) (by decide)) hG (ad_cons (nm 0 (ad_nil ⟨l, rfl, hl, h100, q⟩))))))
/-! by length -/
abbrev spLF : SpD := fun as Q => ∃ l : List Int, as = [.val (tI l)] ∧ Q (.tup [.int (l.length : Int), tI l])
theorem sc_lf : FnScope ["lot"] ["lot"] (defScope (top 12)) := ⟨rfl, rfl, rfl, by decide +kernel, rfl, by decide +kernel, by decide +kernel⟩
theorem ok_lf {f : Addr} {fd : FuncData} (F : FunS K "_length_first" "_length_first" (top 12) f fd) (T : Txt K mg) : GnOk P w K mg base 1 f fd ["lot"] (lift K spLF) := by
  refine gn_dl F sc_lf (fun as Q h => by obtain ⟨_, rfl, _⟩ := h; rfl) (fun cdv A outer s H hr hG W as Q h => ?_)
  obtain ⟨l, rfl, q⟩ := h
  exact sds_cons (sd_ret (ed_tup (ad_cons (ed_callB T.len (ad_cons (nm 0 (ad_nil (cd_len (l := l.map D.int) (.inr rfl) (ad_cons (nm 0 (ad_nil ⟨[.int ((l.map D.int).length : Int), tI l], rfl, by simp, by rw [List.length_map]; exact q⟩)))))))))))
abbrev enc (l : List Int) : PyData := .tuple [.int (l.length : Int), pI l]
theorem lt_ints : ∀ a b : List Int, decide (a < b) = lexlt a b
  | [], [] => by simp [lexlt]
  | [], _ :: _ => by simp [lexlt]
  | _ :: _, [] => by simp [lexlt]
  | x :: a, y :: b => by
    have := lt_ints a b
    unfold lexlt
    rw [← this]
    by_cases h : x < y
    · simp [List.cons_lt_cons_iff, h]
    · by_cases e : x = y
      · subst e; simp [List.cons_lt_cons_iff]
      · simp [List.cons_lt_cons_iff, h, e]
theorem alike_enc (a b : List Int) : PySem.W.alike (enc a) (enc b) = true := by
  simp [PySem.W.alike, PySem.W.alikeAll, PySem.W.alike_ints]
theorem dl (a b : List Int) : PySem.W.dataLe false enc a b = !lt2 b a := by
  show (!PySem.W.dataLt (enc b) (enc a)) = _
  congr 1
  rw [PySem.W.dataLt_pair (by simp [PySem.W.alike]) (by simp [PySem.W.alike, PySem.W.alike_ints]), PySem.W.dataLt_int]
  have e2 : PySem.W.dataLt (pI b) (pI a) = lexlt b a := by
    rw [← lt_ints]
    exact PySem.W.dataLt_ints b a
  rw [e2]
  unfold lt2
  have e0 : PyData.eqv (.int (b.length : Int)) (.int (a.length : Int)) = decide (b.length = a.length) := by
    simp only [PyData.eqv]
    by_cases h : b.length = a.length <;> simp [h]
    omega
  rw [e0, eqv_pI]
  by_cases h : b.length = a.length
  · by_cases e : b = a
    · subst e; simp [lexlt_irr]
    · simp [h, e]
  · simp [h]
theorem le_tr (a b c : List Int) (h1 : (!lt2 b a) = true) (h2 : (!lt2 c b) = true) : (!lt2 c a) = true := by
  have h1' : lt2 b a = false := by simpa using h1
  have h2' : lt2 c b = false := by simpa using h2
  rw [Bool.not_eq_true']
  cases h : lt2 c a with
  | false => rfl
  | true =>
    exfalso
    by_cases e : c = b
    · subst e; rw [h1'] at h; cases h
    · have := lt2_trans (lt2_tri h2' e) h
      rw [h1'] at this; cases this
theorem le_tot (a b : List Int) : ((!lt2 b a) || (!lt2 a b)) = true := by
  cases h : lt2 b a with
  | false => rfl
  | true => rw [lt2_asym h]; rfl
theorem srt_len (ls : List (List Int)) : (ls.mergeSort (PySem.W.dataLe false enc)).Perm ls ∧ (ls.mergeSort (PySem.W.dataLe false enc)).Pairwise fun x y => lt2 y x = false := by
  refine ⟨List.mergeSort_perm _ _, ?_⟩
  have := List.pairwise_mergeSort (le := PySem.W.dataLe false enc) (fun a b c h1 h2 => by rw [dl] at *; exact le_tr a b c h1 h2) (fun a b => by rw [dl, dl]; exact le_tot a b) ls
  exact this.imp fun {a b} h => by rw [dl] at h; simpa using h
theorem dep_enc (l : List Int) : (enc l).depth ≤ 4 := by
  show max _ (max ((pI l).depth) _) + 1 ≤ 4
  have h : (pI l).depth = 1 := by
    show PyData.depthAll _ + 1 = 1
    rw [PySem.W.depth_ints]
  rw [h]
  simp [PyData.depth, PyData.depthAll]
abbrev spByL : SpD := fun as Q => ∃ d, ∃ ls : List (List Int), as = [.val d] ∧ SeqD d (ls.map tI) ∧ ls.length ≤ 200 ∧ ∀ ys : List (List Int), ys.Perm ls → (ys.Pairwise fun x y => lt2 y x = false) → Q (.lst (ys.map tI))
theorem sc_byl : FnScope ["lots"] ["lots"] (defScope (top 11)) := ⟨rfl, rfl, rfl, by decide +kernel, rfl, by decide +kernel, by decide +kernel⟩
theorem ok_byl {f : Addr} {fd : FuncData} (F : FunS K "by_length" "by_length" (top 11) f fd) (T : Txt K mg) (G : Df P w K mg base "_length_first" 1 1 spLF) : GnOk P w K mg base 4 f fd ["lots"] (lift K spByL) := by
  refine gn_dl F sc_byl (fun as Q h => by obtain ⟨_, _, rfl, _⟩ := h; rfl) (fun cdv A outer s H hr hG W as Q h => ?_)
  obtain ⟨d, ls, rfl, sd, hl, q⟩ := h
  exact sds_cons (sd_ret (ed_sortKey G T.sorted hr hG (nm 0 ⟨List Int, tI, fun l => .tup [.int (l.length : Int), tI l], enc, ls, sd, fun b _ => ⟨b, rfl, rfl⟩, fun b _ => .tup (.cons (.int _) (.cons (pyd_tI b) .nil)), PySem.W.AllAlike.of alike_enc, PySem.W.Sortable.tuples fun b => ⟨_, _, rfl⟩, fun b _ => dep_enc b, by omega, q _ (srt_len ls).1 (srt_len ls).2⟩)))
/-! one fewer -/
theorem less_eq (l : List Int) (t : Int) : l.filter (fun h => !decide (h = t)) = less l t := by
  unfold less
  refine congrArg (fun g => l.filter g) (funext fun h => ?_)
  by_cases e : h = t <;> simp [e]
abbrev spLess : SpD := fun as Q => ∃ l : List Int, ∃ t : Int, as = [.val (tI l), .val (.int t)] ∧ l.length ≤ 100 ∧ Q (tI (less l t))
theorem sc_less : FnScope ["lot", "thing", "held"] ["lot", "thing"] (defScope (top 20)) := ⟨rfl, rfl, rfl, by decide +kernel, rfl, by decide +kernel, by decide +kernel⟩
theorem ok_less {f : Addr} {fd : FuncData} (F : FunS K "_less" "_less" (top 20) f fd) (T : Txt K mg) : GnOk P w K mg base 1 f fd ["lot", "thing"] (lift K spLess) := by
  refine gn_dl F sc_less (fun as Q h => by obtain ⟨_, _, rfl, _⟩ := h; rfl) (fun cdv A outer s H hr hG W as Q h => ?_)
  obtain ⟨l, t, rfl, hl, q⟩ := h
  have nd := sc_less.nd
  refine sds_cons (sd_ret (ed_callTy T.tuple (ad_cons (ed_fd (fd_ft (f := D.int) (u := D.int) (t := fun h => !decide (h = t)) (l := l) 2 rfl nd (own := [("held", 2)]) (blkOk_by (by show blkC ["lot", "thing", "held"] (defScope (top 20)) _ _ = true; decide +kernel)) (fun _ _ _ _ _ => pg_name (i := 2) nd rfl (Or.inl rfl)) (by simp) (by omega) (.inr rfl) (nm 0 rfl) ?_ ?_ (ad_nil (cd_tuple (by rw [← less_eq] at q; exact q))))))))
  · intro h hh s2 H0 C2 cl fp
    exact td_cmp (nm 2 (nm 1 (od_nei (kB rfl))))
  · intro h hh _ s2 H0 C2 cl fp
    exact nm 2 rfl
theorem fm_len {u : List Int → Int → D} : ∀ {ls : List (List Int)}, (∀ l ∈ ls, l.length ≤ 100) → (ls.flatMap fun a => (id a).map (u a)).length ≤ 100 * ls.length
  | [], _ => by simp
  | l :: ls, h => by
    have h1 := fm_len (u := u) fun x hx => h x (List.mem_cons_of_mem _ hx)
    have h2 := h l (List.mem_cons_self ..)
    rw [List.flatMap_cons, List.length_append, List.length_map, List.length_cons]
    show l.length + _ ≤ _
    omega
abbrev spWan : SpD := fun as Q => ∃ d, ∃ ls : List (List Int), as = [.val d] ∧ SeqD d (ls.map tI) ∧ ls.length ≤ 100 ∧ (∀ l ∈ ls, l.length ≤ 100) ∧ Q (.lst ((wanted ls).map tI))
theorem sc_wan : FnScope ["lots", "lot", "thing"] ["lots"] (defScope (top 18)) := ⟨rfl, rfl, rfl, by decide +kernel, rfl, by decide +kernel, by decide +kernel⟩
theorem ok_wan {f : Addr} {fd : FuncData} (F : FunS K "_wanted" "_wanted" (top 18) f fd) (G : Df P w K mg base "_less" 1 2 spLess) : GnOk P w K mg base 2 f fd ["lots"] (lift K spWan) := by
  refine gn_dl F sc_wan (fun as Q h => by obtain ⟨_, _, rfl, _⟩ := h; rfl) (fun cdv A outer s H hr hG W as Q h => ?_)
  obtain ⟨d, ls, rfl, sd, hl, hm, q⟩ := h
  have nd := sc_wan.nd
  refine sds_cons (sd_ret (ed_bin (ed_lst (ad_cons (ed_tup (ad_nil ⟨[], rfl, by simp, ad_nil ⟨[.tup []], rfl, by simp, ed_fd (fd_mp2 (f := tI) (m := id) (g := D.int) (u := fun a b => tI (less a b)) (l := ls) 1 2 rfl nd (own := [("lot", 1), ("thing", 2)]) (blkOk_by (by show blkC ["lots", "lot", "thing"] (defScope (top 18)) _ _ = true; decide +kernel)) (fun _ _ _ _ _ => pg_name (i := 1) nd rfl (Or.inl rfl)) (fun _ _ _ _ _ => pg_name (i := 2) nd rfl (Or.inl rfl)) (by simp) (by simp) (by omega) (fun l h => by have := hm l h; show l.length ≤ 200; omega) sd (nm 0 rfl) ?_ ?_ ?_ ?_)⟩⟩))))))
  · intro a ha s2 H0 C2 cl fp
    exact nm 1 rfl
  · intro a ha b hb s2 H0 C2 cl fp
    exact ed_call G hr hG (ad_cons (nm 1 (ad_cons (nm 2 (ad_nil ⟨a, b, rfl, hm a ha, rfl⟩)))))
  · intro a ha
    rfl
  · refine od_catL ?_ ?_
    · have := fm_len (u := fun a b => tI (less a b)) hm
      rw [List.length_singleton]
      omega
    · have e : [D.tup []] ++ (ls.flatMap fun a => (id a).map fun b => tI (less a b)) = (wanted ls).map tI := by
        unfold wanted
        rw [List.map_cons, List.map_flatMap]
        show _ :: _ = _ :: _
        congr 1
        refine congrArg (fun g => ls.flatMap g) (funext fun a => ?_)
        rw [List.map_map]
        rfl
      rw [e]
      exact q
end
end K61

set_option Elab.async false
set_option linter.all false
set_option maxRecDepth 100000
set_option maxHeartbeats 4000000
/-! k61: what is wrong with lots -/
namespace K61
open PySem L2 DL M61
section
variable {P : Program} {w : World} {K : PySem.W.Frag} {mg : Str → Option Value} {base : Heap}
def hvD (ls : List (List Int)) : List (List Key × D) := ls.map fun l => (ik l, .bl true)
theorem ik_inj {a b : List Int} (h : ik a = ik b) : a = b := (List.map_inj_right (f := (Sum.inl : Int → Key)) fun x y e => by cases e; rfl).mp h
theorem look_hv (l : List Int) : ∀ ls : List (List Int), (look (hvD ls) (ik l)).isSome = decide (l ∈ ls)
  | [] => by simp [look, hvD]
  | m :: ls => by
    have ih := look_hv l ls
    unfold look hvD at ih ⊢
    rw [List.map_cons, List.find?_cons]
    by_cases e : m = l
    · subst e
      simp
    · have n1 : ¬ ik m = ik l := fun z => e (ik_inj z)
      have n2 : ¬ l = m := fun z => e z.symm
      simp only [n1, decide_false]
      rw [ih]
      simp [n2]
theorem sort_ints (a : List Int) (t : Int) (ha : a.Pairwise (· < ·)) (nt : t ∉ a) : (a ++ [t]).mergeSort (PySem.W.dataLe false fun i : Int => PyData.int i) = ins t a := by
  have e : PySem.W.dataLe false (fun i : Int => PyData.int i) = fun a b : Int => decide (a ≤ b) := PySem.W.dataLe_int (fun i : Int => i)
  rw [e]
  have p1 : ((a ++ [t]).mergeSort fun a b : Int => decide (a ≤ b)).Pairwise (· ≤ ·) := by
    have := List.pairwise_mergeSort (le := fun a b : Int => decide (a ≤ b)) (fun a b c h1 h2 => by simp at *; omega) (fun a b => by simp; omega) (a ++ [t])
    exact this.imp fun h => by simpa using h
  have p2 : (ins t a).Pairwise (· ≤ ·) := by
    clear p1 e nt
    induction a with
    | nil => simp [ins]
    | cons x a ih =>
      rw [List.pairwise_cons] at ha
      unfold ins
      split
      · rename_i h
        rw [List.pairwise_cons, List.pairwise_cons]
        refine ⟨fun y hy => ?_, fun y hy => ?_, ha.2.imp fun h => by omega⟩
        · rcases List.mem_cons.mp hy with e | e
          · omega
          · have := ha.1 y e; omega
        · have := ha.1 y hy; omega
      · rename_i h
        rw [List.pairwise_cons]
        refine ⟨fun y hy => ?_, ih ha.2⟩
        rcases List.mem_cons.mp ((ins_perm t a).mem_iff.mp hy) with e | e
        · omega
        · have := ha.1 y e; omega
  refine List.Perm.eq_of_pairwise (fun x y _ _ h1 h2 => by omega) p1 p2 ?_
  exact ((List.mergeSort_perm _ _).trans List.perm_append_comm).trans (ins_perm t a).symm
theorem cd_sortI {X : Cx} {Q : D → Prop} {d : D} {l : List Int} (hu : X.A.units + 100 < cLine) (sd : SeqD d (l.map D.int)) (hl : l.length ≤ 50000) (q : Q (.lst ((l.mergeSort (PySem.W.dataLe false fun i : Int => PyData.int i)).map D.int))) : CD X (.builtin "sorted") [.val d] Q :=
  cd_sortD (f := D.int) (enc := fun i : Int => PyData.int i) hu sd (fun b _ => .int b) (PySem.W.AllAlike.of fun _ _ => by simp [PySem.W.alike]) (.inr fun d hd => by obtain ⟨i, _, rfl⟩ := List.mem_map.mp hd; exact ⟨fun h => (by cases h), fun xs h => (by cases h)⟩) (fun b _ => by simp [PyData.depth]) hl q
def stk (ls : List (List Int)) (a b : List Int) : Bool := (b.filter fun t => !decide (t ∈ a)).all fun t => !decide (ins t a ∈ ls)
abbrev spStk : SpD := fun as Q => ∃ ls : List (List Int), ∃ a b : List Int, as = [.val (.dcT (hvD ls)), .val (tI a), .val (tI b)] ∧ a.Pairwise (· < ·) ∧ a.length ≤ 100 ∧ b.length ≤ 100 ∧ Q (.bl (stk ls a b))
abbrev NSt : List Str := ["held", "lot", "other", "added", "thing", "longer"]
theorem sc_stk : FnScope NSt ["held", "lot", "other"] (defScope (top 19)) := ⟨rfl, rfl, rfl, by decide +kernel, rfl, by decide +kernel, by decide +kernel⟩
theorem ok_stk {f : Addr} {fd : FuncData} (F : FunS K "_is_stuck" "_is_stuck" (top 19) f fd) (T : Txt K mg) : GnOk P w K mg base 1 f fd ["held", "lot", "other"] (lift K spStk) := by
  refine gn_dl F sc_stk (fun as Q h => by obtain ⟨_, _, _, rfl, _⟩ := h; rfl) (fun cdv A outer s H hr hG W as Q h => ?_)
  obtain ⟨ls, a, b, rfl, ha, la, lb, q⟩ := h
  have nd := sc_stk.nd
  refine sds_cons (sd_ft (f := D.int) (u := fun t => tI (ins t a)) (t := fun t => !decide (t ∈ a)) (l := b) (own := [("thing", 4)]) 3 rfl rfl 4 rfl nd (blkOk_by (by show blkC NSt (defScope (top 19)) _ _ = true; decide +kernel)) (fun _ _ _ _ _ => pg_name (i := 4) nd rfl (Or.inl rfl)) (by simp) (by omega) (.inr rfl) (nm 2 rfl) ?_ ?_ ?_)
  · intro t ht s2 H0 C2 cl fp
    exact td_cmp (nm 4 (nm 1 (od_ninI (.inr rfl) (kB rfl))))
  · intro t ht nt s2 H0 C2 cl fp
    have nt' : t ∉ a := by simpa using nt
    refine ed_callTy T.tuple (ad_cons (ed_callB T.sorted (ad_cons (ed_bin (nm 1 (ed_tup (ad_cons (nm 4 (ad_nil ⟨[.int t], rfl, by simp, od_catT (l := a.map D.int) (m := [.int t]) (by rw [List.length_map, List.length_singleton]; omega) (ad_nil (cd_sortI (l := a ++ [t]) (un100 hr) (.inr (by rw [List.map_append]; rfl)) (by rw [List.length_append, List.length_singleton]; omega) (ad_nil (cd_tuple ?_))))⟩)))))))))
    rw [sort_ints a t ha nt']
  · refine sds_frz 3 _ rfl ?_
    refine sds_cons (sd_ret (ed_not (ed_callB T.any (ad_cons (ed_fd (fd_mp (f := fun t => tI (ins t a)) (u := fun t => .bl (decide (ins t a ∈ ls))) (l := b.filter fun t => !decide (t ∈ a)) 5 rfl nd (own := [("longer", 5)]) (blkOk_by (by show blkC NSt (defScope (top 19)) _ _ = true; decide +kernel)) (fun _ _ _ _ _ => pg_name (i := 5) nd rfl (Or.inl rfl)) (by simp) (Nat.le_trans (List.length_filter_le _ _) (by omega)) (.inl rfl) (nm 3 rfl) ?_ (ad_nil ?_)))))))
    · intro t ht s2 H0 C2 cl fp
      refine ed_cmp (nm 5 (nm 0 ?_))
      rw [← tD_ik]
      refine od_din (un1 hr) ?_
      rw [look_hv]
    · have e : ((b.filter fun t => !decide (t ∈ a)).map fun t => D.bl (decide (ins t a ∈ ls))) = ((b.filter fun t => !decide (t ∈ a)).map fun t => decide (ins t a ∈ ls)).map D.bl := by rw [List.map_map]; rfl
      rw [e]
      refine cd_any rfl (kB ?_)
      have e2 : (!(((b.filter fun t => !decide (t ∈ a)).map fun t => decide (ins t a ∈ ls)).any id)) = stk ls a b := by
        unfold stk
        rw [List.any_map, List.not_any_eq_all_not]
        rfl
      rw [e2]
      exact q
/-! the lots are right -/
structure Lots (n : Nat) (ls : List (List Int)) : Prop where
  n5 : n ≤ 5
  sub : ∀ l ∈ ls, l ∈ ev n
  nd : ls.Nodup
theorem Lots.len {n : Nat} {ls : List (List Int)} (h : Lots n ls) : ls.length ≤ 32 := Nat.le_trans (nd_le' h.nd h.sub) (ev_len n h.n5)
where
  nd_le' {a b : List (List Int)} (nd : a.Nodup) (h : ∀ x ∈ a, x ∈ b) : a.length ≤ b.length := List.Nodup.length_le_of_subset nd h
abbrev spChk : SpD := fun as Q => ∃ n : Nat, ∃ d, ∃ ls : List (List Int), as = [.val (.int (n : Int)), .val d] ∧ SeqD d (ls.map tI) ∧ Lots n ls ∧ Q .non
abbrev NCh : List Str := ["many", "lots", "met", "position", "lot"]
theorem sc_chk : FnScope NCh ["many", "lots"] (defScope (top 17)) := ⟨rfl, rfl, rfl, by decide +kernel, rfl, by decide +kernel, by decide +kernel⟩
theorem ok_chk {f : Addr} {fd : FuncData} (F : FunS K "check_lots" "check_lots" (top 17) f fd) (T : Txt K mg) (IC : Df P w K mg base "is_count" 2 1 spCnt) (IL : Df P w K mg base "is_list" 1 1 spL) (RC : Df P w K mg base "is_rising_counts" 3 2 spRC) : GnOk P w K mg base 4 f fd ["many", "lots"] (lift K spChk) := by
  refine gn_dl F sc_chk (fun as Q h => by obtain ⟨_, _, _, rfl, _⟩ := h; rfl) (fun cdv A outer s H hr hG W as Q h => ?_)
  obtain ⟨n, d, ls, rfl, sd, L, q⟩ := h
  have nd := sc_chk.nd
  obtain ⟨tk, most⟩ := T.most
  have n5 := L.n5
  refine sds_cons (sd_if (td_of (tw_or (td_not (td_val (ed_call IC (hr.mono (j := 2) (by decide)) hG (ad_cons (nm 0 (ad_nil ⟨(n : Int), rfl, kB ?_⟩)))))))))
  rw [decide_eq_true (by omega)]
  show TW _ _ _ _ _
  refine tw_or1 (td_cmp (nm 0 (ed_gint most (od_gt (kB ?_)))))
  rw [decide_eq_false (by omega)]
  show SDs _ _ _ _ _ _
  refine sds_nil (sds_cons (sd_if (td_not (td_val (ed_call IL (hr.mono (j := 1) (by decide)) hG (ad_cons (nm 1 (ad_nil ⟨d, _, rfl, sd, kB ?_⟩))))))))
  show SDs _ _ _ _ _ _
  refine sds_nil (sds_cons (sd_newT 2 nd rfl ?_))
  refine sds_cons (sd_forES sd PassesOwn.never rfl T.enum (fun i S' => ∃ o3 o4, S' = [some (.val (.int (n : Int))), some (.val d), some (.ownT (hvD (ls.take i))), o3, o4]) (ad_cons (nm 1 (ad_nil ⟨rfl, none, none, rfl⟩))) ?_ ?_)
  · rintro i e S' hi ⟨o3, o4, rfl⟩
    rw [List.getElem?_map] at hi
    obtain ⟨l, hl, rfl⟩ := Option.map_eq_some_iff.mp hi
    have lm := List.mem_of_getElem? hl
    obtain ⟨v1, v2⟩ := ev_vd n n5 l (L.sub l lm)
    refine gd_tup rfl (gds_cons (gd_name 3 nd rfl (gds_cons (gd_name 4 nd rfl (gds_nil ?_))))) rfl
    refine sds_cons (sd_if (td_of (tw_or (td_not (td_val (ed_callB T.isi (ad_cons (nm 4 (ad_cons (ed_ty T.tuple (ad_nil (cd_isi (.tup _) (.ty _) (same (by decide +kernel)) (kB ?_)))))))))))))
    show TW _ _ _ _ _
    refine tw_or (td_not (td_val (ed_call RC (hr.mono (j := 3) (by decide)) hG (ad_cons (nm 4 (ad_cons (nm 0 (ad_nil ⟨l, (n : Int), rfl, v1, ?_, fun c hc => (v2 c hc).2, kB ?_⟩))))))))
    · exact (by decide +kernel : ∀ n, n ≤ 5 → ∀ l ∈ ev n, l.length ≤ 100) n n5 l (L.sub l lm)
    show TW _ _ _ _ _
    refine tw_or1 (td_inT 2 (hvD (ls.take i)) (un1 hr) rfl rfl (nm 4 ⟨ik l, (tD_ik _).symm, ?_⟩))
    have fr : l ∉ ls.take i := by
      intro z
      obtain ⟨k, hk, e2⟩ := List.getElem_of_mem z
      rw [List.length_take] at hk
      rw [List.getElem_take] at e2
      obtain ⟨h1, e3⟩ := List.getElem?_eq_some_iff.mp hl
      exact (List.pairwise_iff_getElem.mp L.nd) k i (by omega) h1 (by omega) (e2.trans e3.symm)
    rw [look_hv, decide_eq_false fr]
    show SDs _ _ _ _ _ _
    refine sds_nil (sds_cons (sd_putT 2 (hvD (ls.take i)) (un1 hr) rfl rfl ?_ (ed_bl (nm 4 ⟨ik l, (tD_ik _).symm, sds_nil ⟨some (.val (.int (i : Int))), some (.val (tI l)), ?_⟩⟩))))
    · have := L.len
      unfold hvD
      rw [List.length_map, List.length_take]
      omega
    · have e : putE (hvD (ls.take i)) (ik l) (.bl true) = hvD (ls.take (i + 1)) := by
        rw [putE_new]
        · unfold hvD
          rw [take1 (fun l => (ik l, D.bl true)) hl]
        · intro z
          unfold hvD at z
          rw [List.map_map] at z
          obtain ⟨m, hm, em⟩ := List.mem_map.mp z
          rw [← ik_inj em] at fr
          exact fr hm
      rw [e]
      rfl
  · rintro S' ⟨o3, o4, rfl⟩
    exact sds_nil q
end
end K61

set_option Elab.async false
set_option linter.all false
set_option maxRecDepth 100000
set_option maxHeartbeats 4000000
/-! k61: bad_lot, is_house -/
namespace K61
open PySem L2 DL M61
theorem find_pre {α β : Type} {g : α → Option β} {a : α} {c : β} : ∀ {l : List α} {i : Nat}, l[i]? = some a → (∀ x ∈ l.take i, g x = none) → g a = some c → l.findSome? g = some c
  | [], i, h, _, _ => by simp at h
  | x :: l, 0, h, _, e => by
    simp at h
    subst h
    rw [List.findSome?_cons, e]
  | x :: l, i + 1, h, n, e => by
    rw [List.findSome?_cons, n x (by simp)]
    exact find_pre (l := l) (i := i) (by simpa using h) (fun y hy => n y (by rw [List.take_succ_cons]; exact List.mem_cons_of_mem _ hy)) e
theorem find_pre2 {α : Type} {p : α → Bool} {a : α} : ∀ {l : List α} {i : Nat}, l[i]? = some a → (∀ x ∈ l.take i, p x = false) → p a = true → l.find? p = some a
  | [], i, h, _, _ => by simp at h
  | x :: l, 0, h, _, e => by
    simp at h
    subst h
    rw [List.find?_cons_of_pos e]
  | x :: l, i + 1, h, n, e => by
    rw [List.find?_cons_of_neg (by rw [n x (by simp)]; decide)]
    exact find_pre2 (l := l) (i := i) (by simpa using h) (fun y hy => n y (by rw [List.take_succ_cons]; exact List.mem_cons_of_mem _ hy)) e
theorem lacks_eq (ls : List (List Int)) : (wanted ls).filter (fun l => !decide (l ∈ ls)) = lacks ls := by
  unfold lacks
  refine congrArg (fun g => (wanted ls).filter g) (funext fun l => ?_)
  by_cases h : l ∈ ls <;> simp [h]
theorem stuck_eq (ls : List (List Int)) (a b : List Int) : stuckB ls a b = (decide (a.length < b.length) && stk ls a b) := by
  unfold stuckB stk
  have e1 : (fun t => !a.contains t) = fun t : Int => !decide (t ∈ a) := funext fun t => by by_cases h : t ∈ a <;> simp [h]
  have e2 : (fun t => !ls.contains (ins t a)) = fun t : Int => !decide (ins t a ∈ ls) := funext fun t => by by_cases h : ins t a ∈ ls <;> simp [h]
  rw [e1, e2]
def resD : Res → D
  | .none => .non
  | .lacks l => .tup [.str "lacks", tI l]
  | .stuck a b => .tup [.str "stuck", tI a, tI b]
theorem mem_snoc {α : Type} {l : List α} {i : Nat} {a b : α} (h : l[i]? = some a) (hb : b ∈ l.take (i + 1)) : b ∈ l.take i ∨ b = a := by
  rw [List.take_add_one, h] at hb
  rcases List.mem_append.mp hb with e | e
  · exact .inl e
  · exact .inr (by simpa using e)
section
variable {P : Program} {w : World} {K : PySem.W.Frag} {mg : Str → Option Value} {base : Heap}
abbrev spBad : SpD := fun as Q => ∃ n : Nat, ∃ d, ∃ ls : List (List Int), as = [.val (.int (n : Int)), .val d] ∧ SeqD d (ls.map tI) ∧ Lots n ls ∧ Q (resD (fault n ls))
abbrev NBa : List Str := ["many", "lots", "held", "lacks", "sorted_lots", "lot", "other"]
theorem sc_bad : FnScope NBa ["many", "lots"] (defScope (top 16)) := ⟨rfl, rfl, rfl, by decide +kernel, rfl, by decide +kernel, by decide +kernel⟩
theorem ok_bad {f : Addr} {fd : FuncData} (F : FunS K "bad_lot" "bad_lot" (top 16) f fd) (T : Txt K mg) (CK : Df P w K mg base "check_lots" 4 2 spChk) (WA : Df P w K mg base "_wanted" 2 1 spWan) (BL : Df P w K mg base "by_length" 4 1 spByL) (ST : Df P w K mg base "_is_stuck" 1 3 spStk) : GnOk P w K mg base 5 f fd ["many", "lots"] (lift K spBad) := by
  refine gn_dl F sc_bad (fun as Q h => by obtain ⟨_, _, _, rfl, _⟩ := h; rfl) (fun cdv A outer s H hr hG W as Q h => ?_)
  obtain ⟨n, d, ls, rfl, sd, L, q⟩ := h
  have nd := sc_bad.nd
  have n5 := L.n5
  have l32 := L.len
  have le100 : ∀ l ∈ ev n, l.length ≤ 5 := (by decide +kernel : ∀ n, n ≤ 5 → ∀ l ∈ ev n, l.length ≤ 5) n n5
  have ll : ∀ l ∈ ls, l.length ≤ 5 := fun l h => le100 l (L.sub l h)
  have wl : (wanted ls).length ≤ 161 := by
    unfold wanted
    rw [List.length_cons, List.length_flatMap]
    have : ∀ l' : List (List Int), (∀ a ∈ l', a.length ≤ 5) → (l'.map fun a => (a.map (less a)).length).sum ≤ 5 * l'.length := by
      intro l' h'
      induction l' with
      | nil => simp
      | cons a l' ih =>
        have h1 := ih fun b hb => h' b (List.mem_cons_of_mem _ hb)
        have h2 := h' a (List.mem_cons_self ..)
        simp only [List.map_cons, List.sum_cons, List.length_cons, List.length_map] at h1 ⊢
        omega
    have := this ls ll
    show (List.map (fun a : List Int => (a.map (less a)).length) ls).sum + 1 ≤ 161
    omega
  refine sds_cons (sd_expr (ed_call CK (hr.mono (j := 4) (by decide)) hG (ad_cons (nm 0 (ad_cons (nm 1 (ad_nil ⟨n, d, ls, rfl, sd, L, ?_⟩)))))))
  refine sds_cons (sd_set 2 nd rfl (ed_ft (ft_mp (f := tI) (ky := ik) (vl := fun _ => .bl true) (l := ls) (own := [("lot", 5)]) 5 rfl (un1 hr) nd (blkOk_by (by show blkC NBa (defScope (top 16)) _ _ = true; decide +kernel)) (fun _ _ _ _ _ => pg_name (i := 5) nd rfl (Or.inl rfl)) (by simp) (by omega) sd (nm 1 rfl) ?_ ?_ ?_ ?_)))
  · exact List.Pairwise.map _ (fun a b h z => h (ik_inj z)) L.nd
  · intro l hl s2 H0 C2 cl fp
    exact nm 5 (tD_ik l).symm
  · intro l hl s2 H0 C2 cl fp
    exact ed_bl rfl
  refine sds_cons (sd_ft (f := tI) (u := tI) (t := fun l => !decide (l ∈ ls)) (l := wanted ls) (own := [("lot", 5)]) 3 rfl rfl 5 rfl nd (blkOk_by (by show blkC NBa (defScope (top 16)) _ _ = true; decide +kernel)) (fun _ _ _ _ _ => pg_name (i := 5) nd rfl (Or.inl rfl)) (by simp) (by omega) (.inl rfl) (ed_call WA (hr.mono (j := 2) (by decide)) hG (ad_cons (nm 1 (ad_nil ⟨d, ls, rfl, sd, by omega, fun l h => by have := ll l h; omega, rfl⟩)))) ?_ ?_ ?_)
  · intro l hl s2 H0 C2 cl fp
    refine td_cmp (nm 5 (nm 2 ?_))
    rw [← tD_ik]
    refine od_dnin (un1 hr) (kB ?_)
    have := look_hv l ls
    unfold hvD at this
    rw [this]
  · intro l hl _ s2 H0 C2 cl fp
    exact nm 5 rfl
  rw [lacks_eq]
  refine sds_frz 3 _ rfl ?_
  refine sds_cons (sd_if (td_truth (nm (d := .lst ((lacks ls).map tI)) 3 ⟨!((lacks ls).map tI).isEmpty, rfl, ?_⟩)))
  cases hk : lacks ls with
  | cons x xs =>
    show SDs _ _ _ _ _ _
    have lkl : (lacks ls).length ≤ 161 := Nat.le_trans (List.length_filter_le _ _) wl
    refine sds_cons (sd_ret (ed_tup (ad_cons (ed_str (ad_cons (ed_ix (ed_call BL (hr.mono (j := 4) (by decide)) hG (ad_cons (nm 3 (ad_nil ⟨_, lacks ls, rfl, .inl (by rw [hk]), by omega, fun ys p pw => ed_int ?_⟩))))))))))
    cases hy : ys with
    | nil =>
      rw [hy, hk] at p
      exact absurd p.length_eq (by simp)
    | cons y t =>
      refine ⟨(y :: t).map tI, 0, tI y, .inl rfl, rfl, atI_nat (xs := (y :: t).map tI) (j := 0) (by rfl), ad_nil ⟨[.str "lacks", tI y], rfl, by simp, ?_⟩⟩
      have e := lacks_find n5 L.sub p pw hy
      have e2 : fault n ls = .lacks y := by unfold fault; rw [e]
      rw [e2] at q
      exact q
  | nil =>
    show SDs _ _ _ _ _ _
    have f1 := lacks_none n5 L.sub hk
    refine sds_nil (sds_cons (sd_set 4 nd rfl (ed_call BL (hr.mono (j := 4) (by decide)) hG (ad_cons (nm 1 (ad_nil ⟨d, ls, rfl, sd, by omega, fun ys p pw => ?_⟩))))))
    obtain rfl := told_of n5 L.sub L.nd p pw
    have tm : ∀ l ∈ told n ls, l ∈ ev n ∧ l ∈ ls := fun l h => by
      unfold told at h
      rw [List.mem_filter, List.contains_iff_mem] at h
      exact h
    let kv : D := .dcT (ls.map fun a => (ik a, .bl true))
    have hit : ∀ a b i j, (told n ls)[i]? = some a → (told n ls)[j]? = some b → (∀ x ∈ (told n ls).take i, (told n ls).find? (stuckB ls x) = none) → (∀ y ∈ (told n ls).take j, stuckB ls a y = false) → stuckB ls a b = true → fault n ls = .stuck a b := by
      intro a b i j ha hb pa pb e
      have e1 : stuckIn ls (told n ls) = some (a, b) := by
        unfold stuckIn
        refine find_pre ha (fun x hx => by rw [pa x hx]; rfl) ?_
        rw [find_pre2 hb pb e]
        rfl
      unfold fault
      rw [f1, e1]
    refine sds_cons (sd_forL (l := (told n ls).map tI) PassesOwn.never rfl (fun i S' => ∃ o5 o6, S' = [some (.val (.int (n : Int))), some (.val d), some (.val kv), some (.val (.lst [])), some (.val (.lst ((told n ls).map tI))), o5, o6] ∧ ∀ x ∈ (told n ls).take i, (told n ls).find? (stuckB ls x) = none) (nm 4 ⟨rfl, none, none, rfl, by simp⟩) ?_ ?_)
    · rintro i e S' hi ⟨o5, o6, rfl, pa⟩
      rw [List.getElem?_map] at hi
      obtain ⟨a, ha, rfl⟩ := Option.map_eq_some_iff.mp hi
      have am := tm a (List.mem_of_getElem? ha)
      have av := ev_vd n n5 a am.1
      refine gd_name 5 nd rfl (sds_cons (sd_forL (l := (told n ls).map tI) PassesOwn.never rfl (fun j S' => ∃ o6, S' = [some (.val (.int (n : Int))), some (.val d), some (.val kv), some (.val (.lst [])), some (.val (.lst ((told n ls).map tI))), some (.val (tI a)), o6] ∧ ∀ y ∈ (told n ls).take j, stuckB ls a y = false) (nm 4 ⟨rfl, o6, rfl, by simp⟩) ?_ ?_))
      · rintro j e2 S' hj ⟨o6, rfl, pb⟩
        rw [List.getElem?_map] at hj
        obtain ⟨b, hb, rfl⟩ := Option.map_eq_some_iff.mp hj
        have bm := tm b (List.mem_of_getElem? hb)
        have next : stuckB ls a b = false → ∀ y ∈ (told n ls).take (j + 1), stuckB ls a y = false := fun e y hy => by
          rcases mem_snoc hb hy with z | z
          · exact pb y z
          · rw [z]; exact e
        refine gd_name 6 nd rfl (sds_cons (sd_if (td_of (tw_and (td_cmp (ed_callB T.len (ad_cons (nm 5 (ad_nil (cd_len (l := a.map D.int) (.inr rfl) (ed_callB T.len (ad_cons (nm 6 (ad_nil (cd_len (l := b.map D.int) (.inr rfl) (od_lt (kB ?_)))))))))))))))))
        rw [List.length_map, List.length_map]
        by_cases c : a.length < b.length
        · rw [decide_eq_true (by omega)]
          show TW _ _ _ _ _
          refine tw_and1 (td_val (ed_call ST (hr.mono (j := 1) (by decide)) hG (ad_cons (nm 2 (ad_cons (nm 5 (ad_cons (nm 6 (ad_nil ⟨ls, a, b, rfl, av.1, by have := le100 a am.1; omega, by have := le100 b bm.1; omega, kB ?_⟩)))))))))
          cases sb : stk ls a b with
          | true =>
            show SDs _ _ _ _ _ _
            have e3 : stuckB ls a b = true := by rw [stuck_eq, sb, decide_eq_true c]; rfl
            refine sds_cons (sd_ret (ed_tup (ad_cons (ed_str (ad_cons (nm 5 (ad_cons (nm 6 (ad_nil ⟨[.str "stuck", tI a, tI b], rfl, by simp, ?_⟩)))))))))
            rw [hit a b i j ha hb pa pb e3] at q
            exact q
          | false =>
            show SDs _ _ _ _ _ _
            exact sds_nil (sds_nil ⟨_, rfl, next (by rw [stuck_eq, sb, Bool.and_false])⟩)
        · rw [decide_eq_false (by omega)]
          show SDs _ _ _ _ _ _
          exact sds_nil (sds_nil ⟨_, rfl, next (by rw [stuck_eq, decide_eq_false c]; rfl)⟩)
      · rintro S' ⟨o6, rfl, pb⟩
        refine sds_nil ⟨_, _, rfl, fun x hx => ?_⟩
        rw [List.length_map, List.take_length] at pb
        rcases mem_snoc ha hx with z | z
        · exact pa x z
        · rw [z, List.find?_eq_none]
          intro y hy z2
          rw [pb y hy] at z2
          cases z2
    · rintro S' ⟨o5, o6, rfl, pa⟩
      rw [List.length_map, List.take_length] at pa
      have e1 : stuckIn ls (told n ls) = none := by
        unfold stuckIn
        rw [List.findSome?_eq_none_iff]
        intro x hx
        rw [pa x hx]
        rfl
      have e2 : fault n ls = .none := by unfold fault; rw [f1, e1]
      rw [e2] at q
      exact sds_cons (sd_ret (ed_non q))
abbrev spHou : SpD := fun as Q => ∃ n : Nat, ∃ d, ∃ ls : List (List Int), as = [.val (.int (n : Int)), .val d] ∧ SeqD d (ls.map tI) ∧ Lots n ls ∧ Q (.bl (match fault n ls with | .none => true | _ => false))
theorem sc_hou : FnScope ["many", "lots"] ["many", "lots"] (defScope (top 15)) := ⟨rfl, rfl, rfl, by decide +kernel, rfl, by decide +kernel, by decide +kernel⟩
theorem ok_hou {f : Addr} {fd : FuncData} (F : FunS K "is_house" "is_house" (top 15) f fd) (BA : Df P w K mg base "bad_lot" 5 2 spBad) : GnOk P w K mg base 6 f fd ["many", "lots"] (lift K spHou) := by
  refine gn_dl F sc_hou (fun as Q h => by obtain ⟨_, _, _, rfl, _⟩ := h; rfl) (fun cdv A outer s H hr hG W as Q h => ?_)
  obtain ⟨n, d, ls, rfl, sd, L, q⟩ := h
  refine sds_cons (sd_ret (ed_cmp (ed_call BA hr hG (ad_cons (nm 0 (ad_cons (nm 1 (ad_nil ⟨n, d, ls, rfl, sd, L, ed_non (od_isN ?_)⟩))))))))
  generalize fault n ls = r at q ⊢
  cases r <;> exact q
end
end K61

set_option Elab.async false
set_option linter.all false
set_option maxRecDepth 100000
set_option maxHeartbeats 4000000
/-! two owned lists at once; what is popped of one goes to the other; len of an owned list; list(range(n)) -/
namespace DL
open PySem PySem.Spec PyProof.Rows L2
section
variable {X : Cx} {B : Hp} {W0 : Wd} {S : En} {pos px py p : Pos} {e a b : Expr} {x y : Str} {Q : D → Prop} {E : Ends'}
theorem ed_lenOwn (i : Nat) (l : List D) (hm : X.mg "len" = none) (hN : X.N[i]? = some x) (h : S[i]? = some (some (.own l))) (q : Q (.int (l.length : Int))) (hg : Gl X "len" := by rfl) (hv : Vis X.env.scope x := by first | exact Or.inl rfl | exact Or.inr (Or.inl rfl) | exact Or.inr (Or.inr rfl))
    (hd : (x == ("__debug__" : Str)) = false := by decide) (hcd : (x == ("__classdict__" : Str)) = false := by decide) (hbv : bootBuiltins "len" = some (.builtin "len") := by first | rfl | decide +kernel)
    (hps : X.mg "len" = none → PE X (.Call (.Name "len" p) [.Name x px] [] pos) (tCB (fun vs H Q => ∃ a xs, vs = [V.ref a] ∧ (SqL X.K H a xs ∨ SqT X.K H a xs) ∧ Q (.int (xs.length : Int)) H) (tCons (tVar i) tNil)) := by exact fun hm => pe_callB call_len_seq rfl hm (by first | rfl | decide +kernel) (pa_cons (pe_var (by rfl) (by first | exact Or.inl rfl | exact Or.inr (Or.inl rfl) | exact Or.inr (Or.inr rfl))) pa_nil)) : ED X B S (.Call (.Name "len" p) [.Name x px] [] pos) Q := fun σ W H r R k => by
  refine PE.w (hps hm) ?_
  obtain ⟨v, e1, p, xs, rfl, hB, n, hI, hH, d0⟩ := r.sl i _ h
  refine ⟨_, e1, p, xs, rfl, .inl (SqL.of hH), ?_⟩
  rw [← d0.length]
  exact k.now r.ok (.int _) q
theorem sd_parOwn {pt : Pos} {kt k2 pt2} (i j : Nat) (hij : i ≠ j) (h : FD X B S a fun l => FD X B S b fun m => E.nx ((S.set i (some (.own l))).set j (some (.own m))))
    (hps : PS X (.Assign [.Tuple [.Name x px, .Name y py] kt pt] (.Tuple [a, b] k2 pt2) pos) (tPar i j (tCons (WE X a) (tCons (WE X b) tNil)))) :
    SD X B W0 S (.Assign [.Tuple [.Name x px, .Name y py] kt pt] (.Tuple [a, b] k2 pt2) pos) E := fun σ W H r z D' k => by
  refine PS.w hps ?_
  refine h σ W H r _ fun l p xs W1 H1 s1 ok1 hp n i1 hl d q1 => ?_
  refine q1 σ W1 H1 (r.step s1 ok1) _ fun m p' ys W2 H2 s2 ok2 hp' n' i2 hl' d' q2 => ?_
  have ne : p ≠ p' := fun e => by rw [e, hp'] at hl; cases hl
  have r1 := r.step s1 ok1
  have r2 := r1.step s2 ok2
  have new1 : ∀ (j : Nat) (m : List D), S[j]? = some (some (.own m)) → σ[j]? ≠ some (some (.ref p)) := fun j m e1 e2 => by
    obtain ⟨v, e3, p2, zs, e4, _, _, _, h4, _⟩ := r.sl j _ e1
    rw [e2] at e3
    cases e3
    cases e4
    rw [hp] at h4
    cases h4
  have r3 := r2.setOwn (i := i) (z.free r.ok hp) (fun y => n (s2.oldP p _ hl y)) (s2.old p _ hl (fun _ y => by cases y) i1) (s2.keep p _ hl n) (d.mono s2.I) new1
  have new2 : ∀ (j' : Nat) (m : List D), (S.set i (some (.own l)))[j']? = some (some (.own m)) → (σ.set i (some (.ref p)))[j']? ≠ some (some (.ref p')) := fun j' m e1 e2 => by
    by_cases c : i = j'
    · subst c
      by_cases lt : i < σ.length
      · rw [List.getElem?_set_self lt] at e2
        cases e2
        exact ne rfl
      · rw [List.getElem?_eq_none (by rw [List.length_set]; omega)] at e2
        cases e2
    · rw [List.getElem?_set_ne c] at e1 e2
      obtain ⟨v, e3, p2, zs, e4, _, _, _, h4, _⟩ := r1.sl j' _ e1
      rw [e2] at e3
      cases e3
      cases e4
      rw [hp'] at h4
      cases h4
  have zz := z.trans r.ok s1
  exact ⟨.ref p, .ref p', rfl, k.nx _ _ W2 H2 (r3.setOwn (i := j) (zz.free ok1 hp') n' i2 hl' d' new2) (zz.trans ok1 s2) (s1.I.trans s2.I) q2⟩
/-- x.append(y.pop(e)) -/
theorem sd_appPop {ap ap2 cp cp2 : Pos} (i j : Nat) (l m : List D) (hij : i ≠ j) (hS : S[i]? = some (some (.own l))) (hT : S[j]? = some (some (.own m))) (hl : l.length < 50000) (he : ED X B S e fun d => ∃ (k : Nat) (a : D), d = .int (k : Int) ∧ m[k]? = some a ∧ m.length < 50000 ∧ E.nx ((S.set j (some (.own (m.eraseIdx k)))).set i (some (.own (l ++ [a])))))
    (hps : PE X (.Call (.Attribute (.Name x px) "append" ap) [.Call (.Attribute (.Name y py) "pop" ap2) [e] [] cp2] [] cp) (tBM X.K "list" rAppend (tVar i) (tCons (tBM X.K "list" rPopAt (tVar j) (tCons (WE X e) tNil)) tNil)))
    (hs : swapsWith (.Call (.Attribute (.Name x px) "append" ap) [.Call (.Attribute (.Name y py) "pop" ap2) [e] [] cp2] [] cp) none pos.line X.env = pure false) : SD X B W0 S (.Expr (.Call (.Attribute (.Name x px) "append" ap) [.Call (.Attribute (.Name y py) "pop" ap2) [e] [] cp2] [] cp) pos) E := fun σ W H r z D' k => by
  refine PS.w (ps_expr hps hs) ?_
  obtain ⟨v, e1, p, xs, ev, hB, n, hI, hH, d0⟩ := r.sl i _ hS
  subst ev
  obtain ⟨v', e1', p', ys, ev', hB', n', hI', hH', d0'⟩ := r.sl j _ hT
  subst ev'
  have ne : p ≠ p' := fun q => r.dist i j l m p hij hS hT e1 (by rw [q]; exact e1')
  refine ⟨_, e1, .inl ⟨rfl, _, SqL.of hH⟩, ?_⟩
  refine ⟨_, e1', .inl ⟨rfl, _, SqL.of hH'⟩, ?_⟩
  refine he σ W H r _ fun d v W1 H1 s1 ok1 n1 q1 => ?_
  obtain ⟨k1, a, rfl, hk, hm, q1⟩ := q1
  cases n1
  have hH1 : H1 p = some (.lst xs) := s1.keep _ _ hH n
  have nP : ¬ W1.P p := fun q => n (s1.oldP p _ hH q)
  have hI1 : W1.I p = none := s1.old p _ hH (fun _ z => by cases z) hI
  have hH1' : H1 p' = some (.lst ys) := s1.keep _ _ hH' n'
  have nP' : ¬ W1.P p' := fun q => n' (s1.oldP p' _ hH' q)
  have hI1' : W1.I p' = none := s1.old p' _ hH' (fun _ z => by cases z) hI'
  have d1 := d0.mono s1.I
  have d1' := d0'.mono s1.I
  obtain ⟨u, hu, na⟩ := d1'.get' hk
  have hkx : k1 < ys.length := (List.getElem?_eq_some_iff.mp hu).1
  have ly := d0'.length
  refine ⟨p', ys, k1, k1, u, rfl, rfl, hH1', by omega, by omega, (ixN_seq (ixN_lt hkx)).1, hu, ?_⟩
  have de : Dns X.K W1.I (m.eraseIdx k1) (ys.eraseIdx k1) := by
    rw [List.eraseIdx_eq_take_drop_succ, List.eraseIdx_eq_take_drop_succ]
    exact (dns_take k1 d1').append (dns_drop (k1 + 1) d1')
  have r2 := (r.step s1 ok1).putOwn hT e1' hB' nP' hI1' hH1' de
  have hH2 : upd H1 p' (.lst (ys.eraseIdx k1)) p = some (.lst xs) := by rw [upd_ne ne]; exact hH1
  refine ⟨p, xs, u, rfl, rfl, hH2, Nat.lt_of_lt_of_le (d0.length ▸ hl) (by decide), ?_⟩
  have r3 := r2.putOwn (i := i) (l := l) (by rw [List.getElem?_set_ne (Ne.symm hij)]; exact hS) e1 hB nP hI1 hH2 (d1.append (.cons na .nil))
  exact k.nx _ σ W1 _ r3 (stp_upd (stp_upd (z.trans r.ok s1) hB') hB) s1.I q1
end
end DL

set_option Elab.async false
set_option linter.all false
set_option maxRecDepth 100000
set_option maxHeartbeats 8000000
/-! k61: what the law draws; all lots; lots mixed; determinants; ties -/
namespace K61
open PySem L2 DL M61
section
variable {X : Cx} {B : Hp} {W0 : Wd} {S : En} {st : Stmt} {E : Ends'} {p p2 pos pos2 : Pos} {e : Expr} {Q : D → Prop}
theorem sd_mid (QS : En → Prop) (k : ∀ S', QS S' → E.nx S') (h : SD X B W0 S st { E with nx := QS }) : SD X B W0 S st E := fun σ W H r z D' q => h σ W H r z D' ⟨fun S' σ' W' H' r' z' x' y => q.nx S' σ' W' H' r' z' x' (k S' y), q.rt, q.bk, q.ct⟩
/-- list(range(n)) -/
theorem ed_listR {n : Nat} (hc : X.calm = true) (hl : X.mg "list" = none) (hr : X.mg "range" = none) (h : ED X B S e fun d => d = .int (n : Int) ∧ n ≤ 1000 ∧ Q (.lst ((List.range n).map fun (i : Nat) => D.int (i : Int))))
    (hps : X.mg "list" = none → X.mg "range" = none → PE X (.Call (.Name "list" p) [.Call (.Name "range" p2) [e] [] pos2] [] pos) (tLstRg (tRg1 (WE X e))) := by exact fun hl hr => pe_listRg rfl rfl hl (prg_1 rfl hr DL.we_pe)) : ED X B S (.Call (.Name "list" p) [.Call (.Name "range" p2) [e] [] pos2] [] pos) Q := fun σ W H r R k => by
  refine PE.w (hps hl hr) ?_
  refine h σ W H r _ fun d v W1 H1 s1 ok1 n1 q1 => ?_
  obtain ⟨rfl, hn, q⟩ := q1
  cases n1
  refine ⟨(n : Int), rfl, RgOk.of_le (by omega) (by omega) (by omega) (by omega), fun q2 hq => ?_⟩
  have st := Stp.new (o := .lst (rgV 0 (n : Int))) ok1 hq
  refine k _ _ _ _ (s1.trans ok1 st) (ok1.new hq) (.lst (show upd W1.I q2 _ q2 = _ from upd_same) ?_) q
  have e : rgV 0 (n : Int) = (List.range n).map fun (i : Nat) => V.int (i : Int) := by
    unfold rgV
    rw [Int.sub_zero, Int.toNat_natCast]
    exact List.map_congr_left fun i _ => by rw [Int.zero_add]
  rw [e]
  have key : ∀ l : List Nat, Dns X.K (W1.new q2 (.lst (rgV 0 (n : Int)))).I (l.map fun (i : Nat) => D.int (i : Int)) (l.map fun (i : Nat) => V.int (i : Int)) := by
    intro l
    induction l with
    | nil => exact .nil
    | cons a l ih => exact .cons (.int _) ih
  rw [← e]
  exact e ▸ key _
end
section
variable {P : Program} {w : World} {K : PySem.W.Frag} {mg : Str → Option Value} {base : Heap}
abbrev spPot : SpN := fun as Q => ∃ ns, ∃ k : Nat, as = [.val (.frl ns), .val (.int (k : Int))] ∧ k < 100 ∧ ∀ a b : Int, 0 ≤ b ∧ b < 2 ^ 31 → Q [.int a, .int b]
theorem sc_pot : FnScope ["_law_script", "_law_k", "_law_cell"] ["_law_script", "_law_k"] (defScope (top 22)) := ⟨rfl, rfl, rfl, by decide +kernel, rfl, by decide +kernel, by decide +kernel⟩
theorem ok_pot {f : Addr} {fd : FuncData} (F : FunS K "_law_pot" "_law_pot" (top 22) f fd) (T : Txt K mg) : GnOk P w K mg base 1 f fd ["_law_script", "_law_k"] (liftN K spPot) := by
  refine gn_new F sc_pot (fun as Q h => by obtain ⟨_, _, rfl, _⟩ := h; rfl) (fun cdv A outer s H hr hG W as Q h => ?_)
  obtain ⟨ns, k, rfl, hk, q⟩ := h
  have nd := sc_pot.nd
  refine sn_cons (sd_mid (fun S' => ∃ z : Int, S' = [some (.val (.frl ns)), some (.val (.int (k : Int))), some (.val (.int z))]) ?_ (sd_set 2 nd rfl (ed_ifx (td_cmp (nm 1 (ed_callB T.len (ad_cons (nm 0 (ad_nil (cd_lenF (od_lt (kB ?_))))))))))))
  · rintro S' ⟨z, rfl⟩
    refine sn_ret (fd_lst (ad_cons (ed_callB T.max (ad_cons (ed_int (ad_cons (ed_bin (nm 2 (ed_bin (ed_int (ed_int (od_pow ⟨by decide, by decide, by decide⟩ (od_sub (ad_nil (cd_max rfl (ad_cons (ed_bin (ed_bin (ed_callTy T.int (ad_cons (ed_bin (ed_bin (ed_bin (ed_bin (ed_callTy T.int (ad_cons (nm 2 (ad_nil (cd_int (ed_int (od_mod (by decide) (ed_int (od_mulS (.inr (by decide)) (ed_bin (ed_int (nm 1 (od_mulS (.inl (by decide)) (od_add (ed_int (od_add (ad_nil (cd_int (ed_int (od_mod (by decide) (ed_int (od_add (ad_nil ⟨[.int _, .int _], rfl, by simp, q _ _ ?_⟩)))))))))))))))))))))))))))))))))))))))))))))))
    constructor <;> omega
  · by_cases c : k < ns.length
    · rw [decide_eq_true (by omega)]
      show ED _ _ _ _ _
      exact ed_callB T.abs (ad_cons (ed_ixF (nm 0 (nm 1 ⟨_, k, ns[k], rfl, rfl, List.getElem?_eq_getElem c, ad_nil (cd_abs ⟨_, rfl⟩)⟩))))
    · rw [decide_eq_false (by omega)]
      show ED _ _ _ _ _
      exact ed_bin (ed_bin (ed_int (nm 1 (od_mulS (.inl (by decide)) (ed_int (od_add ⟨_, rfl⟩))))))
theorem sc_draw : FnScope ["_law_pot_here", "_law_many", "_law_digit"] ["_law_pot_here", "_law_many"] (defScope (top 23)) := ⟨rfl, rfl, rfl, by decide +kernel, rfl, by decide +kernel, by decide +kernel⟩
abbrev spDraw : SpD := fun as Q => ∃ n : Int, as = [.pot, .val (.int n)] ∧ 0 < n ∧ n < 1073741824 ∧ ∀ d : Nat, (d : Int) < n → Q (.int (d : Int))
theorem small_mul {a b : Int} (h : 0 ≤ a ∧ a < 2 ^ 31) (k : 0 ≤ b ∧ b < 2 ^ 31) : (-(2 ^ 64) < a ∧ a < 2 ^ 64) ∨ (-(2 ^ 64) < b ∧ b < 2 ^ 64) := .inl (by omega)
theorem ok_draw {f : Addr} {fd : FuncData} (F : FunS K "_law_draw" "_law_draw" (top 23) f fd) (T : Txt K mg) : GnOk P w K mg base 1 f fd ["_law_pot_here", "_law_many"] (lift K spDraw) := by
  refine gn_dl F sc_draw (fun as Q h => by obtain ⟨n, rfl, _⟩ := h; rfl) (fun cdv A outer s H hr hG W as Q h => ?_)
  obtain ⟨n, rfl, h0, h1, q'⟩ := h
  have q : ∀ d : Int, 0 ≤ d → d < n → Q (.int d) := fun d d0 d1 => by
    have := q' d.toNat (by rw [Int.toNat_of_nonneg d0]; exact d1)
    rw [Int.toNat_of_nonneg d0] at this
    exact this
  have nd := sc_draw.nd
  refine sds_cons (sd_if (td_cmp (ed_potix (j := 0) 0 rfl rfl (by decide) fun z _ => ed_int (od_gt (kB ?_)))))
  cases decide (0 < z) with
  | true =>
    refine sds_cons (sd_asg (ed_callB T.divmod (ad_cons (ed_potix (j := 0) 0 rfl rfl (by decide) fun z _ => ad_cons (nm 1 (ad_nil (cd_divmod ⟨h0, h1⟩ ?_)))))))
    refine gd_tup rfl (gds_cons (gd_pot (j := 0) 0 rfl rfl (by decide) (fun z => absurd z (by decide)) (gds_cons (gd_name 2 nd rfl (gds_nil ?_))))) rfl
    exact sds_cons (sd_ret (nm 2 (q _ (Int.emod_nonneg _ (by omega)) (Int.emod_lt_of_pos _ h0))))
  | false =>
    refine sds_nil (sds_cons (sd_asg (ed_bin (ed_callTy T.int (ad_cons (ed_bin (ed_bin (ed_potix (j := 1) 0 rfl rfl (by decide) fun z hz => ed_int (od_mulS (.inr (by decide)) (ed_int (od_add (ad_nil (cd_int (ed_int (od_mod (by decide) ?_)))))))))))))))
    refine gd_pot (j := 1) 0 rfl rfl (by decide) (fun _ => ⟨Int.emod_nonneg _ (by decide), Int.lt_trans (Int.emod_lt_of_pos _ (by decide)) (by decide)⟩) ?_
    refine sds_cons (sd_ret (ed_bin (ed_callTy T.int (ad_cons (ed_bin (ed_bin (ed_callTy T.int (ad_cons (ed_bin (ed_potix (j := 1) 0 rfl rfl (by decide) fun y hy => ed_potix (j := 1) 0 rfl rfl (by decide) fun x hx => od_mulS (small_mul (hy rfl) (hx rfl)) (ad_nil (cd_int (ed_int (od_mod (by decide) (ed_int (od_fdiv ⟨by decide, by decide⟩ (ad_nil (cd_int (nm 1 (od_mod h0 ?_))))))))))))))))))))
    exact q _ (Int.emod_nonneg _ (by omega)) (Int.emod_lt_of_pos _ h0)
theorem sc_pick : FnScope ["_law_pot_here", "_law_some"] ["_law_pot_here", "_law_some"] (defScope (top 24)) := ⟨rfl, rfl, rfl, by decide +kernel, rfl, by decide +kernel, by decide +kernel⟩
abbrev spPick : SpD := fun as Q => ∃ l : List D, as = [.pot, .val (.lst l)] ∧ 0 < l.length ∧ l.length < 1000 ∧ ∀ d ∈ l, Q d
theorem ok_pick {f : Addr} {fd : FuncData} (F : FunS K "_law_pick" "_law_pick" (top 24) f fd) (T : Txt K mg) (G : Df P w K mg base "_law_draw" 1 2 spDraw) : GnOk P w K mg base 2 f fd ["_law_pot_here", "_law_some"] (lift K spPick) := by
  refine gn_dl F sc_pick (fun as Q h => by obtain ⟨n, rfl, _⟩ := h; rfl) (fun cdv A outer s H hr hG W as Q h => ?_)
  obtain ⟨l, rfl, h0, h1, q⟩ := h
  refine sds_cons (sd_ret (ed_ix (nm 1 (ed_call G hr hG (ad_pot 0 rfl rfl (ad_cons (ed_callB T.len (ad_cons (nm 1 (ad_nil (cd_len (.inl rfl) (ad_nil ⟨(l.length : Int), rfl, by omega, by omega, fun d d1 => ?_⟩))))))))))))
  have hd : d < l.length := by omega
  exact ⟨l, d, l[d], .inl rfl, rfl, atI_nat (List.getElem?_eq_getElem hd), q _ (List.getElem_mem _)⟩
/-! lots by length, the law's own -/
abbrev pD (l : List Int) : D := .tup [.int (l.length : Int), tI l]
def lblS (dd : D) : D → En
  | .tup [a, b] => (itE [some (.val dd), none, none] [("_law_size", 2), ("_law_lot", 1)] 2 a).set 1 (some (.val b))
  | _ => []
theorem sc_lbl : FnScope ["_law_lots", "_law_lot", "_law_size"] ["_law_lots"] (defScope (top 26)) := ⟨rfl, rfl, rfl, by decide +kernel, rfl, by decide +kernel, by decide +kernel⟩
theorem ok_lbl {f : Addr} {fd : FuncData} (F : FunS K "_law_by_length" "_law_by_length" (top 26) f fd) (T : Txt K mg) : GnOk P w K mg base 1 f fd ["_law_lots"] (lift K spByL) := by
  refine gn_dl F sc_lbl (fun as Q h => by obtain ⟨_, _, rfl, _⟩ := h; rfl) (fun cdv A outer s H hr hG W as Q h => ?_)
  obtain ⟨dd, ls, rfl, sd, hl, q⟩ := h
  have nd := sc_lbl.nd
  refine sds_cons (sd_ret (ed_fd (fd_lcL (l := (ls.mergeSort (PySem.W.dataLe false enc)).map pD) (fun i acc => acc = ((ls.mergeSort (PySem.W.dataLe false enc)).take i).map tI) (lblS dd) (g := gTup K 2 (gCons (gName 2) (gCons (gName 1) gNil))) (own := [("_law_size", 2), ("_law_lot", 1)]) rfl nd (blkOk_by (by show blkC ["_law_lots", "_law_lot", "_law_size"] (defScope (top 26)) _ _ = true; decide +kernel)) (fun _ _ _ _ _ => pg_tup rfl (pgs_cons (pg_name (i := 2) nd rfl (Or.inl rfl)) (pgs_cons (pg_name (i := 1) nd rfl (Or.inl rfl)) pgs_nil rfl) rfl)) (ed_callB T.sorted (ad_cons (ed_fd (fd_mp (f := tI) (u := pD) (l := ls) 1 rfl nd (own := [("_law_lot", 1)]) (blkOk_by (by show blkC ["_law_lots", "_law_lot", "_law_size"] (defScope (top 26)) _ _ = true; decide +kernel)) (fun _ _ _ _ _ => pg_name (i := 1) nd rfl (Or.inl rfl)) (by simp) (by omega) sd (nm 0 rfl) ?_ (ad_nil (cd_sortD (f := pD) (enc := enc) (un100 hr) (.inl rfl) (fun b _ => .tup (.cons (.int _) (.cons (pyd_tI b) .nil))) (PySem.W.AllAlike.of alike_enc) (PySem.W.Sortable.tuples fun b => ⟨_, _, rfl⟩) (fun b _ => dep_enc b) (by omega) ⟨rfl, by rw [List.length_map, List.length_mergeSort]; omega, rfl⟩)))))) ?_ ?_ ?_)))
  · intro l hl s2 H0 C2 cl fp
    exact ed_tup (ad_cons (ed_callB T.len (ad_cons (nm 1 (ad_nil (cd_len (l := l.map D.int) (.inr rfl) (ad_cons (nm 1 (ad_nil ⟨[.int ((l.map D.int).length : Int), tI l], rfl, by simp, by rw [List.length_map]⟩)))))))))
  · intro d hd
    obtain ⟨l, _, rfl⟩ := List.mem_map.mp hd
    exact pat_two 2 1 (by simp) (by simp)
  · intro i d acc hi _ ha s2 H0 C2 cl fp
    rw [List.getElem?_map] at hi
    obtain ⟨l, h1, rfl⟩ := Option.map_eq_some_iff.mp hi
    refine nm 1 ?_
    rw [take1 tI h1, ha]
  · intro acc _ ha
    rw [List.length_map, List.take_length] at ha
    rw [ha]
    exact q _ (srt_len ls).1 (srt_len ls).2
end
end K61

set_option Elab.async false
set_option linter.all false
set_option maxRecDepth 100000
set_option maxHeartbeats 8000000
/-! k61: all lots; lots mixed; determinants; ties -/
namespace K61
open PySem L2 DL M61
section
variable {P : Program} {w : World} {K : PySem.W.Frag} {mg : Str → Option Value} {base : Heap}
abbrev spAll : SpD := fun as Q => ∃ n : Nat, as = [.val (.int (n : Int))] ∧ n ≤ 5 ∧ Q (.lst ((ev n).map tI))
abbrev NAl : List Str := ["_law_many", "_law_found", "_law_thing", "_law_lot"]
theorem sc_all : FnScope NAl ["_law_many"] (defScope (top 25)) := ⟨rfl, rfl, rfl, by decide +kernel, rfl, by decide +kernel, by decide +kernel⟩
theorem subs_len : ∀ i, i ≤ 5 → (subs i).length ≤ 32 ∧ ∀ l ∈ subs i, l.length ≤ 5 := by decide +kernel
theorem ok_all {f : Addr} {fd : FuncData} (F : FunS K "_law_all" "_law_all" (top 25) f fd) (T : Txt K mg) (BL : Df P w K mg base "_law_by_length" 1 1 spByL) : GnOk P w K mg base 2 f fd ["_law_many"] (lift K spAll) := by
  refine gn_dl F sc_all (fun as Q h => by obtain ⟨_, rfl, _⟩ := h; rfl) (fun cdv A outer s H hr hG W as Q h => ?_)
  obtain ⟨n, rfl, n5, q⟩ := h
  have nd := sc_all.nd
  refine sds_cons (sd_set 1 nd rfl (ed_lst (ad_cons (ed_tup (ad_nil ⟨[], rfl, by simp, ad_nil ⟨[.tup []], rfl, by simp, ?_⟩⟩)))))
  refine sds_cons (sd_forR (n := (n : Int)) PassesOwn.never rfl T.range (fun i S' => ∃ o, S' = [some (.val (.int (n : Int))), some (.val (.lst ((subs i).map tI))), o, none]) (ad_cons (nm 0 (ad_nil ⟨rfl, by omega, by omega, none, rfl⟩))) ?_ ?_)
  · rintro i S' hi ⟨o, rfl⟩
    have i5 : i ≤ 5 := by omega
    have sl := subs_len i i5
    refine gd_name 2 nd rfl (sds_cons (sd_set 1 nd rfl (ed_bin (nm 1 (ed_fd (fd_mp (f := tI) (u := fun l => tI (l ++ [(i : Int)])) (l := subs i) 3 rfl nd (own := [("_law_lot", 3)]) (blkOk_by (by show blkC NAl (defScope (top 25)) _ _ = true; decide +kernel)) (fun _ _ _ _ _ => pg_name (i := 3) nd rfl (Or.inl rfl)) (by simp) (by omega) (.inl rfl) (nm 1 rfl) ?_ (od_catL (l := (subs i).map tI) (by rw [List.length_map, List.length_map]; omega) (sds_nil ⟨some (.val (.int (i : Int))), ?_⟩))))))))
    · intro l hl s2 H0 C2 cl fp
      refine ed_bin (nm 3 (ed_tup (ad_cons (nm 2 (ad_nil ⟨[.int (i : Int)], rfl, by simp, od_catT (l := l.map D.int) (m := [.int (i : Int)]) ?_ ?_⟩)))))
      · have := sl.2 l hl
        rw [List.length_map, List.length_singleton]
        omega
      · show D.tup _ = D.tup _
        rw [List.map_append]
        rfl
    · have e : (subs i).map tI ++ (subs i).map (fun l => tI (l ++ [(i : Int)])) = (subs (i + 1)).map tI := by
        show _ = (subs i ++ (subs i).map _).map tI
        rw [List.map_append, List.map_map]
        rfl
      rw [e]
      rfl
  · rintro S' ⟨o, rfl⟩
    rw [Int.toNat_natCast]
    have sl := subs_len n n5
    refine sds_cons (sd_ret (ed_call BL (hr.mono (j := 1) (by decide)) hG (ad_cons (nm 1 (ad_nil ⟨_, subs n, rfl, .inl rfl, by omega, fun ys p pw => ?_⟩)))))
    rw [uniq2 (p.trans (srt2_perm (subs n)).symm) pw (ev_le n5)]
    exact q
theorem er_perm {b : List D} {d : Nat} (h : d < b.length) : ([b[d]] ++ b.eraseIdx d).Perm b := by
  rw [List.eraseIdx_eq_take_drop_succ]
  have e : b = b.take d ++ b[d] :: b.drop (d + 1) := by
    rw [List.getElem_cons_drop, List.take_append_drop]
  have p : (b[d] :: (b.take d ++ b.drop (d + 1))).Perm (b.take d ++ b[d] :: b.drop (d + 1)) := List.perm_middle.symm
  rw [← e] at p
  exact p
abbrev spMix : SpD := fun as Q => ∃ l : List D, as = [.pot, .val (.lst l)] ∧ l.length ≤ 1000 ∧ ∀ l' : List D, l'.Perm l → Q (.lst l')
abbrev NMi : List Str := ["_law_pot_here", "_law_some", "_law_left", "_law_found", "_law_turn"]
theorem sc_mix : FnScope NMi ["_law_pot_here", "_law_some"] (defScope (top 27)) := ⟨rfl, rfl, rfl, by decide +kernel, rfl, by decide +kernel, by decide +kernel⟩
theorem ok_mix {f : Addr} {fd : FuncData} (F : FunS K "_law_mixed" "_law_mixed" (top 27) f fd) (T : Txt K mg) (G : Df P w K mg base "_law_draw" 1 2 spDraw) : GnOk P w K mg base 2 f fd ["_law_pot_here", "_law_some"] (lift K spMix) := by
  refine gn_dl F sc_mix (fun as Q h => by obtain ⟨n, rfl, _⟩ := h; rfl) (fun cdv A outer s H hr hG W as Q h => ?_)
  obtain ⟨l, rfl, hl, q⟩ := h
  have nd := sc_mix.nd
  refine sds_cons (sd_parOwn 2 3 (by decide) (fd_list T.list (nm 1 ⟨l, .inl rfl, fd_lst (ad_nil ⟨[], rfl, by simp, ?_⟩)⟩)) (ps_par rfl nd rfl rfl (by decide) rfl rfl (pa_cons we_pe (pa_cons we_pe pa_nil)) (by rfl)))
  refine sds_cons (sd_forR (n := (l.length : Int)) PassesOwn.never rfl T.range (fun i S' => ∃ o, ∃ a b : List D, (a ++ b).Perm l ∧ b.length + i = l.length ∧ S' = [some .pot, some (.val (.lst l)), some (.own b), some (.own a), o]) (ad_cons (ed_lenOwn 2 l T.len rfl rfl (ad_nil ⟨rfl, by omega, by omega, none, [], l, .refl _, by omega, rfl⟩))) ?_ ?_)
  · rintro i S' hi ⟨o, a, b, p, hb, rfl⟩
    have al := p.length_eq
    rw [List.length_append] at al
    refine gd_name 4 nd rfl (sds_cons (sd_appPop 3 2 a b (by decide) rfl rfl (by omega) (ed_call G (hr.mono (j := 1) (by decide)) hG (ad_pot 0 rfl rfl (ad_cons (ed_lenOwn 2 b T.len rfl rfl (ad_nil ⟨(b.length : Int), rfl, by omega, by omega, fun d hd => ?_⟩))))) (pe_bm PySem.F.plainAttrs_list PySem.F.slot_list_append PySem.F.type_list_append mt_append (pe_var (by rfl) (Or.inl rfl)) (pa_cons (pe_bm PySem.F.plainAttrs_list PySem.F.slot_list_pop PySem.F.type_list_pop mt_popAt (pe_var (by rfl) (Or.inl rfl)) (pa_cons DL.we_pe pa_nil)) pa_nil)) (by rfl)))
    have hd' : d < b.length := by omega
    refine ⟨d, b[d], rfl, List.getElem?_eq_getElem hd', by omega, sds_nil ⟨some (.val (.int (i : Int))), a ++ [b[d]], b.eraseIdx d, ?_, ?_, rfl⟩⟩
    · refine List.Perm.trans ?_ p
      rw [List.append_assoc]
      exact List.Perm.append_left a (er_perm hd')
    · rw [List.length_eraseIdx_of_lt hd']
      omega
  · rintro S' ⟨o, a, b, p, hb, rfl⟩
    rw [Int.toNat_natCast] at hb
    have : b = [] := List.eq_nil_of_length_eq_zero (by omega)
    subst this
    refine sds_frz 3 _ rfl ?_
    exact sds_cons (sd_ret (nm 3 (q a (by simpa using p))))
/-! determinants -/
abbrev rI (r : List Int) : D := .lst (r.map D.int)
abbrev spDet (k : Nat) : SpD := fun as Q => ∃ rows : List (List Int), as = [.val (.lst (rows.map rI))] ∧ rows.length = k ∧ k ≤ 10 ∧ (∀ r ∈ rows, r.length = k ∧ ∀ c ∈ r, c.natAbs < 2 ^ 60) ∧ Q (.int (det k rows))
abbrev NDe : List Str := ["_law_rows", "_law_found", "_law_sign", "_law_at", "_law_number", "_law_row"]
theorem sc_det : FnScope NDe ["_law_rows"] (defScope (top 28)) := ⟨rfl, rfl, rfl, by decide +kernel, rfl, by decide +kernel, by decide +kernel⟩
def term (k : Nat) (r : List Int) (rs : List (List Int)) (j : Nat) : Int := (if j % 2 = 0 then 1 else -1) * r.getD j 0 * det k (rs.map fun q => q.eraseIdx j)
theorem ok_det {f : Addr} {fd : FuncData} (k : Nat) (F : FunS K "_law_det" "_law_det" (top 28) f fd) (T : Txt K mg) (DT : ∀ j, k = j + 1 → Df P w K mg base "_law_det" k 1 (spDet j)) : GnOk P w K mg base (k + 1) f fd ["_law_rows"] (lift K (spDet k)) := by
  refine gn_dl F sc_det (fun as Q h => by obtain ⟨_, rfl, _⟩ := h; rfl) (fun cdv A outer s H hr hG W as Q h => ?_)
  obtain ⟨rows, rfl, hl, k10, hr0, q⟩ := h
  have nd := sc_det.nd
  cases rows with
  | nil =>
    refine sds_cons (sd_if (td_cmp (nm 0 (ed_lst (ad_nil ⟨[], rfl, by simp, od_eqd (un64 hr) (.lst .nil) (.lst .nil) (by decide) (by decide) (kB ?_)⟩)))))
    show SDs _ _ _ _ _ _
    have : k = 0 := by rw [← hl]; rfl
    subst this
    exact sds_cons (sd_ret (ed_int q))
  | cons r rs =>
    rw [List.length_cons] at hl
    subst hl
    have pr : ∀ r : List Int, PyD (rI r) (.list (r.map .int)) := fun r => .lst (pyd_ints r)
    have prs : ∀ rs : List (List Int), PyDs (rs.map rI) (rs.map fun r => .list (r.map .int)) := by
      intro rs
      induction rs with
      | nil => exact .nil
      | cons r rs ih => exact .cons (pr r) ih
    have can : ∀ rs : List (List Int), PyData.canLayAll0 (rs.map fun r => PyData.list (r.map .int)) = true := by
      intro rs
      induction rs with
      | nil => rfl
      | cons r rs ih =>
        rw [List.map_cons, PyData.canLayAll0, ih, Bool.and_true]
        exact can_ints r
    have dep : ∀ rs : List (List Int), PyData.depthAll (rs.map fun r => PyData.list (r.map .int)) ≤ 1 := by
      intro rs
      induction rs with
      | nil => exact Nat.zero_le _
      | cons r rs ih =>
        rw [List.map_cons, PyData.depthAll]
        have h : (PyData.list (r.map .int)).depth = 1 := by
          show PyData.depthAll _ + 1 = 1
          rw [PySem.W.depth_ints]
        omega
    have shp : SeqAt.shaped (.list ((r :: rs).map fun r => PyData.list (r.map .int))) = true := by
      unfold SeqAt.shaped
      rw [Bool.and_eq_true, decide_eq_true_eq]
      refine ⟨can _, ?_⟩
      show PyData.depthAll _ + 1 ≤ 64
      have := dep (r :: rs)
      omega
    refine sds_cons (sd_if (td_cmp (nm 0 (ed_lst (ad_nil ⟨[], rfl, by simp, od_eqd (un64 hr) (.lst (prs (r :: rs))) (.lst .nil) shp (by decide) (kB ?_)⟩)))))
    show SDs _ _ _ _ _ _
    have hr1 := hr0 r (List.mem_cons_self ..)
    have hrs : ∀ q ∈ rs, q.length = rs.length + 1 ∧ ∀ c ∈ q, c.natAbs < 2 ^ 60 := fun q hq => hr0 q (List.mem_cons_of_mem _ hq)
    refine sds_nil (sds_cons (sd_asg (ed_tup (ad_cons (ed_int (ad_cons (ed_int (ad_nil ⟨[.int 0, .int 1], rfl, by simp, gd_tup rfl (gds_cons (gd_name 1 nd rfl (gds_cons (gd_name 2 nd rfl (gds_nil ?_))))) rfl⟩))))))))
    refine sds_cons (sd_forE (l := r.map D.int) PassesOwn.never rfl T.enum (fun i S' => ∃ o3 o4, S' = [some (.val (.lst ((r :: rs).map rI))), some (.val (.int (((List.range i).map (term rs.length r rs)).sum))), some (.val (.int (if i % 2 = 0 then 1 else -1))), o3, o4, none]) (ad_cons (ed_ix (nm 0 (ed_int ⟨(r :: rs).map rI, 0, rI r, .inl rfl, rfl, atI_nat (xs := (r :: rs).map rI) (j := 0) (by rfl), ad_nil ⟨rfl, none, none, rfl⟩⟩)))) ?_ ?_)
    · rintro i d S' hi ⟨o3, o4, rfl⟩
      rw [List.getElem?_map] at hi
      obtain ⟨c, hc, rfl⟩ := Option.map_eq_some_iff.mp hi
      obtain ⟨il, ec⟩ := List.getElem?_eq_some_iff.mp hc
      have cb := hr1.2 c (List.mem_of_getElem? hc)
      have gd0 : r.getD i 0 = c := by rw [List.getD_eq_getElem?_getD, hc]; rfl
      refine gd_tup rfl (gds_cons (gd_name 3 nd rfl (gds_cons (gd_name 4 nd rfl (gds_nil ?_))))) rfl
      have es : ((List.range (i + 1)).map (term rs.length r rs)).sum = ((List.range i).map (term rs.length r rs)).sum + term rs.length r rs i := by
        rw [List.range_succ, List.map_append, List.sum_append]
        simp
      have sg : (if (i + 1) % 2 = 0 then (1 : Int) else -1) = 0 - (if i % 2 = 0 then (1 : Int) else -1) := by
        by_cases z : i % 2 = 0
        · rw [if_pos z, if_neg (by omega)]; rfl
        · rw [if_neg z, if_pos (by omega)]; rfl
      refine sds_cons (sd_mid (fun S' => S' = [some (.val (.lst ((r :: rs).map rI))), some (.val (.int (((List.range (i + 1)).map (term rs.length r rs)).sum))), some (.val (.int (if i % 2 = 0 then 1 else -1))), some (.val (.int (i : Int))), some (.val (.int c)), none]) ?_ (sd_if (td_cmp (nm 4 (ed_int (od_nei (kB ?_)))))))
      · rintro S' rfl
        refine sds_cons (sd_set 2 nd rfl (ed_bin (ed_int (nm 2 (od_sub (sds_nil ⟨some (.val (.int (i : Int))), some (.val (.int c)), ?_⟩))))))
        rw [sg]
        rfl
      · by_cases z : c = 0
        · rw [decide_eq_true z]
          show SDs _ _ _ _ _ _
          refine sds_nil ?_
          rw [es]
          have : term rs.length r rs i = 0 := by
            unfold term
            rw [gd0, z, Int.mul_zero, Int.zero_mul]
          rw [this, Int.add_zero]
          rfl
        · rw [decide_eq_false z]
          show SDs _ _ _ _ _ _
          have small : -(2 ^ 64) < (if i % 2 = 0 then (1 : Int) else -1) ∧ (if i % 2 = 0 then (1 : Int) else -1) < 2 ^ 64 := by split <;> decide
          have small2 : -(2 ^ 64) < (if i % 2 = 0 then (1 : Int) else -1) * c ∧ (if i % 2 = 0 then (1 : Int) else -1) * c < 2 ^ 64 := by
            split
            · rw [Int.one_mul]; omega
            · omega
          refine sds_cons (sd_set 1 nd rfl (ed_bin (nm 1 (ed_bin (ed_bin (nm 2 (nm 4 (od_mulS (.inl small) (ed_call (DT rs.length rfl) hr hG (ad_cons (ed_fd (fd_mp (f := rI) (u := fun q => rI (q.eraseIdx i)) (l := rs) 5 rfl nd (own := [("_law_row", 5)]) (blkOk_by (by show blkC NDe (defScope (top 28)) _ _ = true; decide +kernel)) (fun _ _ _ _ _ => pg_name (i := 5) nd rfl (Or.inl rfl)) (by simp) (by omega) (.inl rfl) (ed_slLF (nm 0 (ed_int ⟨(r :: rs).map rI, 1, rfl, rfl, by simp; omega, rfl⟩))) ?_ (ad_nil ⟨rs.map fun q => q.eraseIdx i, by rw [List.map_map]; rfl, by rw [List.length_map], by omega, ?_, od_mulS (.inl small2) (od_add (sds_nil ?_))⟩)))))))))))))
          · intro q hq s2 H0 C2 cl fp
            refine ed_bin (ed_slLT (nm 5 (nm 3 ⟨q.map D.int, (i : Int), rfl, rfl, .inl ⟨i, rfl, ed_slLF (nm 5 (ed_bin (nm 3 (ed_int (od_add ⟨q.map D.int, i + 1, rfl, rfl, by have := (hrs q hq).1; rw [List.length_map]; omega, od_catL (l := (q.map D.int).take i) ?_ ?_⟩)))))⟩⟩)))
            · have := (hrs q hq).1
              rw [List.length_take, List.length_drop, List.length_map]
              omega
            · show D.lst _ = D.lst _
              rw [List.eraseIdx_eq_take_drop_succ, List.map_append, List.map_take, List.map_drop]
          · intro q hq
            obtain ⟨q0, h0, rfl⟩ := List.mem_map.mp hq
            obtain ⟨h1, h2⟩ := hrs q0 h0
            refine ⟨?_, fun c hc => h2 c (List.mem_of_mem_eraseIdx hc)⟩
            rw [List.length_eraseIdx_of_lt (by have := hr1.1; omega), h1]
            omega
          · rw [es]
            unfold term
            rw [gd0]
            rfl
    · rintro S' ⟨o3, o4, rfl⟩
      rw [List.length_map] at *
      refine sds_cons (sd_ret (nm 1 ?_))
      exact q
end
end K61

set_option Elab.async false
set_option linter.all false
set_option maxRecDepth 100000
set_option maxHeartbeats 8000000
/-! k61: free vectors, ties without a ring -/
namespace K61
open PySem L2 DL M61
section
variable {P : Program} {w : World} {K : PySem.W.Frag} {mg : Str → Option Value} {base : Heap}
theorem zip_mul {a b : List Int} {out : List D} (hl : a.length = b.length) (lo : out.length = a.length) (h : ∀ (n : Nat) (x y : Int) z, a[n]? = some x → b[n]? = some y → out[n]? = some z → z = .int (x * y)) : out = (List.zipWith (· * ·) a b).map D.int := by
  refine List.ext_getElem? fun n => ?_
  rw [List.getElem?_map]
  by_cases c : n < a.length
  · have e1 : a[n]? = some a[n] := List.getElem?_eq_getElem c
    have e2 : b[n]? = some (b[n]'(hl ▸ c)) := List.getElem?_eq_getElem _
    have e3 : out[n]? = some (out[n]'(lo ▸ c)) := List.getElem?_eq_getElem _
    rw [e3, h n _ _ _ e1 e2 e3, List.getElem?_zipWith, e1, e2]
    rfl
  · rw [List.getElem?_eq_none (by omega), List.getElem?_eq_none (by rw [List.length_zipWith]; omega)]
    rfl
theorem dot_bd : ∀ {a b : List Int}, (∀ c ∈ a, c.natAbs ≤ 2) → (∀ c ∈ b, c.natAbs ≤ 2) → (dot a b).natAbs ≤ 4 * a.length
  | [], _, _, _ => by simp [dot]
  | _ :: _, [], _, _ => by simp [dot]
  | x :: a, y :: b, h, k => by
    have ih := dot_bd (a := a) (b := b) (fun c hc => h c (List.mem_cons_of_mem _ hc)) fun c hc => k c (List.mem_cons_of_mem _ hc)
    have h1 := h x (List.mem_cons_self ..)
    have h2 := k y (List.mem_cons_self ..)
    unfold dot at ih ⊢
    rw [List.zipWith_cons_cons, List.sum_cons, List.length_cons]
    have h3 : (x * y).natAbs ≤ 4 := by
      rw [Int.natAbs_mul]
      exact Nat.le_trans (Nat.mul_le_mul h1 h2) (by decide)
    have := Int.natAbs_add_le (x * y) (List.zipWith (· * ·) a b).sum
    omega
abbrev spFree : SpD := fun as Q => ∃ vs : List (List Int), ∃ w : Nat, as = [.val (.lst (vs.map rI))] ∧ vs.length ≤ 3 ∧ w ≤ 3 ∧ (∀ v ∈ vs, v.length = w ∧ ∀ c ∈ v, c.natAbs ≤ 2) ∧ Q (.bl (free vs))
abbrev NFr : List Str := ["_law_rows", "_law_row", "_law_more", "_law_one", "_law_other"]
theorem sc_free : FnScope NFr ["_law_rows"] (defScope (top 29)) := ⟨rfl, rfl, rfl, by decide +kernel, rfl, by decide +kernel, by decide +kernel⟩
theorem ok_free {f : Addr} {fd : FuncData} (F : FunS K "_law_are_free" "_law_are_free" (top 29) f fd) (T : Txt K mg) (DT : ∀ k, k ≤ 3 → Df P w K mg base "_law_det" (k + 1) 1 (spDet k)) : GnOk P w K mg base 5 f fd ["_law_rows"] (lift K spFree) := by
  refine gn_dl F sc_free (fun as Q h => by obtain ⟨_, _, rfl, _⟩ := h; rfl) (fun cdv A outer s H hr hG W as Q h => ?_)
  obtain ⟨vs, wd, rfl, hv, hw, hb, q⟩ := h
  have nd := sc_free.nd
  refine sds_cons (sd_ret (ed_cmp (ed_call (DT vs.length hv) (hr.mono (j := vs.length + 1) (by omega)) hG (ad_cons (ed_fd (fd_mp (f := rI) (u := fun r => rI (vs.map fun m => dot r m)) (l := vs) 1 rfl nd (own := [("_law_row", 1)]) (blkOk_by (by show blkC NFr (defScope (top 29)) _ _ = true; decide +kernel)) (fun _ _ _ _ _ => pg_name (i := 1) nd rfl (Or.inr rfl)) (by simp) (by omega) (.inl rfl) (nm 0 rfl) ?_ (ad_nil ⟨gram vs, by unfold gram; rw [List.map_map]; rfl, by unfold gram; rw [List.length_map], by omega, ?_, ed_int (od_nei ?_)⟩)))))))
  · intro r hr0 s2 H0 C2 cl fp
    refine ed_fd (fd_mp (f := rI) (u := fun m => .int (dot r m)) (l := vs) 2 rfl nd (own := [("_law_more", 2)]) (blkOk_in (N := NFr) (blkOk_by (by decide +kernel))) (fun _ _ _ _ _ => pg_name (i := 2) nd rfl (Or.inl rfl)) (by simp) (by omega) (.inl rfl) (nm 0 rfl) ?_ (by show D.lst _ = D.lst _; rw [List.map_map]; rfl))
    intro m hm s3 H3 C3 cl3 fp3
    have l1 := (hb r hr0).1
    have l2 := (hb m hm).1
    refine ed_callB T.sum (ad_cons (ed_fd (fd_relZ (l := r.map D.int) (l' := m.map D.int) (fun d d' y => ∀ a b, d = .int a → d' = .int b → y = .int (a * b)) 3 4 (own := [("_law_one", 3), ("_law_other", 4)]) rfl nd T.zip (blkOk_in (N := NFr) (blkOk_by (by decide +kernel))) (fun _ _ _ _ _ => pg_tup rfl (pgs_cons (pg_name (i := 3) nd rfl (Or.inl rfl)) (pgs_cons (pg_name (i := 4) nd rfl (Or.inl rfl)) pgs_nil rfl) rfl)) (by rw [List.length_map, List.length_map, l1, l2]) (by rw [List.length_map, l1]; omega) (.inl rfl) (.inl rfl) (ad_cons (nm 1 (ad_cons (nm 2 (ad_nil rfl))))) (by simp) (by simp) ?_ ?_)))
    · intro n d d' h1 h2 s4 H4 C4 cl4 fp4
      rw [List.getElem?_map] at h1 h2
      obtain ⟨a, e1, rfl⟩ := Option.map_eq_some_iff.mp h1
      obtain ⟨b, e2, rfl⟩ := Option.map_eq_some_iff.mp h2
      have ba := (hb r hr0).2 a (List.mem_of_getElem? e1)
      refine ed_bin (nm (d := .int a) 3 (nm (d := .int b) 4 (od_mulS (i := a) (j := b) (.inl (by omega)) ?_)))
      intro a' b' ea eb
      cases ea
      cases eb
      rfl
    · intro out lo ho
      rw [List.length_map] at lo
      have e : out = (List.zipWith (· * ·) r m).map D.int := zip_mul (by rw [l1, l2]) lo fun n x y z h1 h2 h3 => ho n (.int x) (.int y) z (by rw [List.getElem?_map, h1]; rfl) (by rw [List.getElem?_map, h2]; rfl) h3 x y rfl rfl
      rw [e]
      exact ad_nil (cd_sumL rfl rfl)
  · intro r hr0
    unfold gram at hr0
    obtain ⟨u, hu, rfl⟩ := List.mem_map.mp hr0
    refine ⟨by rw [List.length_map], fun c hc => ?_⟩
    obtain ⟨v, hv2, rfl⟩ := List.mem_map.mp hc
    have := dot_bd (hb u hu).2 (hb v hv2).2
    have l1 := (hb u hu).1
    omega
  · have e : (!decide (det vs.length (gram vs) = 0)) = free vs := by
      unfold free
      by_cases z : det vs.length (gram vs) = 0 <;> simp [z]
    rw [e]
    exact q
/-! ties -/
abbrev tieD (p : Tie) : D := .tup [.int p.1, .int p.2]
abbrev spNR : SpD := fun as Q => ∃ ps : List Tie, as = [.val (.lst (ps.map tieD)), .val (.int 4)] ∧ (∀ p ∈ ps, p ∈ five) ∧ ps.length ≤ 10 ∧ Q (.bl (noRing four ps))
abbrev NNr : List Str := ["_law_ties", "_law_places", "_law_marks", "_law_near_here", "_law_far", "_law_one", "_law_other", "_law_mark"]
theorem sc_nr : FnScope NNr ["_law_ties", "_law_places"] (defScope (top 30)) := ⟨rfl, rfl, rfl, by decide +kernel, rfl, by decide +kernel, by decide +kernel⟩
theorem five_lt : ∀ p ∈ five, ∃ a b : Nat, p = ((a : Int), (b : Int)) ∧ a < 4 ∧ b < 4 := by
  intro p hp
  have : ∀ p ∈ five, 0 ≤ p.1 ∧ 0 ≤ p.2 ∧ p.1.toNat < 4 ∧ p.2.toNat < 4 := by decide
  obtain ⟨h1, h2, h3, h4⟩ := this p hp
  exact ⟨p.1.toNat, p.2.toNat, by rw [Int.toNat_of_nonneg h1, Int.toNat_of_nonneg h2], h3, h4⟩
theorem ok_nr {f : Addr} {fd : FuncData} (F : FunS K "_law_no_ring" "_law_no_ring" (top 30) f fd) (T : Txt K mg) : GnOk P w K mg base 1 f fd ["_law_ties", "_law_places"] (lift K spNR) := by
  refine gn_dl F sc_nr (fun as Q h => by obtain ⟨_, rfl, _⟩ := h; rfl) (fun cdv A outer s H hr hG W as Q h => ?_)
  obtain ⟨ps, rfl, h5, hl, q⟩ := h
  have nd := sc_nr.nd
  refine sds_cons (sd_set 2 nd rfl (ed_listR rfl T.list T.range (nm 1 ⟨(rfl : D.int 4 = D.int ((4 : Nat) : Int)), by decide, ?_⟩)))
  refine sds_cons (sd_forL (l := ps.map tieD) PassesOwn.never rfl (fun i S' => ∃ o3 o4 o5 o6, ∃ ms : List Int, ms.length = 4 ∧ noRing four ps = noRing ms (ps.drop i) ∧ S' = [some (.val (.lst (ps.map tieD))), some (.val (.int 4)), some (.val (rI ms)), o3, o4, o5, o6, none]) (nm 0 ⟨rfl, none, none, none, none, four, rfl, by simp, rfl⟩) ?_ ?_)
  · rintro i d S' hi ⟨o3, o4, o5, o6, ms, lm, er, rfl⟩
    rw [List.getElem?_map] at hi
    obtain ⟨p, hp, rfl⟩ := Option.map_eq_some_iff.mp hi
    obtain ⟨a, b, rfl, ha, hb⟩ := five_lt p (h5 p (List.mem_of_getElem? hp))
    have pd : ps.drop i = ((a : Int), (b : Int)) :: ps.drop (i + 1) := by
      obtain ⟨h1, h2⟩ := List.getElem?_eq_some_iff.mp hp
      rw [← h2, List.getElem_cons_drop]
    have at_ : ∀ k : Nat, k < 4 → atI (ms.map D.int) (k : Int) = some (.int (ms.getD k 0)) := fun k hk => by
      have e : ms[k]? = some (ms[k]'(by omega)) := List.getElem?_eq_getElem _
      refine atI_nat ?_
      rw [List.getElem?_map, List.getD_eq_getElem?_getD, e]
      rfl
    refine gd_tup rfl (gds_cons (gd_name 3 nd rfl (gds_cons (gd_name 4 nd rfl (gds_nil ?_))))) rfl
    refine sds_cons (sd_asg (ed_tup (ad_cons (ed_ix (nm 2 (nm 3 ⟨_, (a : Int), _, .inl rfl, rfl, at_ a ha, ad_cons (ed_ix (nm 2 (nm 4 ⟨_, (b : Int), _, .inl rfl, rfl, at_ b hb, ad_nil ⟨[.int (ms.getD a 0), .int (ms.getD b 0)], rfl, by simp, gd_tup rfl (gds_cons (gd_name 5 nd rfl (gds_cons (gd_name 6 nd rfl (gds_nil ?_))))) rfl⟩⟩)))⟩))))))
    refine sds_cons (sd_if (td_cmp (nm 5 (nm 6 (od_eqi (kB ?_))))))
    by_cases c : ms.getD a 0 = ms.getD b 0
    · rw [decide_eq_true c]
      show SDs _ _ _ _ _ _
      refine sds_cons (sd_ret (ed_bl ?_))
      have : noRing four ps = false := by
        rw [er, pd]
        unfold noRing
        rw [if_pos (by simpa using c)]
      rw [this] at q
      exact q
    · rw [decide_eq_false c]
      show SDs _ _ _ _ _ _
      refine sds_nil (sds_cons (sd_mpL (f := D.int) (u := fun m => .int (if m = ms.getD b 0 then ms.getD a 0 else m)) (l := ms) (own := [("_law_mark", 7)]) 2 rfl rfl 7 rfl nd (blkOk_by (by show blkC NNr (defScope (top 30)) _ _ = true; decide +kernel)) (fun _ _ _ _ _ => pg_name (i := 7) nd rfl (Or.inl rfl)) (by simp) (by omega) (nm 2 rfl) ?_ ?_))
      · intro m hm s2 H0 C2 cl fp
        refine ed_ifx (td_cmp (nm 7 (nm 6 (od_eqi (kB ?_)))))
        by_cases z : m = ms.getD b 0
        · rw [decide_eq_true z, if_pos z]
          show ED _ _ _ _ _
          exact nm 5 rfl
        · rw [decide_eq_false z, if_neg z]
          show ED _ _ _ _ _
          exact nm 7 rfl
      · refine sds_frz 2 _ rfl (sds_nil ⟨some (.val (.int (a : Int))), some (.val (.int (b : Int))), some (.val (.int (ms.getD a 0))), some (.val (.int (ms.getD b 0))), melt ms ((a : Int), (b : Int)), ?_, ?_, ?_⟩)
        · unfold melt
          rw [List.length_map, lm]
        · rw [er, pd]
          show (if _ then _ else _) = _
          rw [if_neg (by simpa using c)]
        · have e : (ms.map fun m => D.int (if m = ms.getD b 0 then ms.getD a 0 else m)) = (melt ms ((a : Int), (b : Int))).map D.int := by
            unfold melt
            rw [List.map_map]
            refine List.map_congr_left fun m _ => ?_
            simp
          rw [e]
          rfl
  · rintro S' ⟨o3, o4, o5, o6, ms, lm, er, rfl⟩
    rw [List.length_map, List.drop_length] at er
    have : noRing four ps = true := er
    rw [this] at q
    exact sds_cons (sd_ret (ed_bl q))
end
end K61

set_option Elab.async false
set_option linter.all false
set_option maxRecDepth 100000
set_option maxHeartbeats 8000000
/-! k61: houses drawn -/
namespace K61
open PySem L2 DL M61
section
variable {X : Cx} {Q : D → Prop}
theorem shaped_is (l : List Int) : SeqAt.shaped (.list (l.map .int)) = true := by
  unfold SeqAt.shaped
  rw [Bool.and_eq_true, decide_eq_true_eq]
  refine ⟨can_ints l, ?_⟩
  show PyData.depthAll _ + 1 ≤ 64
  rw [PySem.W.depth_ints]
  decide
theorem od_neNilI {l : List Int} (hu : X.A.units + 64 < cLine) (q : Q (.bl (!l.isEmpty))) : OD X (compareOp .NotEq) (.lst (l.map D.int)) (.lst []) Q := by
  refine od_ned hu (.lst (pyd_ints l)) (.lst .nil) (shaped_is l) (by decide) ?_
  cases l <;> exact q
theorem od_eqNilI {l : List Int} (hu : X.A.units + 64 < cLine) (q : Q (.bl l.isEmpty)) : OD X (compareOp .Eq) (.lst (l.map D.int)) (.lst []) Q := by
  refine od_eqd hu (.lst (pyd_ints l)) (.lst .nil) (shaped_is l) (by decide) ?_
  cases l <;> exact q
theorem od_neNilT {l : List (List Int)} (hu : X.A.units + 64 < cLine) (q : Q (.bl (!l.isEmpty))) : OD X (compareOp .NotEq) (.lst (l.map tI)) (.lst []) Q := by
  refine od_ned hu (.lst (pyd_tIs l)) (.lst .nil) (shaped_pIs l) (by decide) ?_
  cases l <;> exact q
theorem od_eqNilT {l : List (List Int)} (hu : X.A.units + 64 < cLine) (q : Q (.bl l.isEmpty)) : OD X (compareOp .Eq) (.lst (l.map tI)) (.lst []) Q := by
  refine od_eqd hu (.lst (pyd_tIs l)) (.lst .nil) (shaped_pIs l) (by decide) ?_
  cases l <;> exact q
theorem od_eqUnit {l : List Int} (hu : X.A.units + 64 < cLine) (q : Q (.bl l.isEmpty)) : OD X (compareOp .Eq) (tI l) (.tup []) Q := by
  refine od_eqd hu (pyd_tI l) (.tup .nil) (shaped_pI l) (by decide) ?_
  cases l <;> exact q
end
theorem sds_st {X : Cx} {B : Hp} {W0 : Wd} {S S' : En} {sts : List Stmt} {E : Ends'} (e : S = S') (k : SDs X B W0 S' sts E) : SDs X B W0 S sts E := e ▸ k
theorem outs_ints {n : Nat} {P : Int → Prop} {out : List D} (h : Outs (fun _ y => ∃ z : Int, y = .int z ∧ P z) n out) : ∃ fs : List Int, out = fs.map D.int ∧ fs.length = n ∧ ∀ z ∈ fs, P z := by
  have key : ∀ out : List D, (∀ y ∈ out, ∃ z : Int, y = .int z ∧ P z) → ∃ fs : List Int, out = fs.map D.int ∧ ∀ z ∈ fs, P z := by
    intro out
    induction out with
    | nil => exact fun _ => ⟨[], rfl, by simp⟩
    | cons y out ih =>
      intro hy
      obtain ⟨z, e, hz⟩ := hy y (List.mem_cons_self ..)
      obtain ⟨fs, e2, hf⟩ := ih fun y hy' => hy y (List.mem_cons_of_mem _ hy')
      refine ⟨z :: fs, by rw [e, e2]; rfl, fun w hw => ?_⟩
      rcases List.mem_cons.mp hw with q | q
      · rw [q]; exact hz
      · exact hf w q
  obtain ⟨fs, e, hf⟩ := key out fun y hy => by
    obtain ⟨i, hi, e⟩ := List.getElem_of_mem hy
    obtain ⟨y', e1, p⟩ := h.2 i (by rw [← h.1]; exact hi)
    rw [List.getElem?_eq_getElem hi] at e1
    cases e1
    rw [← e]
    exact p
  exact ⟨fs, e, by rw [← h.1, e, List.length_map], hf⟩
theorem flt_lots {n : Nat} (h5 : n ≤ 5) (t : List Int → Bool) : Lots n ((ev n).filter t) := ⟨h5, fun l h => (List.mem_filter.mp h).1, (ev_nd h5).filter _⟩
theorem no_nil {n : Nat} {ls : List (List Int)} (h5 : n ≤ 5) (h : fault n ls = .none) : [] ∈ ls := by
  refine Classical.byContradiction fun no => ?_
  have e : (ev n).find? (lackB ls) = none := by
    unfold fault at h
    cases e : (ev n).find? (lackB ls) with
    | none => rfl
    | some l => rw [e] at h; cases h
  rw [List.find?_eq_none] at e
  refine e [] (ev_nil n h5) ?_
  unfold lackB
  simp [no]
theorem ev_in {n : Nat} (h5 : n ≤ 5) {l : List Int} (hl : l ∈ ev n) {t : Int} (ht : t ∈ l) : ∃ k : Nat, t = (k : Int) ∧ k < n := by
  obtain ⟨h1, h2⟩ := ((ev_vd n h5 l hl).2 t ht).2
  exact ⟨t.toNat, by omega, by omega⟩
theorem ev_l5 {n : Nat} (h5 : n ≤ 5) {l : List Int} (hl : l ∈ ev n) : l.length ≤ 5 := (by decide +kernel : ∀ n, n ≤ 5 → ∀ l ∈ ev n, l.length ≤ 5) n h5 l hl
section
variable {P : Program} {w : World} {K : PySem.W.Frag} {mg : Str → Option Value} {base : Heap}
abbrev spHs : SpD := fun as Q => ∃ n : Nat, as = [.pot, .val (.int (n : Int))] ∧ n ≤ 5 ∧ ∀ ls : List (List Int), Lots n ls → fault n ls = .none → Q (.lst (ls.map tI))
abbrev NHo : List Str := ["_law_pot_here", "_law_many", "_law_way", "_law_every", "_law_size", "_law_kinds", "_law_caps", "_law_over", "_law_wide", "_law_rows", "_law_pairs", "_law_lot", "_law_thing", "_law_kind", "_law_k", "_law_t", "_law_at"]
theorem sc_hs : FnScope NHo ["_law_pot_here", "_law_many"] (defScope (top 31)) := ⟨rfl, rfl, rfl, by decide +kernel, rfl, by decide +kernel, by decide +kernel⟩
/-! the four ways, in turn -/
theorem hs0 {f : Addr} {cdv : Value} {A : Around} {outer : List Env} {s : Shared} {H : Hp} {W : Wd} {Q : D → Prop} {n : Nat} (n5 : n ≤ 5) (T : Txt K mg) (DR : Df P w K mg base "_law_draw" 1 2 spDraw) (hr : Room 1 (Bx P w K mg base NHo "_law_house" (top 31) f cdv A outer s H).A)
    (hG : (Bx P w K mg base NHo "_law_house" (top 31) f cdv A outer s H).A.guards = some (gOf (Bx P w K mg base NHo "_law_house" (top 31) f cdv A outer s H))) (q : ∀ ls : List (List Int), Lots n ls → fault n ls = .none → Q (.lst (ls.map tI))) (wy : Int) (E : Ends') (hE : E.rt = Q) :
    SDs (Bx P w K mg base NHo "_law_house" (top 31) f cdv A outer s H) H W (((startE NHo [.pot, .val (.int (n : Int))]).set 2 (some (.val (.int wy)))).set 3 (some (.val (.lst ((ev n).map tI))))) (match (defBody (top 31)).getD 1 (.Pass ⟨0, 0, 0, 0⟩) with | .If _ b _ _ => b | _ => []) E := by
  have nd := sc_hs.nd
  have e32 := ev_len n n5
  subst hE
  refine sds_cons (sd_set 4 nd rfl (ed_call DR hr hG (ad_pot 0 rfl rfl (ad_cons (ed_bin (nm 1 (ed_int (od_add (ad_nil ⟨(n : Int) + 1, rfl, by omega, by omega, fun d hd => ?_⟩)))))))))
  refine sds_cons (sd_ret (ed_fd (fd_ft (f := tI) (u := tI) (t := fun l => decide (l.length ≤ d)) (l := ev n) 11 rfl nd (own := [("_law_lot", 11)]) (blkOk_by (by show blkC NHo (defScope (top 31)) _ _ = true; decide +kernel)) (fun _ _ _ _ _ => pg_name (i := 11) nd rfl (Or.inl rfl)) (by simp) (by omega) (.inl rfl) (nm 3 rfl) ?_ ?_ (q _ (flt_lots n5 _) (house0 n5 d fun l => by rw [List.mem_filter, decide_eq_true_eq])))))
  · intro l hl s2 H0 C2 cl fp
    refine td_cmp (ed_callB T.len (ad_cons (nm 11 (ad_nil (cd_len (l := l.map D.int) (.inr rfl) (nm 4 (od_le (kB ?_))))))))
    rw [List.length_map]
    exact decide_eq_decide.mpr (by omega)
  · intro l hl _ s2 H0 C2 cl fp
    exact nm 11 rfl
end
end K61

set_option Elab.async false
set_option linter.all false
set_option maxRecDepth 100000
set_option maxHeartbeats 8000000
/-! k61: the law's own eye -/
namespace K61
open PySem L2 DL M61
theorem isE {α : Type} {l : List α} : l.isEmpty = decide (l = []) := by cases l <;> simp
def nearIn (ls : List (List Int)) (l : List Int) : List (List Int) := (ls.filter fun m => decide (m.length = l.length + 1)).filter fun m => (l.filter fun t => !decide (t ∈ m)).isEmpty
theorem lack_law (ls : List (List Int)) (l : List Int) : lackB ls l = (!decide (l ∈ ls) && (decide (l = []) || !(nearIn ls l).isEmpty)) := by
  unfold lackB nearIn
  have e1 : (!ls.contains l) = !decide (l ∈ ls) := by by_cases h : l ∈ ls <;> simp [h]
  rw [e1]
  congr 1
  congr 1
  rw [List.filter_filter]
  have e2 : (fun m : List Int => (l.filter fun t => !decide (t ∈ m)).isEmpty && decide (m.length = l.length + 1)) = near l := by
    funext m
    unfold near
    rw [Bool.and_comm]
    congr 1
    rw [Bool.eq_iff_iff, List.isEmpty_iff, List.filter_eq_nil_iff, List.all_eq_true]
    constructor
    · intro h t ht
      have := h t ht
      simpa using this
    · intro h t ht
      have := h t ht
      simpa using this
  rw [e2]
  rw [Bool.eq_iff_iff]
  simp [List.isEmpty_iff, List.filter_eq_nil_iff]
theorem stk_law (ls : List (List Int)) (a b : List Int) : stk ls a b = (((b.filter fun t => !decide (t ∈ a)).map fun t => ins t a).filter fun m => decide (m ∈ ls)).isEmpty := by
  unfold stk
  rw [Bool.eq_iff_iff, List.all_eq_true, List.isEmpty_iff, List.filter_eq_nil_iff]
  constructor
  · intro h m hm
    obtain ⟨t, ht, rfl⟩ := List.mem_map.mp hm
    have := h t ht
    simpa using this
  · intro h t ht
    have := h (ins t a) (List.mem_map.mpr ⟨t, ht, rfl⟩)
    simpa using this
theorem told_law (n : Nat) (ls : List (List Int)) : (ev n).filter (fun l => decide (l ∈ ls)) = told n ls := by
  unfold told
  refine congrArg (fun g => (ev n).filter g) (funext fun l => ?_)
  by_cases h : l ∈ ls <;> simp [h]
section
variable {P : Program} {w : World} {K : PySem.W.Frag} {mg : Str → Option Value} {base : Heap}
abbrev spFau : SpD := fun as Q => ∃ n : Nat, ∃ ls : List (List Int), ∃ d, as = [.val (.int (n : Int)), .val d] ∧ d = .lst (ls.map tI) ∧ Lots n ls ∧ Q (resD (fault n ls))
abbrev NFa : List Str := ["_law_many", "_law_lots", "_law_every", "_law_lot", "_law_longer", "_law_near_here", "_law_told", "_law_other", "_law_some", "_law_more", "_law_thing"]
theorem sc_fau : FnScope NFa ["_law_many", "_law_lots"] (defScope (top 32)) := ⟨rfl, rfl, rfl, by decide +kernel, rfl, by decide +kernel, by decide +kernel⟩
theorem ok_fau {f : Addr} {fd : FuncData} (F : FunS K "_law_fault" "_law_fault" (top 32) f fd) (T : Txt K mg) (AL : Df P w K mg base "_law_all" 2 1 spAll) : GnOk P w K mg base 3 f fd ["_law_many", "_law_lots"] (lift K spFau) := by
  refine gn_dl F sc_fau (fun as Q h => by obtain ⟨_, _, _, rfl, _⟩ := h; rfl) (fun cdv A outer s H hr hG W as Q h => ?_)
  obtain ⟨n, ls, _, rfl, rfl, L, q⟩ := h
  have nd := sc_fau.nd
  have n5 := L.n5
  have l32 := L.len
  have e32 := ev_len n n5
  refine sds_cons (sd_set 2 nd rfl (ed_call AL hr hG (ad_cons (nm 0 (ad_nil ⟨n, rfl, n5, ?_⟩)))))
  refine sds_cons (sd_forL (l := (ev n).map tI) PassesOwn.never rfl (fun i S' => ∃ o3 o4 o5, S' = [some (.val (.int (n : Int))), some (.val (.lst (ls.map tI))), some (.val (.lst ((ev n).map tI))), o3, o4, o5, none, none, none, none, none] ∧ ∀ x ∈ (ev n).take i, lackB ls x = false) (nm 2 ⟨rfl, none, none, none, rfl, by simp⟩) ?_ ?_)
  · rintro i e S' hi ⟨o3, o4, o5, rfl, pa⟩
    rw [List.getElem?_map] at hi
    obtain ⟨a, ha, rfl⟩ := Option.map_eq_some_iff.mp hi
    have am := List.mem_of_getElem? ha
    have a5 := ev_l5 n5 am
    refine gd_name 3 nd rfl (sds_cons (sd_ft (f := tI) (u := tI) (t := fun m => decide (m.length = a.length + 1)) (l := ls) (own := [("_law_more", 9)]) 4 rfl rfl 9 rfl nd (blkOk_by (by show blkC NFa (defScope (top 32)) _ _ = true; decide +kernel)) (fun _ _ _ _ _ => pg_name (i := 9) nd rfl (Or.inl rfl)) (by simp) (by omega) (.inl rfl) (nm 1 rfl) ?_ ?_ ?_))
    · intro m hm s2 H0 C2 cl fp
      refine td_cmp (ed_callB T.len (ad_cons (nm 9 (ad_nil (cd_len (l := m.map D.int) (.inr rfl) (ed_bin (ed_callB T.len (ad_cons (nm 3 (ad_nil (cd_len (l := a.map D.int) (.inr rfl) (ed_int (od_add (od_eqi (kB ?_)))))))))))))))
      rw [List.length_map, List.length_map]
      exact decide_eq_decide.mpr (by omega)
    · intro m hm _ s2 H0 C2 cl fp
      exact nm 9 rfl
    refine sds_frz 4 _ rfl ?_
    refine sds_cons (sd_ft (f := tI) (u := tI) (t := fun m => (a.filter fun t => !decide (t ∈ m)).isEmpty) (l := ls.filter fun m => decide (m.length = a.length + 1)) (own := [("_law_more", 9)]) 5 rfl rfl 9 rfl nd (blkOk_by (by show blkC NFa (defScope (top 32)) _ _ = true; decide +kernel)) (fun _ _ _ _ _ => pg_name (i := 9) nd rfl (Or.inr rfl)) (by simp) (Nat.le_trans (List.length_filter_le _ _) (by omega)) (.inl rfl) (nm 4 rfl) ?_ ?_ ?_)
    · intro m hm s2 H0 C2 cl fp
      refine td_cmp (ed_fd (fd_ft (f := D.int) (u := D.int) (t := fun t => !decide (t ∈ m)) (l := a) 10 rfl nd (own := [("_law_thing", 10)]) (blkOk_in (N := NFa) (blkOk_by (by decide +kernel))) (fun _ _ _ _ _ => pg_name (i := 10) nd rfl (Or.inl rfl)) (by simp) (by omega) (.inr rfl) (nm 3 rfl) ?_ ?_ (ed_lst (ad_nil ⟨[], rfl, by simp, od_eqNilI (un64 hr) (kB rfl)⟩))))
      · intro x hx s3 H3 C3 cl3 fp3
        exact td_cmp (nm 10 (nm 9 (od_ninI (.inr rfl) (kB rfl))))
      · intro x hx _ s3 H3 C3 cl3 fp3
        exact nm 10 rfl
    · intro m hm _ s2 H0 C2 cl fp
      exact nm 9 rfl
    refine sds_frz 5 _ rfl ?_
    have hl := lack_law ls a
    have next : lackB ls a = false → ∀ x ∈ (ev n).take (i + 1), lackB ls x = false := fun e x hx => by
      rcases mem_snoc ha hx with z | z
      · exact pa x z
      · rw [z]; exact e
    have yes : lackB ls a = true → Q (resD (.lacks a)) := fun e => by
      have : fault n ls = .lacks a := by
        unfold fault
        rw [find_pre2 ha pa e]
      rw [this] at q
      exact q
    refine sds_cons (sd_if (td_of (tw_and (td_cmp (nm 3 (nm 1 (od_ninT (un65 hr) (kB ?_))))))))
    by_cases c1 : a ∈ ls
    · rw [decide_eq_true c1]
      show SDs _ _ _ _ _ _
      exact sds_nil (sds_nil ⟨_, _, _, rfl, next (by rw [hl, decide_eq_true c1]; rfl)⟩)
    · rw [decide_eq_false c1] at hl ⊢
      show TW _ _ _ _ _
      refine tw_and1 (td_of (tw_or (td_cmp (nm 3 (ed_tup (ad_nil ⟨[], rfl, by simp, od_eqUnit (un64 hr) (kB ?_)⟩))))))
      rw [isE]
      by_cases c2 : a = []
      · rw [decide_eq_true c2] at hl ⊢
        show SDs _ _ _ _ _ _
        exact sds_cons (sd_ret (ed_tup (ad_cons (ed_str (ad_cons (nm 3 (ad_nil ⟨[.str "lacks", tI a], rfl, by simp, yes hl⟩)))))))
      · rw [decide_eq_false c2] at hl ⊢
        show TW _ _ _ _ _
        refine tw_or1 (td_cmp (nm 5 (ed_lst (ad_nil ⟨[], rfl, by simp, od_neNilT (l := nearIn ls a) (un64 hr) (kB ?_)⟩))))
        cases c3 : (nearIn ls a).isEmpty with
        | true =>
          rw [c3] at hl
          show SDs _ _ _ _ _ _
          exact sds_nil (sds_nil ⟨_, _, _, rfl, next hl⟩)
        | false =>
          rw [c3] at hl
          show SDs _ _ _ _ _ _
          exact sds_cons (sd_ret (ed_tup (ad_cons (ed_str (ad_cons (nm 3 (ad_nil ⟨[.str "lacks", tI a], rfl, by simp, yes hl⟩)))))))
  · rintro S' ⟨o3, o4, o5, rfl, pa⟩
    rw [List.length_map, List.take_length] at pa
    have f1 : (ev n).find? (lackB ls) = none := by
      rw [List.find?_eq_none]
      intro x hx z
      rw [pa x hx] at z
      cases z
    refine sds_cons (sd_ft (f := tI) (u := tI) (t := fun l => decide (l ∈ ls)) (l := ev n) (own := [("_law_lot", 3)]) 6 rfl rfl 3 rfl nd (blkOk_by (by show blkC NFa (defScope (top 32)) _ _ = true; decide +kernel)) (fun _ _ _ _ _ => pg_name (i := 3) nd rfl (Or.inl rfl)) (by simp) (by omega) (.inl rfl) (nm 2 rfl) ?_ ?_ ?_)
    · intro l hl s2 H0 C2 cl fp
      exact td_cmp (nm 3 (nm 1 (od_inT (un65 hr) (kB rfl))))
    · intro l hl _ s2 H0 C2 cl fp
      exact nm 3 rfl
    rw [told_law]
    refine sds_frz 6 _ rfl ?_
    have tm : ∀ l ∈ told n ls, l ∈ ev n ∧ l ∈ ls := fun l h => by
      unfold told at h
      rw [List.mem_filter, List.contains_iff_mem] at h
      exact h
    have hit : ∀ a b i j, (told n ls)[i]? = some a → (told n ls)[j]? = some b → (∀ x ∈ (told n ls).take i, (told n ls).find? (stuckB ls x) = none) → (∀ y ∈ (told n ls).take j, stuckB ls a y = false) → stuckB ls a b = true → fault n ls = .stuck a b := by
      intro a b i j ha hb pa pb e
      have e1 : stuckIn ls (told n ls) = some (a, b) := by
        unfold stuckIn
        refine find_pre ha (fun x hx => by rw [pa x hx]; rfl) ?_
        rw [find_pre2 hb pb e]
        rfl
      unfold fault
      rw [f1, e1]
    refine sds_cons (sd_forL (l := (told n ls).map tI) PassesOwn.never rfl (fun i S' => ∃ o3 o4 o5 o7 o8, S' = [some (.val (.int (n : Int))), some (.val (.lst (ls.map tI))), some (.val (.lst ((ev n).map tI))), o3, o4, o5, some (.val (.lst ((told n ls).map tI))), o7, o8, none, none] ∧ ∀ x ∈ (told n ls).take i, (told n ls).find? (stuckB ls x) = none) (nm 6 ⟨rfl, o3, o4, o5, none, none, rfl, by simp⟩) ?_ ?_)
    · rintro i e S' hi ⟨o3, o4, o5, o7, o8, rfl, pa⟩
      rw [List.getElem?_map] at hi
      obtain ⟨a, ha, rfl⟩ := Option.map_eq_some_iff.mp hi
      have am := tm a (List.mem_of_getElem? ha)
      have av := ev_vd n n5 a am.1
      have a5 := ev_l5 n5 am.1
      refine gd_name 3 nd rfl (sds_cons (sd_forL (l := (told n ls).map tI) PassesOwn.never rfl (fun j S' => ∃ o7 o8, S' = [some (.val (.int (n : Int))), some (.val (.lst (ls.map tI))), some (.val (.lst ((ev n).map tI))), some (.val (tI a)), o4, o5, some (.val (.lst ((told n ls).map tI))), o7, o8, none, none] ∧ ∀ y ∈ (told n ls).take j, stuckB ls a y = false) (nm 6 ⟨rfl, o7, o8, rfl, by simp⟩) ?_ ?_))
      · rintro j e2 S' hj ⟨o7, o8, rfl, pb⟩
        rw [List.getElem?_map] at hj
        obtain ⟨b, hb, rfl⟩ := Option.map_eq_some_iff.mp hj
        have bm := tm b (List.mem_of_getElem? hb)
        have b5 := ev_l5 n5 bm.1
        have next : stuckB ls a b = false → ∀ y ∈ (told n ls).take (j + 1), stuckB ls a y = false := fun e y hy => by
          rcases mem_snoc hb hy with z | z
          · exact pb y z
          · rw [z]; exact e
        refine gd_name 7 nd rfl (sds_cons (sd_ft (f := D.int) (u := fun t => tI (ins t a)) (t := fun t => !decide (t ∈ a)) (l := b) (own := [("_law_thing", 10)]) 8 rfl rfl 10 rfl nd (blkOk_by (by show blkC NFa (defScope (top 32)) _ _ = true; decide +kernel)) (fun _ _ _ _ _ => pg_name (i := 10) nd rfl (Or.inl rfl)) (by simp) (by omega) (.inr rfl) (nm 7 rfl) ?_ ?_ ?_))
        · intro t ht s2 H0 C2 cl fp
          exact td_cmp (nm 10 (nm 3 (od_ninI (.inr rfl) (kB rfl))))
        · intro t ht nt s2 H0 C2 cl fp
          have nt' : t ∉ a := by simpa using nt
          refine ed_callTy T.tuple (ad_cons (ed_callB T.sorted (ad_cons (ed_bin (nm 3 (ed_tup (ad_cons (nm 10 (ad_nil ⟨[.int t], rfl, by simp, od_catT (l := a.map D.int) (m := [.int t]) (by rw [List.length_map, List.length_singleton]; omega) (ad_nil (cd_sortI (l := a ++ [t]) (un100 hr) (.inr (by rw [List.map_append]; rfl)) (by rw [List.length_append, List.length_singleton]; omega) (ad_nil (cd_tuple ?_))))⟩)))))))))
          rw [sort_ints a t av.1 nt']
        refine sds_frz 8 _ rfl ?_
        refine sds_cons (sd_if (td_of (tw_and (td_cmp (ed_callB T.len (ad_cons (nm 3 (ad_nil (cd_len (l := a.map D.int) (.inr rfl) (ed_callB T.len (ad_cons (nm 7 (ad_nil (cd_len (l := b.map D.int) (.inr rfl) (od_lt (kB ?_))))))))))))))))
        rw [List.length_map, List.length_map]
        by_cases c : a.length < b.length
        · rw [decide_eq_true (by omega)]
          show TW _ _ _ _ _
          refine tw_and1 (td_cmp (ed_fd (fd_ft (f := fun t => tI (ins t a)) (u := fun t => tI (ins t a)) (t := fun t => decide (ins t a ∈ ls)) (l := b.filter fun t => !decide (t ∈ a)) 9 rfl nd (own := [("_law_more", 9)]) (blkOk_by (by show blkC NFa (defScope (top 32)) _ _ = true; decide +kernel)) (fun _ _ _ _ _ => pg_name (i := 9) nd rfl (Or.inl rfl)) (by simp) (Nat.le_trans (List.length_filter_le _ _) (by omega)) (.inl rfl) (nm 8 rfl) ?_ ?_ (ed_lst (ad_nil ⟨[], rfl, by simp, ?_⟩)))))
          · intro t ht s2 H0 C2 cl fp
            exact td_cmp (nm 9 (nm 1 (od_inT (un65 hr) (kB rfl))))
          · intro t ht _ s2 H0 C2 cl fp
            exact nm 9 rfl
          have e3 : ((b.filter fun t => !decide (t ∈ a)).filter fun t => decide (ins t a ∈ ls)).map (fun t => tI (ins t a)) = (((b.filter fun t => !decide (t ∈ a)).map fun t => ins t a).filter fun m => decide (m ∈ ls)).map tI := by
            rw [List.filter_map, List.map_map]
            rfl
          rw [e3]
          refine od_eqNilT (un64 hr) (kB ?_)
          rw [← stk_law]
          cases sb : stk ls a b with
          | true =>
            show SDs _ _ _ _ _ _
            have e3 : stuckB ls a b = true := by rw [stuck_eq, sb, decide_eq_true c]; rfl
            refine sds_cons (sd_ret (ed_tup (ad_cons (ed_str (ad_cons (nm 3 (ad_cons (nm 7 (ad_nil ⟨[.str "stuck", tI a, tI b], rfl, by simp, ?_⟩)))))))))
            rw [hit a b i j ha hb pa pb e3] at q
            exact q
          | false =>
            show SDs _ _ _ _ _ _
            exact sds_nil (sds_nil ⟨_, _, rfl, next (by rw [stuck_eq, sb, Bool.and_false])⟩)
        · rw [decide_eq_false (by omega)]
          show SDs _ _ _ _ _ _
          exact sds_nil (sds_nil ⟨_, _, rfl, next (by rw [stuck_eq, decide_eq_false c]; rfl)⟩)
      · rintro S' ⟨o7, o8, rfl, pb⟩
        refine sds_nil ⟨_, _, _, _, _, rfl, fun x hx => ?_⟩
        rw [List.length_map, List.take_length] at pb
        rcases mem_snoc ha hx with z | z
        · exact pa x z
        · rw [z, List.find?_eq_none]
          intro y hy z2
          rw [pb y hy] at z2
          cases z2
    · rintro S' ⟨o3, o4, o5, o7, o8, rfl, pa⟩
      rw [List.length_map, List.take_length] at pa
      have e1 : stuckIn ls (told n ls) = none := by
        unfold stuckIn
        rw [List.findSome?_eq_none_iff]
        intro x hx
        rw [pa x hx]
        rfl
      have e2 : fault n ls = .none := by unfold fault; rw [f1, e1]
      rw [e2] at q
      exact sds_cons (sd_ret (ed_non q))
end
end K61

set_option Elab.async false
set_option linter.all false
set_option maxRecDepth 100000
set_option maxHeartbeats 8000000
/-! k61: lots near to a house -/
namespace K61
open PySem L2 DL M61
abbrev lsD (ls : List (List Int)) : D := .lst (ls.map tI)
theorem Lots.of_sub {n : Nat} {ls xs : List (List Int)} (L : Lots n ls) (h : xs.Sublist ls) : Lots n xs := ⟨L.n5, fun l hl => L.sub l (h.subset hl), h.nodup L.nd⟩
theorem Lots.app {n : Nat} {ls ys : List (List Int)} (L : Lots n ls) (h : ∀ y ∈ ys, y ∈ ev n ∧ y ∉ ls) (nd : ys.Nodup) : Lots n (ls ++ ys) := by
  refine ⟨L.n5, fun l hl => ?_, ?_⟩
  · rcases List.mem_append.mp hl with z | z
    · exact L.sub l z
    · exact (h l z).1
  · rw [List.nodup_append]
    refine ⟨L.nd, nd, fun a ha b hb e => ?_⟩
    subst e
    exact (h a hb).2 ha
abbrev OkL (n : Nat) (d : D) : Prop := ∃ l, d = lsD l ∧ Lots n l
abbrev spNear : SpD := fun as Q => ∃ n : Nat, ∃ ls os : List (List Int), as = [.pot, .val (lsD ls), .val (lsD os), .val (lsD (ev n))] ∧ Lots n ls ∧ Lots n os ∧ ls ≠ [] ∧ ∀ xs : List D, xs ≠ [] → xs.length ≤ 20 → (∀ d ∈ xs, OkL n d) → Q (.lst xs)
abbrev NNe : List Str := ["_law_pot_here", "_law_lots", "_law_other", "_law_every", "_law_found", "_law_at", "_law_more", "_law_fresh", "_law_lot", "_law_t"]
theorem okl_nil {n : Nat} : ∀ d ∈ ([] : List D), OkL n d := fun _ h => by cases h
theorem okl_cons {n : Nat} {d : D} {xs : List D} (h : OkL n d) (k : ∀ d ∈ xs, OkL n d) : ∀ e ∈ d :: xs, OkL n e := fun e he => by
  rcases List.mem_cons.mp he with z | z
  · rw [z]; exact h
  · exact k e z
section
variable {P : Program} {w : World} {K : PySem.W.Frag} {mg : Str → Option Value} {base : Heap}
theorem sc_near : FnScope NNe ["_law_pot_here", "_law_lots", "_law_other", "_law_every"] (defScope (top 33)) := ⟨rfl, rfl, rfl, by decide +kernel, rfl, by decide +kernel, by decide +kernel⟩
theorem ok_near {f : Addr} {fd : FuncData} (F : FunS K "_law_near" "_law_near" (top 33) f fd) (T : Txt K mg) (DR : Df P w K mg base "_law_draw" 1 2 spDraw) (PI : Df P w K mg base "_law_pick" 2 2 spPick) : GnOk P w K mg base 3 f fd ["_law_pot_here", "_law_lots", "_law_other", "_law_every"] (lift K spNear) := by
  refine gn_dl F sc_near (fun as Q h => by obtain ⟨_, _, _, rfl, _⟩ := h; rfl) (fun cdv A outer s H hr hG W as Q h => ?_)
  obtain ⟨n, ls, os, rfl, L, O, ne, q⟩ := h
  have nd := sc_near.nd
  have n5 := L.n5
  have l32 := L.len
  have o32 := O.len
  have e32 := ev_len n n5
  have lp : 0 < ls.length := List.length_pos_iff.mpr ne
  refine sds_cons (sd_own 4 nd rfl (fd_lst (ad_cons (nm 1 (ad_cons (ed_slLF (nm 1 (ed_int ⟨ls.map tI, 1, rfl, rfl, by rw [List.length_map]; omega, ?_⟩))))))))
  refine ad_cons (ed_slLT (nm 1 (ed_neg (ed_int ⟨1, rfl, ⟨ls.map tI, -1, rfl, rfl, .inr ⟨rfl, ?_⟩⟩⟩))))
  refine ad_cons (ed_lst (ad_nil ⟨[], rfl, by simp, ad_cons (ed_lst (ad_cons (ed_tup (ad_nil ⟨[], rfl, by simp, ad_nil ⟨[.tup []], rfl, by simp, ad_cons (nm 2 ?_)⟩⟩))))⟩))
  refine ad_cons (ed_fd (fd_ft (f := tI) (u := tI) (t := fun l => decide (l ∈ os)) (l := ls) 8 rfl nd (own := [("_law_lot", 8)]) (blkOk_by (by show blkC NNe (defScope (top 33)) _ _ = true; decide +kernel)) (fun _ _ _ _ _ => pg_name (i := 8) nd rfl (Or.inl rfl)) (by simp) (by omega) (.inl rfl) (nm 1 rfl) ?_ ?_ ?_))
  · intro l hl s2 H0 C2 cl fp
    exact td_cmp (nm 8 (nm 2 (od_inT (un65 hr) (kB rfl))))
  · intro l hl _ s2 H0 C2 cl fp
    exact nm 8 rfl
  refine ad_nil ⟨[lsD ls, .lst ((ls.map tI).drop 1), .lst (ls.map tI).dropLast, .lst [], .lst [.tup []], lsD os, lsD (ls.filter fun l => decide (l ∈ os))], rfl, by simp, ?_⟩
  have F0 : ∀ d ∈ [lsD ls, .lst ((ls.map tI).drop 1), .lst (ls.map tI).dropLast, .lst [], .lst [.tup []], lsD os, lsD (ls.filter fun l => decide (l ∈ os))], OkL n d :=
    okl_cons ⟨ls, rfl, L⟩ (okl_cons ⟨ls.drop 1, congrArg D.lst List.map_drop.symm, L.of_sub (List.drop_sublist _ _)⟩ (okl_cons ⟨ls.dropLast, congrArg D.lst List.map_dropLast.symm, L.of_sub (List.dropLast_sublist _)⟩ (okl_cons ⟨[], rfl, n5, (fun _ h => by cases h), .nil⟩ (okl_cons ⟨[[]], rfl, n5, (fun l h => by rw [List.mem_singleton.mp h]; exact ev_nil n n5), by simp⟩ (okl_cons ⟨os, rfl, O⟩ (okl_cons ⟨_, rfl, L.of_sub List.filter_sublist⟩ okl_nil))))))
  obtain ⟨f0, e0⟩ : ∃ f0, f0 = [lsD ls, D.lst ((ls.map tI).drop 1), D.lst (ls.map tI).dropLast, D.lst [], D.lst [.tup []], lsD os, lsD (ls.filter fun l => decide (l ∈ os))] := ⟨_, rfl⟩
  have h0 : f0.length = 7 := by rw [e0]; rfl
  rw [← e0] at F0 ⊢
  clear e0
  refine sds_cons (sd_append 4 f0 rfl rfl (by omega) (ed_bin (nm 1 (ed_fd (fd_ft (f := tI) (u := tI) (t := fun l => !decide (l ∈ ls)) (l := os) 8 rfl nd (own := [("_law_lot", 8)]) (blkOk_by (by show blkC NNe (defScope (top 33)) _ _ = true; decide +kernel)) (fun _ _ _ _ _ => pg_name (i := 8) nd rfl (Or.inl rfl)) (by simp) (by omega) (.inl rfl) (nm 2 rfl) ?_ ?_ (od_catL (l := ls.map tI) (m := (os.filter fun l => !decide (l ∈ ls)).map tI) (by rw [List.length_map, List.length_map]; have := List.length_filter_le (fun l => !decide (l ∈ ls)) os; omega) ?_))))))
  · intro l hl s2 H0 C2 cl fp
    exact td_cmp (nm 8 (nm 1 (od_ninT (un65 hr) (kB rfl))))
  · intro l hl _ s2 H0 C2 cl fp
    exact nm 8 rfl
  have F1 : ∀ d ∈ f0 ++ [D.lst (ls.map tI ++ (os.filter fun l => !decide (l ∈ ls)).map tI)], OkL n d := fun d hd => by
    rcases List.mem_append.mp hd with z | z
    · exact F0 d z
    · refine ⟨ls ++ os.filter fun l => !decide (l ∈ ls), ?_, L.app (fun y hy => ?_) (O.nd.filter _)⟩
      · exact (List.mem_singleton.mp z).trans (congrArg D.lst List.map_append.symm)
      · obtain ⟨a, b⟩ := List.mem_filter.mp hy
        exact ⟨O.sub y a, by simpa using b⟩
  obtain ⟨f1, e1⟩ : ∃ f1, f1 = f0 ++ [D.lst (ls.map tI ++ (os.filter fun l => !decide (l ∈ ls)).map tI)] := ⟨_, rfl⟩
  have h1 : f1.length = 8 := by rw [e1, List.length_append, h0]; rfl
  rw [← e1] at F1 ⊢
  clear e1
  refine sds_cons (sd_append 4 f1 rfl rfl (by omega) (ed_fd (fd_lcLI (l := ls.map tI) (fun i acc => ∃ xs : List (List Int), acc = xs.map tI ∧ xs.Sublist (ls.take i)) (fun d => itE _ [("_law_lot", 8)] 8 d) rfl nd (own := [("_law_lot", 8)]) (blkOk_by (by show blkC NNe (defScope (top 33)) _ _ = true; decide +kernel)) (fun _ _ _ _ _ => pg_name (i := 8) nd rfl (Or.inl rfl)) (nm 1 ⟨rfl, by rw [List.length_map]; omega, [], rfl, List.nil_sublist _⟩) (fun d _ => pat_name 8 (by simp)) ?_ ?_)))
  · rintro i d acc hi _ ⟨xs, rfl, sb⟩ s2 H0 C2 cl fp
    rw [List.getElem?_map] at hi
    obtain ⟨l, hl, rfl⟩ := Option.map_eq_some_iff.mp hi
    have tk : ls.take (i + 1) = ls.take i ++ [l] := by rw [List.take_add_one, hl]; rfl
    refine td_cmp (ed_call DR (hr.mono (j := 1) (by decide)) hG (ad_pot 0 rfl rfl (ad_cons (ed_int (ad_nil ⟨5, rfl, by decide, by decide, fun d hd => ed_int (od_gt (kB ?_))⟩)))))
    cases decide ((0 : Int) < (d : Int)) with
    | true =>
      refine iteT fun s3 H3 C3 cl3 fp3 => nm 8 ⟨xs ++ [l], by rw [List.map_append]; rfl, ?_⟩
      rw [tk]
      exact sb.append (List.Sublist.refl _)
    | false =>
      refine iteF ⟨xs, rfl, ?_⟩
      rw [tk]
      exact sb.trans (List.sublist_append_left _ _)
  rintro acc _ ⟨xs, rfl, sb⟩
  rw [List.length_map, List.take_length] at sb
  have F2 : ∀ d ∈ f1 ++ [lsD xs], OkL n d := fun d hd => by
    rcases List.mem_append.mp hd with z | z
    · exact F1 d z
    · exact ⟨xs, List.mem_singleton.mp z, L.of_sub sb⟩
  obtain ⟨f2, e2⟩ : ∃ f2, f2 = f1 ++ [lsD xs] := ⟨_, rfl⟩
  have h2 : f2.length = 9 := by rw [e2, List.length_append, h1]; rfl
  rw [← e2] at F2 ⊢
  clear e2
  refine sds_cons (sd_set 5 nd rfl (ed_call DR (hr.mono (j := 1) (by decide)) hG (ad_pot 0 rfl rfl (ad_cons (ed_callB T.len (ad_cons (nm 1 (ad_nil (cd_len (l := ls.map tI) (.inl rfl) (ad_nil ⟨_, rfl, by rw [List.length_map]; omega, by rw [List.length_map]; omega, fun d hd => ?_⟩))))))))))
  refine sds_cons (sd_append 4 f2 rfl rfl (by omega) (ed_bin (ed_slLT (nm 1 (nm 5 ⟨ls.map tI, (d : Int), rfl, rfl, .inl ⟨d, rfl, ?_⟩⟩)))))
  refine ed_slLF (nm 1 (ed_bin (nm 5 (ed_int (od_add ⟨ls.map tI, d + 1, rfl, rfl, by rw [List.length_map]; omega, od_catL (l := (ls.map tI).take d) (m := (ls.map tI).drop (d + 1)) (by rw [List.length_take, List.length_drop, List.length_map]; omega) ?_⟩)))))
  have F3 : ∀ e ∈ f2 ++ [D.lst ((ls.map tI).take d ++ (ls.map tI).drop (d + 1))], OkL n e := fun e he => by
    rcases List.mem_append.mp he with z | z
    · exact F2 e z
    · refine ⟨ls.eraseIdx d, ?_, L.of_sub (List.eraseIdx_sublist _ _)⟩
      refine (List.mem_singleton.mp z).trans (congrArg D.lst ?_)
      rw [List.eraseIdx_eq_take_drop_succ, List.map_append, List.map_take, List.map_drop]
  obtain ⟨f3, e3⟩ : ∃ f3, f3 = f2 ++ [D.lst ((ls.map tI).take d ++ (ls.map tI).drop (d + 1))] := ⟨_, rfl⟩
  have h3 : f3.length = 10 := by rw [e3, List.length_append, h2]; rfl
  rw [← e3] at F3 ⊢
  clear e3
  refine sds_st (S' := [some .pot, some (.val (lsD ls)), some (.val (lsD os)), some (.val (lsD (ev n))), some (.own f3), some (.val (.int (d : Int))), none, none, none, none]) rfl ?_
  refine sds_cons (sd_ft (f := tI) (u := tI) (t := fun l => !decide (l ∈ ls)) (l := ev n) (own := [("_law_lot", 8)]) 6 rfl rfl 8 rfl nd (blkOk_by (by show blkC NNe (defScope (top 33)) _ _ = true; decide +kernel)) (fun _ _ _ _ _ => pg_name (i := 8) nd rfl (Or.inl rfl)) (by simp) (by omega) (.inl rfl) (nm 3 rfl) ?_ ?_ ?_)
  · intro l hl s2 H0 C2 cl fp
    exact td_cmp (nm 8 (nm 1 (od_ninT (un65 hr) (kB rfl))))
  · intro l hl _ s2 H0 C2 cl fp
    exact nm 8 rfl
  refine sds_frz 6 _ rfl ?_
  refine sds_frz 4 f3 rfl ?_
  obtain ⟨more, em⟩ : ∃ more, more = (ev n).filter fun l => !decide (l ∈ ls) := ⟨_, rfl⟩
  have mm : ∀ l ∈ more, l ∈ ev n ∧ l ∉ ls := fun l h => by
    rw [em, List.mem_filter] at h
    exact ⟨h.1, by simpa using h.2⟩
  have mnd : more.Nodup := by rw [em]; exact (ev_nd n5).filter _
  have mle : more.length ≤ 32 := by rw [em]; exact Nat.le_trans (List.length_filter_le _ _) e32
  rw [← em]
  clear em
  have fin : ∀ fs : List D, fs ≠ [] → fs.length ≤ 20 → (∀ d ∈ fs, OkL n d) → Q (.lst fs) := q
  refine sds_cons (sd_if (td_cmp (nm 6 (ed_lst (ad_nil ⟨[], rfl, by simp, od_neNilT (un64 hr) (kB ?_)⟩)))))
  cases more with
  | nil =>
    show SDs _ _ _ _ _ _
    exact sds_nil (sds_cons (sd_ret (nm 4 (q f3 (by intro z; rw [z] at h3; cases h3) (by omega) F3))))
  | cons m ms =>
    show SDs _ _ _ _ _ _
    have ml : ((m :: ms).map tI).length = (m :: ms).length := List.length_map ..
    refine sds_cons (sd_set 7 nd rfl (ed_call PI (hr.mono (j := 2) (by decide)) hG (ad_pot 0 rfl rfl (ad_cons (nm 6 (ad_nil ⟨(m :: ms).map tI, rfl, by rw [ml, List.length_cons]; omega, by rw [ml]; omega, fun x hx => ?_⟩))))))
    obtain ⟨fr, hf, rfl⟩ := List.mem_map.mp hx
    have fm := mm fr hf
    refine sds_st (S' := [some .pot, some (.val (lsD ls)), some (.val (lsD os)), some (.val (lsD (ev n))), some (.val (.lst f3)), some (.val (.int (d : Int))), some (.val (lsD (m :: ms))), some (.val (tI fr)), none, none]) rfl ?_
    refine sds_cons (sd_set 4 nd rfl (ed_bin (nm 4 (ed_lst (ad_cons (ed_bin (nm 1 (ed_lst (ad_cons (nm 7 (ad_nil ⟨[tI fr], rfl, by simp, od_catL (l := ls.map tI) (m := [tI fr]) (by rw [List.length_map, List.length_singleton]; omega) ?_⟩)))))))))))
    refine ad_cons (ed_bin (nm 1 (ed_fd (fd_ft (f := tI) (u := tI) (t := fun l => (l.filter fun t => !decide (t ∈ fr)).isEmpty) (l := m :: ms) 8 rfl nd (own := [("_law_lot", 8)]) (blkOk_by (by show blkC NNe (defScope (top 33)) _ _ = true; decide +kernel)) (fun _ _ _ _ _ => pg_name (i := 8) nd rfl (by first | exact Or.inl rfl | exact Or.inr rfl)) (by simp) (by omega) (.inl rfl) (nm 6 rfl) ?_ ?_ (od_catL (l := ls.map tI) (m := ((m :: ms).filter fun l => (l.filter fun t => !decide (t ∈ fr)).isEmpty).map tI) (by rw [List.length_map, List.length_map]; have := List.length_filter_le (fun l : List Int => (l.filter fun t => !decide (t ∈ fr)).isEmpty) (m :: ms); omega) ?_)))))
    · intro l hl s2 H0 C2 cl fp
      have l5 := ev_l5 n5 (mm l hl).1
      refine td_cmp (ed_fd (fd_ft (f := D.int) (u := D.int) (t := fun t => !decide (t ∈ fr)) (l := l) 9 rfl nd (own := [("_law_t", 9)]) (blkOk_in (N := NNe) (blkOk_by (by decide +kernel))) (fun _ _ _ _ _ => pg_name (i := 9) nd rfl (Or.inl rfl)) (by simp) (by omega) (.inr rfl) (nm 8 rfl) ?_ ?_ (ed_lst (ad_nil ⟨[], rfl, by simp, od_eqNilI (un64 hr) (kB rfl)⟩))))
      · intro x hx s3 H3 C3 cl3 fp3
        exact td_cmp (nm 9 (nm 7 (od_ninI (.inr rfl) (kB rfl))))
      · intro x hx _ s3 H3 C3 cl3 fp3
        exact nm 9 rfl
    · intro l hl _ s2 H0 C2 cl fp
      exact nm 8 rfl
    obtain ⟨ys, ey⟩ : ∃ ys, ys = (m :: ms).filter fun l => (l.filter fun t => !decide (t ∈ fr)).isEmpty := ⟨_, rfl⟩
    have yb : ys.Sublist (m :: ms) := by rw [ey]; exact List.filter_sublist
    rw [← ey]
    refine ad_nil ⟨[D.lst (ls.map tI ++ [tI fr]), D.lst (ls.map tI ++ ys.map tI)], rfl, by simp, od_catL (l := f3) (m := [D.lst (ls.map tI ++ [tI fr]), D.lst (ls.map tI ++ ys.map tI)]) (by rw [h3]; show 10 + 2 ≤ _; decide) ?_⟩
    refine sds_nil (sds_cons (sd_ret (nm 4 (q (f3 ++ [D.lst (ls.map tI ++ [tI fr]), D.lst (ls.map tI ++ ys.map tI)]) (by intro z; have := congrArg List.length z; rw [List.length_append, h3] at this; cases this) (by rw [List.length_append, h3]; show 10 + 2 ≤ _; decide) fun d hd => ?_))))
    rcases List.mem_append.mp hd with z | z
    · exact F3 d z
    · refine okl_cons ⟨ls ++ [fr], congrArg D.lst (List.map_append (l₁ := ls) (l₂ := [fr]) (f := tI)).symm, L.app (fun y hy => by rw [List.mem_singleton.mp hy]; exact fm) (by simp)⟩ (okl_cons ⟨ls ++ ys, congrArg D.lst List.map_append.symm, L.app (fun y hy => mm y (yb.subset hy)) (yb.nodup mnd)⟩ okl_nil) d z
end
end K61

set_option Elab.async false
set_option linter.all false
set_option maxRecDepth 100000
set_option maxHeartbeats 8000000
/-! k61: what is said, shown; lots judged right -/
namespace K61
open PySem L2 DL M61
/-! faults stay when lots are put in another sequence -/
theorem ct_perm {a b : List (List Int)} (p : a.Perm b) (l : List Int) : a.contains l = b.contains l := by
  rw [Bool.eq_iff_iff, List.contains_iff_mem, List.contains_iff_mem]
  exact p.mem_iff
theorem fault_perm {n : Nat} {a b : List (List Int)} (p : a.Perm b) : fault n a = fault n b := by
  have e1 : lackB a = lackB b := by
    funext l
    unfold lackB
    rw [ct_perm p, p.any_eq]
  have e2 : stuckB a = stuckB b := by
    funext x y
    unfold stuckB
    refine congrArg (fun z => _ && z) (congrArg _ (funext fun t => ?_))
    rw [ct_perm p]
  have e3 : told n a = told n b := by
    unfold told
    exact congrArg (fun g => (ev n).filter g) (funext fun l => ct_perm p l)
  unfold fault stuckIn
  rw [e1, e2, e3]
theorem perm_map {l : List D} {ls : List (List Int)} (p : l.Perm (ls.map tI)) : ∃ ys : List (List Int), l = ys.map tI ∧ ys.Perm ls := by
  generalize hm : ls.map tI = m at p
  induction p generalizing ls with
  | nil =>
    cases ls with
    | nil => exact ⟨[], rfl, .refl _⟩
    | cons a as => cases hm
  | cons x p ih =>
    cases ls with
    | nil => cases hm
    | cons a as =>
      rw [List.map_cons] at hm
      cases hm
      obtain ⟨ys, e, q⟩ := ih rfl
      exact ⟨a :: ys, by rw [e]; rfl, q.cons a⟩
  | swap x y l =>
    match ls, hm with
    | a :: b :: as, hm =>
      rw [List.map_cons, List.map_cons] at hm
      cases hm
      exact ⟨b :: a :: as, rfl, .swap ..⟩
  | trans p1 p2 ih1 ih2 =>
    obtain ⟨ys, e, q⟩ := ih2 hm
    obtain ⟨zs, e2, q2⟩ := ih1 e.symm
    exact ⟨zs, e2, q2.trans q⟩
theorem Lots.perm {n : Nat} {a b : List (List Int)} (L : Lots n b) (p : a.Perm b) : Lots n a := ⟨L.n5, fun l hl => L.sub l (p.mem_iff.mp hl), p.nodup_iff.mpr L.nd⟩
/-! data that can be shown -/
structure Shw (k w : Nat) (d : PyData) : Prop where
  s : d.showable = true
  dep : d.depth ≤ k
  lv : d.leavesShort 13 = true
  wt : d.weight ≤ w
theorem shw_all {k w : Nat} : ∀ {xs : List PyData}, (∀ x ∈ xs, Shw k w x) → PyData.showableAll xs = true ∧ PyData.depthAll xs ≤ k ∧ PyData.leavesShortAll 13 xs = true ∧ PyData.weightAll xs ≤ (w + 1) * xs.length
  | [], _ => ⟨rfl, Nat.zero_le _, rfl, Nat.zero_le _⟩
  | x :: xs, h => by
    obtain ⟨a, b, c, d⟩ := shw_all fun y hy => h y (List.mem_cons_of_mem _ hy)
    obtain ⟨a1, b1, c1, d1⟩ := h x (List.mem_cons_self ..)
    refine ⟨?_, ?_, ?_, ?_⟩
    · rw [PyData.showableAll, a1, a]; rfl
    · rw [PyData.depthAll]; omega
    · rw [PyData.leavesShortAll, c1, c]; rfl
    · rw [PyData.weightAll, List.length_cons, Nat.mul_add]; omega
theorem shw_list {k w m : Nat} {xs : List PyData} (h : ∀ x ∈ xs, Shw k w x) (hm : xs.length ≤ m) : Shw (k + 1) ((w + 1) * m) (.list xs) := by
  obtain ⟨a, b, c, d⟩ := shw_all h
  exact ⟨a, Nat.succ_le_succ b, c, Nat.le_trans d (Nat.mul_le_mul_left _ hm)⟩
theorem shw_tup {k w m : Nat} {xs : List PyData} (h : ∀ x ∈ xs, Shw k w x) (hm : xs.length ≤ m) : Shw (k + 1) ((w + 1) * m) (.tuple xs) := by
  obtain ⟨a, b, c, d⟩ := shw_all h
  exact ⟨a, Nat.succ_le_succ b, c, Nat.le_trans d (Nat.mul_le_mul_left _ hm)⟩
theorem Shw.mono {k w k' w' : Nat} {d : PyData} (h : Shw k w d) (a : k ≤ k') (b : w ≤ w') : Shw k' w' d := ⟨h.s, Nat.le_trans h.dep a, h.lv, Nat.le_trans h.wt b⟩
theorem shw_nat {k : Nat} (h : k < 5) : Shw 0 8 (.int (k : Int)) := by
  obtain ⟨a, b, c⟩ := (by decide +kernel : ∀ k : Nat, k < 5 → PyData.showable (.int (k : Int)) = true ∧ PyData.depth (.int (k : Int)) ≤ 0 ∧ PyData.weight (.int (k : Int)) ≤ 8) k h
  exact ⟨a, b, decide_eq_true (PyData.shown_int_le (by rw [Int.natAbs_natCast]; omega)), c⟩
theorem shw_lot {n : Nat} (n5 : n ≤ 5) {l : List Int} (h : l ∈ ev n) : Shw 1 45 (pI l) := by
  refine shw_tup (k := 0) (w := 8) (m := 5) (fun x hx => ?_) (by rw [List.length_map]; exact ev_l5 n5 h)
  obtain ⟨i, hi, rfl⟩ := List.mem_map.mp hx
  obtain ⟨j, rfl, hj⟩ := ev_in n5 h hi
  exact shw_nat (by omega)
theorem shw_lots {n : Nat} {ls : List (List Int)} (L : Lots n ls) : (∀ x ∈ ls.map pI, Shw 1 45 x) ∧ (ls.map pI).length ≤ 32 := by
  refine ⟨fun x hx => ?_, by rw [List.length_map]; exact L.len⟩
  obtain ⟨l, hl, rfl⟩ := List.mem_map.mp hx
  exact shw_lot L.n5 (L.sub l hl)
def resP : Res → PyData
  | .none => .none
  | .lacks l => .tuple [.str "lacks", pI l]
  | .stuck a b => .tuple [.str "stuck", pI a, pI b]
theorem pyd_res : ∀ r : Res, PyD (resD r) (resP r)
  | .none => .non
  | .lacks l => .tup (.cons (.str _) (.cons (pyd_tI l) .nil))
  | .stuck a b => .tup (.cons (.str _) (.cons (pyd_tI a) (.cons (pyd_tI b) .nil)))
def Rin (n : Nat) : Res → Prop
  | .none => True
  | .lacks l => l ∈ ev n
  | .stuck a b => a ∈ ev n ∧ b ∈ ev n
def okB : Res → Bool
  | .none => true
  | _ => false
theorem fault_in {n : Nat} {ls : List (List Int)} (r : Res) (h : fault n ls = r) : Rin n r := by
  unfold fault at h
  cases e : (ev n).find? (lackB ls) with
  | some l =>
    rw [e] at h
    subst h
    exact List.mem_of_find?_eq_some e
  | none =>
    rw [e] at h
    cases e2 : stuckIn ls (told n ls) with
    | none => rw [e2] at h; subst h; trivial
    | some ab =>
      obtain ⟨a, b⟩ := ab
      rw [e2] at h
      subst h
      unfold stuckIn at e2
      obtain ⟨x, hx, e3⟩ := List.exists_of_findSome?_eq_some e2
      obtain ⟨y, hy, e4⟩ := Option.map_eq_some_iff.mp e3
      cases e4
      exact ⟨(List.mem_filter.mp hx).1, (List.mem_filter.mp (List.mem_of_find?_eq_some hy)).1⟩
theorem shw_str5 {s : Str} (h : s = ("lacks" : Str) ∨ s = ("stuck" : Str)) : Shw 1 45 (.str s) := by
  rcases h with rfl | rfl <;> exact ⟨rfl, by decide +kernel, by decide +kernel, by decide +kernel⟩
theorem shw_res {n : Nat} {ls : List (List Int)} (n5 : n ≤ 5) : Shw 2 138 (resP (fault n ls)) := by
  have h := fault_in (n := n) (ls := ls) _ rfl
  generalize fault n ls = r at h
  cases r with
  | none => exact ⟨rfl, Nat.zero_le _, rfl, Nat.zero_le _⟩
  | lacks l =>
    refine shw_tup (k := 1) (w := 45) (m := 3) (fun x hx => ?_) (by simp)
    rcases List.mem_cons.mp hx with rfl | hx
    · exact shw_str5 (.inl rfl)
    · rw [List.mem_singleton.mp hx]; exact shw_lot n5 h
  | stuck a b =>
    refine shw_tup (k := 1) (w := 45) (m := 3) (fun x hx => ?_) (by simp)
    rcases List.mem_cons.mp hx with rfl | hx
    · exact shw_str5 (.inr rfl)
    rcases List.mem_cons.mp hx with rfl | hx
    · exact shw_lot n5 h.1
    · rw [List.mem_singleton.mp hx]; exact shw_lot n5 h.2
theorem shw_bl (b : Bool) : Shw 0 0 (.bool b) := ⟨rfl, Nat.zero_le _, rfl, Nat.zero_le _⟩
theorem two_of {P : PyData → Prop} {x : PyData} (h : P x) : ∀ y ∈ [x, x], P y := fun y hy => by
  rcases List.mem_cons.mp hy with rfl | hy
  · exact h
  · rw [List.mem_singleton.mp hy]; exact h
theorem cd_shw {X : Cx} {Q : D → Prop} {d : D} {p : PyData} (hG : X.A.guards = some (gOf X)) (hu : X.A.units + 64 < cLine) (hp : PyD d p) (h : Shw 4 100000 p) (q : Q (.str p.shown)) : CD X (.builtin "repr") [.val d] Q :=
  cd_repr hG (by have := h.dep; omega) hp h.s (PyData.shown_fits (B := 13) (by decide) (by decide) h.lv (Nat.le_trans h.wt (by decide))) q
def sw2 {α : Type} : List α → List α
  | [a, b] => [b, a]
  | l => l
section
variable {P : Program} {w : World} {K : PySem.W.Frag} {mg : Str → Option Value} {base : Heap}
abbrev spJr : SpD := fun as Q => ∃ n : Nat, ∃ ls : List (List Int), as = [.pot, .val (.int (n : Int)), .val (lsD ls)] ∧ Lots n ls ∧ Q (.bl true)
abbrev NJr : List Str := ["_law_pot_here", "_law_many", "_law_lots", "_law_said", "_law_shown", "_law_due", "_law_told"]
theorem sc_jr : FnScope NJr ["_law_pot_here", "_law_many", "_law_lots"] (defScope (top 34)) := ⟨rfl, rfl, rfl, by decide +kernel, rfl, by decide +kernel, by decide +kernel⟩
theorem ok_jr {f : Addr} {fd : FuncData} (F : FunS K "_law_judged_right" "_law_judged_right" (top 34) f fd) (T : Txt K mg) (DR : Df P w K mg base "_law_draw" 1 2 spDraw) (MI : Df P w K mg base "_law_mixed" 2 2 spMix) (FA : Df P w K mg base "_law_fault" 3 2 spFau)
    (BA : Df P w K mg base "bad_lot" 5 2 spBad) (HO : Df P w K mg base "is_house" 6 2 spHou) (BK : DfK P w K mg base "bad_lot" 5 ["lots", "many"] sw2 spBad) (HK : DfK P w K mg base "is_house" 6 ["lots", "many"] sw2 spHou) : GnOk P w K mg base 7 f fd ["_law_pot_here", "_law_many", "_law_lots"] (lift K spJr) := by
  refine gn_dl F sc_jr (fun as Q h => by obtain ⟨_, _, rfl, _⟩ := h; rfl) (fun cdv A outer s H hr hG W as Q h => ?_)
  obtain ⟨n, ls, rfl, L, q⟩ := h
  have nd := sc_jr.nd
  have n5 := L.n5
  have l32 := L.len
  refine sds_cons (sd_set 3 nd rfl (ed_call MI (hr.mono (j := 2) (by decide)) hG (ad_pot 0 rfl rfl (ad_cons (nm 2 (ad_nil ⟨ls.map tI, rfl, by rw [List.length_map]; omega, fun l' p => ?_⟩))))))
  obtain ⟨ys, rfl, py⟩ := perm_map p
  have LY := L.perm py
  refine sds_cons (sd_mid (fun S' => ∃ d, SeqD d (ys.map tI) ∧ S' = [some .pot, some (.val (.int (n : Int))), some (.val (lsD ls)), some (.val d), none, none, none]) ?_ (sd_set 3 nd rfl (ed_ifx (td_cmp (ed_call DR (hr.mono (j := 1) (by decide)) hG (ad_pot 0 rfl rfl (ad_cons (ed_int (ad_nil ⟨2, rfl, by decide, by decide, fun d hd => ed_int (od_eqi (kB ?_))⟩)))))))))
  rotate_left
  · cases decide ((d : Int) = 0) with
    | true =>
      show ED _ _ _ _ _
      exact nm 3 ⟨_, .inl rfl, rfl⟩
    | false =>
      show ED _ _ _ _ _
      exact ed_callTy T.tuple (ad_cons (nm 3 (ad_nil (cd_tuple ⟨_, .inr rfl, rfl⟩))))
  rintro S' ⟨d, sd, rfl⟩
  obtain ⟨pd, hp, hsh⟩ : ∃ pd, PyD d pd ∧ Shw 4 100000 pd := by
    obtain ⟨a, b⟩ := shw_lots LY
    rcases sd with rfl | rfl
    · exact ⟨_, .lst (pyd_tIs ys), (shw_list a b).mono (by decide) (by decide)⟩
    · exact ⟨_, .tup (pyd_tIs ys), (shw_tup a b).mono (by decide) (by decide)⟩
  have hu : (Bx P w K mg base NJr "_law_judged_right" (top 34) f cdv A outer s H).A.units + 64 < cLine := un64 hr
  have ef : fault n ys = fault n ls := fault_perm py
  obtain ⟨r, hrr⟩ : ∃ r, r = fault n ls := ⟨_, rfl⟩
  have shr : Shw 2 138 (resP r) := by rw [hrr]; exact shw_res n5
  refine sds_cons (sd_par 4 5 rfl nd rfl rfl (by decide) rfl rfl (ad_cons (ed_callB T.repr (ad_cons (nm 3 (ad_nil (cd_shw hG hu hp hsh (ad_cons (ed_call FA (hr.mono (j := 3) (by decide)) hG (ad_cons (nm 1 (ad_cons (nm 2 (ad_nil ⟨n, ls, _, rfl, rfl, L, ad_nil ⟨_, _, rfl, ?_⟩⟩))))))))))))))
  rw [← hrr]
  refine sds_cons (sd_if (td_cmp (ed_callB T.repr (ad_cons (ed_lst (ad_cons (ed_call BA (hr.mono (j := 5) (by decide)) hG (ad_cons (nm 1 (ad_cons (nm 3 (ad_nil ⟨n, d, ys, rfl, sd, LY, ?_⟩))))))))))))
  rw [ef, ← hrr]
  refine ad_cons (ed_callK0 BK (hr.mono (j := 5) (by decide)) hG (kd_cons (nm 3 (kd_cons (nm 1 (kd_nil ⟨rfl, n, d, ys, rfl, sd, LY, ?_⟩))))))
  rw [ef, ← hrr]
  have SR : Shw 4 100000 (.list [resP r, resP r]) := (shw_list (m := 2) (two_of shr) (by simp)).mono (by decide) (by decide)
  have PR : PyD (.lst [resD r, resD r]) (.list [resP r, resP r]) := .lst (.cons (pyd_res r) (.cons (pyd_res r) .nil))
  refine ad_nil ⟨[resD r, resD r], rfl, by simp, ad_nil (cd_shw hG hu PR SR ?_)⟩
  refine ed_callB T.repr (ad_cons (ed_lst (ad_cons (nm 5 (ad_cons (nm 5 (ad_nil ⟨[resD r, resD r], rfl, by simp, ad_nil (cd_shw hG hu PR SR (od_nes (kB ?_)))⟩)))))))
  rw [decide_eq_true rfl]
  show SDs _ _ _ _ _ _
  refine sds_nil ?_
  obtain ⟨b, hb⟩ : ∃ b, b = okB r := ⟨_, rfl⟩
  have hx : spHou.match_1 (fun _ => Bool) r (fun _ => true) (fun _ => false) = b := by
    rw [hb]
    cases r <;> rfl
  have SB : Shw 4 100000 (.list [.bool b, .bool b]) := (shw_list (m := 2) (two_of (shw_bl b)) (by simp)).mono (by decide) (by decide)
  have PB : PyD (.lst [.bl b, .bl b]) (.list [.bool b, .bool b]) := .lst (.cons (.bl b) (.cons (.bl b) .nil))
  refine sds_cons (sd_set 6 nd rfl (ed_lst (ad_cons (ed_call HO hr hG (ad_cons (nm 1 (ad_cons (nm 3 (ad_nil ⟨n, d, ys, rfl, sd, LY, ?_⟩)))))))))
  rw [ef, ← hrr, hx]
  refine ad_cons (ed_callK0 HK hr hG (kd_cons (nm 3 (kd_cons (nm 1 (kd_nil ⟨rfl, n, d, ys, rfl, sd, LY, ?_⟩))))))
  rw [ef, ← hrr, hx]
  refine ad_nil ⟨[.bl b, .bl b], rfl, by simp, ?_⟩
  have en : DL.od_isN.match_1 (fun _ => Bool) (resD r) (fun _ => true) (fun _ => false) = b := by
    rw [hb]
    cases r <;> rfl
  refine sds_cons (sd_ret (ed_and (ed_cmp (ed_callB T.repr (ad_cons (nm 6 (ad_nil (cd_shw hG hu PB SB (ed_callB T.repr (ad_cons (ed_lst (ad_cons (ed_cmp (nm 5 (ed_non (od_isN ?_))))))))))))))))
  rw [en]
  refine ad_cons (ed_cmp (nm 5 (ed_non (od_isN ?_))))
  rw [en]
  refine ad_nil ⟨[.bl b, .bl b], rfl, by simp, ad_nil (cd_shw hG hu PB SB (od_eqs ⟨true, by rw [decide_eq_true rfl], ?_⟩))⟩
  show ED _ _ _ _ _
  refine ed_one (ed_cmp (ed_callB T.repr (ad_cons (nm 3 (ad_nil (cd_shw hG hu hp hsh (nm 4 (od_eqs ?_))))))))
  rw [decide_eq_true rfl]
  exact q
end
end K61

set_option Elab.async false
set_option linter.all false
set_option maxRecDepth 100000
set_option maxHeartbeats 8000000
/-! k61: houses by kinds -/
namespace K61
open PySem L2 DL M61
theorem range3 (t : Nat → Bool) : ((List.range 3).filter t).map (fun (k : Nat) => D.int (k : Int)) = (((List.range 3).filter t).map fun (k : Nat) => (k : Int)).map D.int := by rw [List.map_map]; rfl
def kdF (ks : List Int) (t : Int) : Int := ks.getD t.toNat 0
def overB (ks cs l : List Int) : Bool := !((((List.range 3).filter fun (k : Nat) => decide (kdF cs (k : Int) < (cnt (kdF ks) (k : Int) l : Int))).map fun (k : Nat) => (k : Int)).isEmpty)
theorem over_iff {ks cs l : List Int} : overB ks cs l = false ↔ ∀ k, k = 0 ∨ k = 1 ∨ k = 2 → (cnt (kdF ks) k l : Int) ≤ kdF cs k := by
  unfold overB
  rw [Bool.not_eq_false', List.isEmpty_iff, List.map_eq_nil_iff, List.filter_eq_nil_iff]
  constructor
  · intro h k hk
    rcases hk with rfl | rfl | rfl
    · have := h 0 (by decide)
      simp only [decide_eq_true_eq] at this
      exact Int.not_lt.mp this
    · have := h 1 (by decide)
      simp only [decide_eq_true_eq] at this
      exact Int.not_lt.mp this
    · have := h 2 (by decide)
      simp only [decide_eq_true_eq] at this
      exact Int.not_lt.mp this
  · intro h k hk
    have : k = 0 ∨ k = 1 ∨ k = 2 := by have := List.mem_range.mp hk; omega
    simp only [decide_eq_true_eq]
    refine Int.not_lt.mpr (h (k : Int) ?_)
    omega
theorem kdF_at {ks : List Int} {k : Nat} (h : k < ks.length) : atI (ks.map D.int) (k : Int) = some (.int (kdF ks (k : Int))) := by
  have e : ks[k]? = some ks[k] := List.getElem?_eq_getElem h
  refine atI_nat ?_
  unfold kdF
  rw [List.getElem?_map, Int.toNat_natCast, List.getD_eq_getElem?_getD, e]
  rfl
section
variable {P : Program} {w : World} {K : PySem.W.Frag} {mg : Str → Option Value} {base : Heap}
theorem hs1 {f : Addr} {cdv : Value} {A : Around} {outer : List Env} {s : Shared} {H : Hp} {W : Wd} {Q : D → Prop} {n : Nat} (n5 : n ≤ 5) (T : Txt K mg) (DR : Df P w K mg base "_law_draw" 1 2 spDraw) (hr : Room 1 (Bx P w K mg base NHo "_law_house" (top 31) f cdv A outer s H).A)
    (hG : (Bx P w K mg base NHo "_law_house" (top 31) f cdv A outer s H).A.guards = some (gOf (Bx P w K mg base NHo "_law_house" (top 31) f cdv A outer s H))) (q : ∀ ls : List (List Int), Lots n ls → fault n ls = .none → Q (.lst (ls.map tI))) (wy : Int) (E : Ends') (hE : E.rt = Q) :
    SDs (Bx P w K mg base NHo "_law_house" (top 31) f cdv A outer s H) H W (((startE NHo [.pot, .val (.int (n : Int))]).set 2 (some (.val (.int wy)))).set 3 (some (.val (.lst ((ev n).map tI))))) (match (defBody (top 31)).getD 2 (.Pass ⟨0, 0, 0, 0⟩) with | .If _ b _ _ => b | _ => []) E := by
  have nd := sc_hs.nd
  have e32 := ev_len n n5
  subst hE
  refine sds_cons (sd_asg (ed_tup (ad_cons (ed_fd (fd_relR (n := n) (fun _ y => ∃ z : Int, y = .int z ∧ (z = 0 ∨ z = 1 ∨ z = 2)) 12 (own := [("_law_thing", 12)]) rfl nd T.range (blkOk_by (by show blkC NHo (defScope (top 31)) _ _ = true; decide +kernel)) (fun _ _ _ _ _ => pg_name (i := 12) nd rfl (Or.inl rfl)) (by omega) (ad_cons (nm 1 (ad_nil rfl))) (by simp) ?_ ?_)))))
  · intro i hi s2 H0 C2 cl fp
    refine ed_call DR hr hG (ad_pot 0 rfl rfl (ad_cons (ed_int (ad_nil ⟨3, rfl, by decide, by decide, fun d hd => ⟨(d : Int), rfl, by omega⟩⟩))))
  intro out ho
  obtain ⟨ks, rfl, lk, hk⟩ := outs_ints ho
  refine ad_cons (ed_fd (fd_relR (n := 3) (fun _ y => ∃ z : Int, y = .int z ∧ 0 ≤ z) 13 (own := [("_law_kind", 13)]) rfl nd T.range (blkOk_by (by show blkC NHo (defScope (top 31)) _ _ = true; decide +kernel)) (fun _ _ _ _ _ => pg_name (i := 13) nd rfl (Or.inl rfl)) (by omega) (ad_cons (ed_int (ad_nil rfl))) (by simp) ?_ ?_))
  · intro i hi s2 H0 C2 cl fp
    refine ed_call DR hr hG (ad_pot 0 rfl rfl (ad_cons (ed_int (ad_nil ⟨3, rfl, by decide, by decide, fun d hd => ⟨(d : Int), rfl, by omega⟩⟩))))
  intro out2 ho2
  obtain ⟨cs, rfl, lc, hc⟩ := outs_ints ho2
  refine ad_nil ⟨[rI ks, rI cs], rfl, by simp, gd_tup rfl (gds_cons (gd_name 5 nd rfl (gds_cons (gd_name 6 nd rfl (gds_nil ?_))))) rfl⟩
  refine sds_st (S' := [some .pot, some (.val (.int (n : Int))), some (.val (.int wy)), some (.val (.lst ((ev n).map tI))), none, some (.val (rI ks)), some (.val (rI cs)), none, none, none, none, none, none, none, none, none, none]) rfl ?_
  refine sds_cons (sd_set 7 nd rfl (ed_fd (fd_ft (f := tI) (u := tI) (t := overB ks cs) (l := ev n) (own := [("_law_lot", 11)]) 11 rfl nd (blkOk_by (by show blkC NHo (defScope (top 31)) _ _ = true; decide +kernel)) (fun _ _ _ _ _ => pg_name (i := 11) nd rfl (Or.inr rfl)) (by simp) (by omega) (.inl rfl) (nm 3 rfl) ?_ ?_ ?_)))
  · intro l hl s2 H0 C2 cl fp
    refine td_cmp (ed_fd (fd_ftR (n := 3) (u := fun k => .int (k : Int)) (t := fun k => decide (kdF cs (k : Int) < (cnt (kdF ks) (k : Int) l : Int))) 14 rfl nd T.range (own := [("_law_k", 14)]) (blkOk_in (N := NHo) (blkOk_by (by decide +kernel))) (fun _ _ _ _ _ => pg_name (i := 14) nd rfl (Or.inr rfl)) (by simp) (by omega) (ad_cons (ed_int (ad_nil rfl))) ?_ ?_ (ed_lst (ad_nil ⟨[], rfl, by simp, by rw [range3]; exact od_neNilI (un64 hr) (kB rfl)⟩))))
    · intro k hk3 s3 H3 C3 cl3 fp3
      refine td_cmp (ed_callB T.len (ad_cons (ed_fd (fd_ft (f := D.int) (u := D.int) (t := fun x => decide (kdF ks x = (k : Int))) (l := l) 15 rfl nd (own := [("_law_t", 15)]) (blkOk_in (N := NHo) (blkOk_by (by decide +kernel))) (fun _ _ _ _ _ => pg_name (i := 15) nd rfl (Or.inl rfl)) (by simp) (by have := ev_l5 n5 hl; omega) (.inr rfl) (nm 11 rfl) ?_ ?_ (ad_nil (cd_len (.inl rfl) (ed_ix (nm 6 (nm 14 ⟨_, (k : Int), _, .inl rfl, rfl, kdF_at (ks := cs) (by omega), od_gt (kB ?_)⟩)))))))))
      · intro x hx s4 H4 C4 cl4 fp4
        obtain ⟨x0, rfl, hxn⟩ := ev_in n5 hl hx
        exact td_cmp (ed_ix (nm 5 (nm 15 ⟨_, (x0 : Int), _, .inl rfl, rfl, kdF_at (ks := ks) (by omega), nm 14 (od_eqi (kB rfl))⟩)))
      · intro x hx _ s4 H4 C4 cl4 fp4
        exact nm 15 rfl
      · unfold cnt
        rw [List.length_map]
    · intro k hk3 _ s3 H3 C3 cl3 fp3
      exact nm 14 rfl
  · intro l hl _ s2 H0 C2 cl fp
    exact nm 11 rfl
  have kd3 : ∀ t, kdF ks t = 0 ∨ kdF ks t = 1 ∨ kdF ks t = 2 := fun t => by
    unfold kdF
    rw [List.getD_eq_getElem?_getD]
    cases e : ks[t.toNat]? with
    | none => exact .inl rfl
    | some z => exact hk z (List.mem_of_getElem? e)
  have cp0 : ∀ t, 0 ≤ kdF cs t := fun t => by
    unfold kdF
    rw [List.getD_eq_getElem?_getD]
    cases e : cs[t.toNat]? with
    | none => exact Int.le_refl 0
    | some z => exact hc z (List.mem_of_getElem? e)
  refine sds_cons (sd_ret (ed_fd (fd_ft (f := tI) (u := tI) (t := fun l => !decide (l ∈ (ev n).filter (overB ks cs))) (l := ev n) 11 rfl nd (own := [("_law_lot", 11)]) (blkOk_by (by show blkC NHo (defScope (top 31)) _ _ = true; decide +kernel)) (fun _ _ _ _ _ => pg_name (i := 11) nd rfl (Or.inl rfl)) (by simp) (by omega) (.inl rfl) (nm 3 rfl) ?_ ?_ (q _ (flt_lots n5 _) (house1 n5 (kdF ks) (kdF cs) kd3 cp0 fun l => ?_)))))
  · intro l hl s2 H0 C2 cl fp
    exact td_cmp (nm 11 (nm 7 (od_ninT (un65 hr) (kB rfl))))
  · intro l hl _ s2 H0 C2 cl fp
    exact nm 11 rfl
  · rw [List.mem_filter, ← over_iff]
    refine and_congr_right fun hl => ?_
    rw [Bool.not_eq_true', decide_eq_false_iff_not, List.mem_filter]
    constructor
    · intro h
      cases e : overB ks cs l with
      | false => rfl
      | true => exact absurd ⟨hl, e⟩ h
    · intro h z
      rw [h] at z
      cases z.2
end
end K61

set_option Elab.async false
set_option linter.all false
set_option maxRecDepth 100000
set_option maxHeartbeats 8000000
/-! k61: houses of free vectors, of ties -/
namespace K61
open PySem L2 DL M61
theorem outs_of {α : Type} {n : Nat} {g : α → D} {P : α → Prop} {out : List D} (h : Outs (fun _ y => ∃ z : α, y = g z ∧ P z) n out) : ∃ fs : List α, out = fs.map g ∧ fs.length = n ∧ ∀ z ∈ fs, P z := by
  have key : ∀ out : List D, (∀ y ∈ out, ∃ z : α, y = g z ∧ P z) → ∃ fs : List α, out = fs.map g ∧ ∀ z ∈ fs, P z := by
    intro out
    induction out with
    | nil => exact fun _ => ⟨[], rfl, by simp⟩
    | cons y out ih =>
      intro hy
      obtain ⟨z, e, hz⟩ := hy y (List.mem_cons_self ..)
      obtain ⟨fs, e2, hf⟩ := ih fun y hy' => hy y (List.mem_cons_of_mem _ hy')
      refine ⟨z :: fs, by rw [e, e2]; rfl, fun w hw => ?_⟩
      rcases List.mem_cons.mp hw with q | q
      · rw [q]; exact hz
      · exact hf w q
  obtain ⟨fs, e, hf⟩ := key out fun y hy => by
    obtain ⟨i, hi, e⟩ := List.getElem_of_mem hy
    obtain ⟨y', e1, p⟩ := h.2 i (by rw [← h.1]; exact hi)
    rw [List.getElem?_eq_getElem hi] at e1
    cases e1
    rw [← e]
    exact p
  exact ⟨fs, e, by rw [← h.1, e, List.length_map], hf⟩
def rwF (rs : List (List Int)) (t : Int) : List Int := rs.getD t.toNat []
def vcF (rs : List (List Int)) (t : Int) : Vec := ⟨(rwF rs t).getD 0 0, (rwF rs t).getD 1 0, (rwF rs t).getD 2 0⟩
theorem in_vec {rs : List (List Int)} {w : Nat} {t : Int} (w1 : 1 ≤ w) (w3 : w ≤ 3) (h : (rwF rs t).length = w) : In w (vcF rs t) (rwF rs t) := by
  unfold vcF
  match hr : rwF rs t, h with
  | [], h => simp at h; omega
  | [x], h => exact .inl ⟨by rw [← h]; rfl, rfl, rfl, rfl⟩
  | [x, y], h => exact .inr (.inl ⟨by rw [← h]; rfl, rfl, rfl⟩)
  | [x, y, z], h => exact .inr (.inr ⟨by rw [← h]; rfl, rfl⟩)
  | _ :: _ :: _ :: _ :: _, h => simp at h; omega
theorem free_iff {rs : List (List Int)} {w : Nat} (w1 : 1 ≤ w) (w3 : w ≤ 3) (l : List Int) (h : ∀ t ∈ l, (rwF rs t).length = w) : (decide (l.length ≤ w) && free (l.map (rwF rs))) = true ↔ FreeL w (vcF rs) l := by
  have V : ∀ t ∈ l, In w (vcF rs t) (rwF rs t) := fun t ht => in_vec w1 w3 (h t ht)
  rw [Bool.and_eq_true, decide_eq_true_eq]
  match l, V with
  | [], _ => exact ⟨fun _ => trivial, fun _ => ⟨Nat.zero_le _, free0⟩⟩
  | [a], V =>
    rw [show [a].map (rwF rs) = [rwF rs a] from rfl, free1 (V a (by simp)), decide_eq_true_eq]
    exact Iff.rfl
  | [a, b], V =>
    rw [show [a, b].map (rwF rs) = [rwF rs a, rwF rs b] from rfl, free2 (V a (by simp)) (V b (by simp)), decide_eq_true_eq]
    exact Iff.rfl
  | [a, b, c], V =>
    rw [show [a, b, c].map (rwF rs) = [rwF rs a, rwF rs b, rwF rs c] from rfl, free3 (V a (by simp)) (V b (by simp)) (V c (by simp)), decide_eq_true_eq]
    exact Iff.rfl
  | _ :: _ :: _ :: _ :: _, _ => exact ⟨fun h => absurd h.1 (by simp only [List.length_cons]; omega), fun h => h.elim⟩
def tiF (ps : List Tie) (t : Int) : Tie := ps.getD t.toNat (0, 1)
section
variable {P : Program} {w : World} {K : PySem.W.Frag} {mg : Str → Option Value} {base : Heap}
theorem hs2 {f : Addr} {cdv : Value} {A : Around} {outer : List Env} {s : Shared} {H : Hp} {W : Wd} {Q : D → Prop} {n : Nat} (n5 : n ≤ 5) (T : Txt K mg) (DR : Df P w K mg base "_law_draw" 1 2 spDraw) (PI : Df P w K mg base "_law_pick" 2 2 spPick) (FR : Df P w K mg base "_law_are_free" 5 1 spFree) (hr : Room 5 (Bx P w K mg base NHo "_law_house" (top 31) f cdv A outer s H).A)
    (hG : (Bx P w K mg base NHo "_law_house" (top 31) f cdv A outer s H).A.guards = some (gOf (Bx P w K mg base NHo "_law_house" (top 31) f cdv A outer s H))) (q : ∀ ls : List (List Int), Lots n ls → fault n ls = .none → Q (.lst (ls.map tI))) (wy : Int) (E : Ends') (hE : E.rt = Q) :
    SDs (Bx P w K mg base NHo "_law_house" (top 31) f cdv A outer s H) H W (((startE NHo [.pot, .val (.int (n : Int))]).set 2 (some (.val (.int wy)))).set 3 (some (.val (.lst ((ev n).map tI))))) (match (defBody (top 31)).getD 3 (.Pass ⟨0, 0, 0, 0⟩) with | .If _ b _ _ => b | _ => []) E := by
  have nd := sc_hs.nd
  have e32 := ev_len n n5
  subst hE
  refine sds_cons (sd_set 8 nd rfl (ed_bin (ed_int (ed_call DR (hr.mono (j := 1) (by decide)) hG (ad_pot 0 rfl rfl (ad_cons (ed_int (ad_nil ⟨3, rfl, by decide, by decide, fun d hd => od_add ?_⟩))))))))
  have ew : (1 : Int) + (d : Int) = ((d + 1 : Nat) : Int) := by omega
  rw [ew]
  refine sds_st (S' := [some .pot, some (.val (.int (n : Int))), some (.val (.int wy)), some (.val (.lst ((ev n).map tI))), none, none, none, none, some (.val (.int ((d + 1 : Nat) : Int))), none, none, none, none, none, none, none, none]) rfl ?_
  refine sds_cons (sd_set 9 nd rfl (ed_fd (fd_relR (n := n) (fun _ y => ∃ r : List Int, y = rI r ∧ r.length = d + 1 ∧ ∀ c ∈ r, c.natAbs ≤ 2) 12 (own := [("_law_thing", 12)]) rfl nd T.range (blkOk_by (by show blkC NHo (defScope (top 31)) _ _ = true; decide +kernel)) (fun _ _ _ _ _ => pg_name (i := 12) nd rfl (Or.inl rfl)) (by omega) (ad_cons (nm 1 (ad_nil rfl))) (by simp) ?_ ?_)))
  · intro i hi s2 H0 C2 cl fp
    refine ed_fd (fd_relR (n := d + 1) (fun _ y => ∃ z : Int, y = .int z ∧ z.natAbs ≤ 2) 16 (own := [("_law_at", 16)]) rfl nd T.range (blkOk_in (N := NHo) (blkOk_by (by decide +kernel))) (fun _ _ _ _ _ => pg_name (i := 16) nd rfl (Or.inl rfl)) (by omega) (ad_cons (nm 8 (ad_nil rfl))) (by simp) ?_ ?_)
    · intro j hj s3 H3 C3 cl3 fp3
      refine ed_call PI (hr.mono (j := 2) (by decide)) hG (ad_pot 0 rfl rfl (ad_cons (ed_lst ?_)))
      refine ad_cons (ed_int ?_)
      refine ad_cons (ed_int ?_)
      refine ad_cons (ed_int ?_)
      refine ad_cons (ed_int ?_)
      refine ad_cons (ed_neg (ed_int ⟨1, rfl, ?_⟩))
      refine ad_cons (ed_int ?_)
      refine ad_nil ⟨[.int 0, .int 0, .int 1, .int 1, .int (-1), .int 2], rfl, by simp, ad_nil ⟨_, rfl, by simp, by simp, ?_⟩⟩
      intro x hx
      simp only [List.mem_cons, List.not_mem_nil, or_false] at hx
      rcases hx with rfl | rfl | rfl | rfl | rfl | rfl
      · exact ⟨0, rfl, by decide⟩
      · exact ⟨0, rfl, by decide⟩
      · exact ⟨1, rfl, by decide⟩
      · exact ⟨1, rfl, by decide⟩
      · exact ⟨-1, rfl, by decide⟩
      · exact ⟨2, rfl, by decide⟩
    · intro out ho
      obtain ⟨r, rfl, lr, hr2⟩ := outs_ints ho
      exact ⟨r, rfl, lr, hr2⟩
  intro out ho
  obtain ⟨rs, rfl, lrs, hrs⟩ := outs_of (g := rI) (P := fun r : List Int => r.length = d + 1 ∧ ∀ c ∈ r, c.natAbs ≤ 2) ho
  have rat : ∀ k : Nat, k < n → atI (rs.map rI) (k : Int) = some (rI (rwF rs (k : Int))) ∧ (rwF rs (k : Int)).length = d + 1 ∧ ∀ c ∈ rwF rs (k : Int), c.natAbs ≤ 2 := fun k hk => by
    have e : rs[k]? = some (rs[k]'(by omega)) := List.getElem?_eq_getElem _
    have e2 : rwF rs (k : Int) = rs[k]'(by omega) := by
      unfold rwF
      rw [Int.toNat_natCast, List.getD_eq_getElem?_getD, e]
      rfl
    refine ⟨atI_nat ?_, ?_⟩
    · rw [List.getElem?_map, e, e2]
      rfl
    · rw [e2]
      exact hrs _ (List.getElem_mem _)
  have w3 : d + 1 ≤ 3 := by omega
  refine sds_st (S' := [some .pot, some (.val (.int (n : Int))), some (.val (.int wy)), some (.val (.lst ((ev n).map tI))), none, none, none, none, some (.val (.int ((d + 1 : Nat) : Int))), some (.val (.lst (rs.map rI))), none, none, none, none, none, none, none]) rfl ?_
  refine sds_cons (sd_ret (ed_fd (fd_ft (f := tI) (u := tI) (t := fun l => decide (l.length ≤ d + 1) && free (l.map (rwF rs))) (l := ev n) 11 rfl nd (own := [("_law_lot", 11)]) (blkOk_by (by show blkC NHo (defScope (top 31)) _ _ = true; decide +kernel)) (fun _ _ _ _ _ => pg_name (i := 11) nd rfl (by first | exact Or.inl rfl | exact Or.inr rfl)) (by simp) (by omega) (.inl rfl) (nm 3 rfl) ?_ ?_ (q _ (flt_lots n5 _) (house2 n5 (d + 1) (vcF rs) fun l => ?_)))))
  · intro l hl s2 H0 C2 cl fp
    refine td_of (tw_and (td_cmp (ed_callB T.len (ad_cons (nm 11 (ad_nil (cd_len (l := l.map D.int) (.inr rfl) (nm 8 (od_le (kB ?_))))))))))
    rw [List.length_map]
    by_cases c : l.length ≤ d + 1
    · rw [decide_eq_true (by omega), decide_eq_true c]
      show TW _ _ _ _ _
      refine tw_and1 (td_val (ed_call FR hr hG (ad_cons (ed_fd (fd_mp (f := D.int) (u := fun t => rI (rwF rs t)) (l := l) 12 rfl nd (own := [("_law_thing", 12)]) (blkOk_in (N := NHo) (blkOk_by (by decide +kernel))) (fun _ _ _ _ _ => pg_name (i := 12) nd rfl (Or.inl rfl)) (by simp) (by omega) (.inr rfl) (nm 11 rfl) ?_ (ad_nil ⟨l.map (rwF rs), d + 1, by rw [List.map_map]; rfl, by rw [List.length_map]; omega, w3, ?_, kB (by rw [Bool.true_and])⟩))))))
      · intro x hx s3 H3 C3 cl3 fp3
        obtain ⟨x0, rfl, hxn⟩ := ev_in n5 hl hx
        exact ed_ix (nm 9 (nm 12 ⟨_, (x0 : Int), _, .inl rfl, rfl, (rat x0 hxn).1, rfl⟩))
      · intro v hv
        obtain ⟨x, hx, rfl⟩ := List.mem_map.mp hv
        obtain ⟨x0, rfl, hxn⟩ := ev_in n5 hl hx
        exact (rat x0 hxn).2
    · rw [decide_eq_false (by omega), decide_eq_false c]
      exact (Bool.false_and _).symm
  · intro l hl _ s2 H0 C2 cl fp
    exact nm 11 rfl
  · rw [List.mem_filter]
    refine and_congr_right fun hl => free_iff (by omega) w3 l fun x hx => ?_
    obtain ⟨x0, rfl, hxn⟩ := ev_in n5 hl hx
    exact (rat x0 hxn).2.1
theorem hs3 {f : Addr} {cdv : Value} {A : Around} {outer : List Env} {s : Shared} {H : Hp} {W : Wd} {Q : D → Prop} {n : Nat} (n5 : n ≤ 5) (T : Txt K mg) (PI : Df P w K mg base "_law_pick" 2 2 spPick) (NR : Df P w K mg base "_law_no_ring" 1 2 spNR) (hr : Room 5 (Bx P w K mg base NHo "_law_house" (top 31) f cdv A outer s H).A)
    (hG : (Bx P w K mg base NHo "_law_house" (top 31) f cdv A outer s H).A.guards = some (gOf (Bx P w K mg base NHo "_law_house" (top 31) f cdv A outer s H))) (q : ∀ ls : List (List Int), Lots n ls → fault n ls = .none → Q (.lst (ls.map tI))) (wy : Int) (E : Ends') (hE : E.rt = Q) :
    SDs (Bx P w K mg base NHo "_law_house" (top 31) f cdv A outer s H) H W (((startE NHo [.pot, .val (.int (n : Int))]).set 2 (some (.val (.int wy)))).set 3 (some (.val (.lst ((ev n).map tI))))) ((defBody (top 31)).drop 4) E := by
  have nd := sc_hs.nd
  have e32 := ev_len n n5
  subst hE
  refine sds_st (S' := [some .pot, some (.val (.int (n : Int))), some (.val (.int wy)), some (.val (.lst ((ev n).map tI))), none, none, none, none, none, none, none, none, none, none, none, none, none]) rfl ?_
  refine sds_cons (sd_set 10 nd rfl (ed_fd (fd_relR (n := n) (fun _ y => ∃ p : Tie, y = tieD p ∧ p ∈ five) 12 (own := [("_law_thing", 12)]) rfl nd T.range (blkOk_by (by show blkC NHo (defScope (top 31)) _ _ = true; decide +kernel)) (fun _ _ _ _ _ => pg_name (i := 12) nd rfl (Or.inl rfl)) (by omega) (ad_cons (nm 1 (ad_nil rfl))) (by simp) ?_ ?_)))
  · intro i hi s2 H0 C2 cl fp
    refine ed_call PI (hr.mono (j := 2) (by decide)) hG (ad_pot 0 rfl rfl ?_)
    refine ad_cons ?_
    refine ed_lst ?_
    refine ad_cons (ed_tup (ad_cons (ed_int (ad_cons (ed_int (ad_nil ⟨[.int 0, .int 1], rfl, by simp, ?_⟩))))))
    refine ad_cons (ed_tup (ad_cons (ed_int (ad_cons (ed_int (ad_nil ⟨[.int 0, .int 2], rfl, by simp, ?_⟩))))))
    refine ad_cons (ed_tup (ad_cons (ed_int (ad_cons (ed_int (ad_nil ⟨[.int 1, .int 2], rfl, by simp, ?_⟩))))))
    refine ad_cons (ed_tup (ad_cons (ed_int (ad_cons (ed_int (ad_nil ⟨[.int 1, .int 3], rfl, by simp, ?_⟩))))))
    refine ad_cons (ed_tup (ad_cons (ed_int (ad_cons (ed_int (ad_nil ⟨[.int 2, .int 3], rfl, by simp, ?_⟩))))))
    refine ad_nil ⟨five.map tieD, rfl, by simp [five], ad_nil ⟨_, rfl, by simp [five], by simp [five], fun x hx => ?_⟩⟩
    obtain ⟨p, hp, rfl⟩ := List.mem_map.mp hx
    exact ⟨p, rfl, hp⟩
  intro out ho
  obtain ⟨ps, rfl, lps, hps⟩ := outs_of (g := tieD) (P := fun p => p ∈ five) ho
  have pf : ∀ t, tiF ps t ∈ five := fun t => by
    unfold tiF
    rw [List.getD_eq_getElem?_getD]
    cases e : ps[t.toNat]? with
    | none => decide
    | some z => exact hps z (List.mem_of_getElem? e)
  have pat : ∀ k : Nat, k < n → atI (ps.map tieD) (k : Int) = some (tieD (tiF ps (k : Int))) := fun k hk => by
    have e : ps[k]? = some (ps[k]'(by omega)) := List.getElem?_eq_getElem _
    refine atI_nat ?_
    unfold tiF
    rw [List.getElem?_map, Int.toNat_natCast, List.getD_eq_getElem?_getD, e]
    rfl
  refine sds_st (S' := [some .pot, some (.val (.int (n : Int))), some (.val (.int wy)), some (.val (.lst ((ev n).map tI))), none, none, none, none, none, none, some (.val (.lst (ps.map tieD))), none, none, none, none, none, none]) rfl ?_
  refine sds_cons (sd_ret (ed_fd (fd_ft (f := tI) (u := tI) (t := fun l => noRing four (l.map (tiF ps))) (l := ev n) 11 rfl nd (own := [("_law_lot", 11)]) (blkOk_by (by show blkC NHo (defScope (top 31)) _ _ = true; decide +kernel)) (fun _ _ _ _ _ => pg_name (i := 11) nd rfl (by first | exact Or.inl rfl | exact Or.inr rfl)) (by simp) (by omega) (.inl rfl) (nm 3 rfl) ?_ ?_ (q _ (flt_lots n5 _) (house2 n5 3 (fun t => tv (tiF ps t)) fun l => ?_)))))
  · intro l hl s2 H0 C2 cl fp
    refine td_val (ed_call NR (hr.mono (j := 1) (by decide)) hG (ad_cons (ed_fd (fd_mp (f := D.int) (u := fun t => tieD (tiF ps t)) (l := l) 12 rfl nd (own := [("_law_thing", 12)]) (blkOk_in (N := NHo) (blkOk_by (by decide +kernel))) (fun _ _ _ _ _ => pg_name (i := 12) nd rfl (Or.inl rfl)) (by simp) (by have := ev_l5 n5 hl; omega) (.inr rfl) (nm 11 rfl) ?_ (ad_cons (ed_int (ad_nil ⟨l.map (tiF ps), by rw [List.map_map]; rfl, ?_, by rw [List.length_map]; have := ev_l5 n5 hl; omega, kB rfl⟩)))))))
    · intro x hx s3 H3 C3 cl3 fp3
      obtain ⟨x0, rfl, hxn⟩ := ev_in n5 hl hx
      exact ed_ix (nm 10 (nm 12 ⟨_, (x0 : Int), _, .inl rfl, rfl, pat x0 hxn, rfl⟩))
    · intro p hp
      obtain ⟨x, _, rfl⟩ := List.mem_map.mp hp
      exact pf x
  · intro l hl _ s2 H0 C2 cl fp
    exact nm 11 rfl
  · rw [List.mem_filter, ring_free (tiF ps) pf l]
theorem ok_hs {f : Addr} {fd : FuncData} (F : FunS K "_law_house" "_law_house" (top 31) f fd) (T : Txt K mg) (DR : Df P w K mg base "_law_draw" 1 2 spDraw) (PI : Df P w K mg base "_law_pick" 2 2 spPick) (AL : Df P w K mg base "_law_all" 2 1 spAll) (FR : Df P w K mg base "_law_are_free" 5 1 spFree) (NR : Df P w K mg base "_law_no_ring" 1 2 spNR) : GnOk P w K mg base 6 f fd ["_law_pot_here", "_law_many"] (lift K spHs) := by
  refine gn_dl F sc_hs (fun as Q h => by obtain ⟨_, rfl, _⟩ := h; rfl) (fun cdv A outer s H hr hG W as Q h => ?_)
  obtain ⟨n, rfl, n5, q⟩ := h
  have nd := sc_hs.nd
  refine sds_cons (sd_par 2 3 rfl nd rfl rfl (by decide) rfl rfl (ad_cons (ed_call DR (hr.mono (j := 1) (by decide)) hG (ad_pot 0 rfl rfl (ad_cons (ed_int (ad_nil ⟨4, rfl, by decide, by decide, fun d hd => ad_cons (ed_call AL (hr.mono (j := 2) (by decide)) hG (ad_cons (nm 1 (ad_nil ⟨n, rfl, n5, ad_nil ⟨.int (d : Int), .lst ((ev n).map tI), rfl, ?_⟩⟩))))⟩)))))))
  refine sds_cons (sd_if (td_cmp (nm 2 (ed_int (od_eqi (kB ?_))))))
  cases decide ((d : Int) = 0) with
  | true => exact hs0 n5 T DR (hr.mono (j := 1) (by decide)) hG q (d : Int) _ rfl
  | false =>
    refine sds_nil (sds_cons (sd_if (td_cmp (nm 2 (ed_int (od_eqi (kB ?_)))))))
    cases decide ((d : Int) = 1) with
    | true => exact hs1 n5 T DR (hr.mono (j := 1) (by decide)) hG q (d : Int) _ rfl
    | false =>
      refine sds_nil (sds_cons (sd_if (td_cmp (nm 2 (ed_int (od_eqi (kB ?_)))))))
      cases decide ((d : Int) = 2) with
      | true => exact hs2 n5 T DR PI FR hr hG q (d : Int) _ rfl
      | false => exact sds_nil (hs3 n5 T PI NR hr hG q (d : Int) _ rfl)
end
end K61

set_option Elab.async false
set_option linter.all false
set_option maxRecDepth 100000
set_option maxHeartbeats 8000000
/-! k61: the law -/
namespace K61
open PySem L2 DL M61
section
variable {X : Cx} {B : Hp} {S : En} {pos : Pos}
theorem cd_min {i j : Int} {Q : D → Prop} (hc : X.calm = true) (q : Q (.int (if j < i then j else i))) : CD X (.builtin "min") [.val (.int i), .val (.int j)] Q := cd_of (call_min2 hc) fun vs W H ok ha R c => by
  obtain ⟨v, u, rfl, h, h'⟩ := two_args ha
  cases h; cases h'
  exact ⟨i, j, rfl, c.now ok (.int _) q⟩
/-- [elt for g in a list that is drawn] -/
theorem fd_lcG {elt tg iter : Expr} {scope : Scope} {own : List (Str × Nat)} {g : TG} {G : List D → Prop} {Q : List D → Prop} (J : List D → Nat → List D → Prop) (S' : D → En) (hc : X.calm = true) (hN : X.N.Nodup) (ok : BlkOk X.N X.env.scope scope own)
    (hg : ∀ (s : Shared) (H : Hp) (C : Addr) (cl : List (Str × Addr)) (fp : List Addr), PG (X.blk s H scope (compEnvC scope cl C X.env) fp) tg g)
    (h : ED X B S iter fun d => ∃ l, d = .lst l ∧ l.length ≤ 50000 ∧ G l ∧ J l 0 []) (hp : ∀ l, G l → ∀ d ∈ l, Pat X.K g (own.map (·.2)) S d (S' d))
    (he : ∀ l, G l → ∀ (i : Nat) d acc, l[i]? = some d → acc.length = i → J l i acc → ∀ (s : Shared) (H0 : Hp) (C : Addr) (cl : List (Str × Addr)) (fp : List Addr), ED (X.blk s H0 scope (compEnvC scope cl C X.env) fp) B (S' d) elt fun y => J l (i + 1) (acc ++ [y]))
    (hd : ∀ l, G l → ∀ acc, acc.length = l.length → J l l.length acc → Q acc) (hs : ∀ x, foldedSetIterable iter X.env x = pure x := by intro _; rfl) : FD X B S (.ListComp elt [⟨tg, iter, [], 0⟩] scope pos) Q := fun σ W H r R k => by
  refine PE.w (pe_lc (te := WEb X scope elt) hc hN (pi_list we_pe) ok hg (fun _ _ _ _ _ => pts_nil) web_pe hs) ?_
  refine h σ W H r _ fun d v W1 H1 s1 ok1 n1 q1 => ?_
  obtain ⟨l, rfl, hz, gl, j0⟩ := q1
  cases n1 with
  | @lst _ a xs ha m =>
    refine ⟨a, rfl, ⟨xs, SqL.of (ok1.ex _ _ ha)⟩, fun p hp0 => ?_⟩
    have r1 := r.step s1 ok1
    refine lc_list (K := X.K) (a := a) (xs := xs) (fun i H' => ∃ acc W', Mid X.K (gOf X) W1 H1 p acc W' H' ∧ acc.length = i ∧ J l i acc) ⟨[], W1, ⟨Stp.own hp0, ok1.own hp0, ok1.notP hp0, ok1.free hp0, [], upd_same, .nil⟩, rfl, j0⟩
      (fun i H' _ ⟨acc, W', mm, _⟩ => SqL.of (mm.ok.ex _ _ (mm.st.I _ _ ha))) ?_ ?_
    · rintro i x H' hx ⟨acc, W', mm, hl, j⟩
      obtain ⟨d, hd', nd⟩ := m.get hx
      have r2 := r1.step mm.st mm.ok
      refine hp l gl d (List.mem_of_getElem? hd') (gOf X) B σ W' H' x r2 (nd.mono mm.st.I) _ fun σ2 e2 r3 => ⟨e2, ?_⟩
      show WEb X scope elt σ2 H' _
      intro s H0 C cl fp
      refine he l gl i d acc hd' hl j s H0 C cl fp σ2 W' H' r3 _ fun y v W2 H2 s2 ok2 n2 q2 => ?_
      have lt : i < l.length := (List.getElem?_eq_some_iff.mp hd').1
      obtain ⟨xs', e1, e3, m3⟩ := (mm.step s2 ok2).more hp0 n2 (by omega)
      exact ⟨xs', e1, e3, _, W2, m3, by simp [hl], q2⟩
    · rintro H' ⟨acc, W', mm, hl, j⟩
      obtain ⟨ys, hH, ds⟩ := mm.h
      rw [← m.length] at hl j
      exact k acc p ys W' H' (s1.trans ok1 mm.st) mm.ok (s1.free ok1 hp0) mm.n mm.i hH ds (hd l gl acc hl j)
end
section
variable {P : Program} {w : World} {K : PySem.W.Frag} {mg : Str → Option Value} {base : Heap}
abbrev NRi : List Str := ["_law_pot_here", "_law_many", "_law_lots", "_law_other", "_law_some"]
theorem sc_right : FnScope NRi ["_law_pot_here"] (defScope (top 35)) := ⟨rfl, rfl, rfl, by decide +kernel, rfl, by decide +kernel, by decide +kernel⟩
abbrev spRight : SpD := fun as Q => as = [.pot] ∧ Q (.bl true)
theorem ok_right {f : Addr} {fd : FuncData} (F : FunS K "_law_right" "_law_right" (top 35) f fd) (T : Txt K mg) (DR : Df P w K mg base "_law_draw" 1 2 spDraw) (PI : Df P w K mg base "_law_pick" 2 2 spPick) (AL : Df P w K mg base "_law_all" 2 1 spAll) (FA : Df P w K mg base "_law_fault" 3 2 spFau) (NE : Df P w K mg base "_law_near" 3 4 spNear)
    (HS : Df P w K mg base "_law_house" 6 2 spHs) (HO : Df P w K mg base "is_house" 6 2 spHou) (JR : Df P w K mg base "_law_judged_right" 7 3 spJr) : GnOk P w K mg base 8 f fd ["_law_pot_here"] (lift K spRight) := by
  refine gn_dl F sc_right (fun as Q h => by obtain ⟨rfl, _⟩ := h; rfl) (fun cdv A outer s H hr hG W as Q h => ?_)
  obtain ⟨rfl, q⟩ := h
  have nd := sc_right.nd
  refine sds_cons (sd_set 1 nd rfl (ed_call DR (hr.mono (j := 1) (by decide)) hG (ad_pot 0 rfl rfl (ad_cons (ed_int (ad_nil ⟨5, rfl, by decide, by decide, fun n hn => ?_⟩))))))
  have n5 : n ≤ 5 := by omega
  refine sds_cons (sd_par 2 3 rfl nd rfl rfl (by decide) rfl rfl (ad_cons (ed_call HS (hr.mono (j := 6) (by decide)) hG (ad_pot 0 rfl rfl (ad_cons (nm 1 (ad_nil ⟨n, rfl, n5, fun ls L fl => ?_⟩)))))))
  refine ad_cons (ed_call HS (hr.mono (j := 6) (by decide)) hG (ad_pot 0 rfl rfl (ad_cons (nm 1 (ad_nil ⟨n, rfl, n5, fun os O _ => ad_nil ⟨_, _, rfl, ?_⟩⟩)))))
  have ne : ls ≠ [] := fun z => by
    have := no_nil n5 fl
    rw [z] at this
    cases this
  refine sds_st (S' := [some .pot, some (.val (.int (n : Int))), some (.val (lsD ls)), some (.val (lsD os)), none]) rfl ?_
  have hx : spHou.match_1 (fun _ => Bool) Res.none (fun _ => true) (fun _ => false) = true := rfl
  refine sds_cons (sd_if (td_of (tw_or (td_not (td_val (ed_call HO (hr.mono (j := 6) (by decide)) hG (ad_cons (nm 1 (ad_cons (nm 2 (ad_nil ⟨n, _, ls, rfl, .inl rfl, L, ?_⟩)))))))))))
  rw [fl]
  refine kB ?_
  show TW _ _ _ _ _
  refine tw_or1 (td_cmp (ed_call FA (hr.mono (j := 3) (by decide)) hG (ad_cons (nm 1 (ad_cons (nm 2 (ad_nil ⟨n, ls, _, rfl, rfl, L, ?_⟩)))))))
  rw [fl]
  refine ed_non (od_notN (kB ?_))
  show SDs _ _ _ _ _ _
  refine sds_nil ?_
  refine sds_cons (sd_if (td_not (td_val (ed_callB T.all (ad_cons (ed_fd (fd_lcG (G := fun l => ∀ d ∈ l, OkL n d) (fun _ _ acc => ∀ y ∈ acc, y = .bl true) (fun d => itE _ [("_law_some", 4)] 4 d) rfl nd (own := [("_law_some", 4)]) (blkOk_by (by show blkC NRi (defScope (top 35)) _ _ = true; decide +kernel)) (fun _ _ _ _ _ => pg_name (i := 4) nd rfl (Or.inl rfl)) ?_ (fun l _ d _ => pat_name 4 (by simp)) ?_ ?_)))))))
  · refine ed_call NE (hr.mono (j := 3) (by decide)) hG (ad_pot 0 rfl rfl (ad_cons (nm 2 (ad_cons (nm 3 (ad_cons (ed_call AL (hr.mono (j := 2) (by decide)) hG (ad_cons (nm 1 (ad_nil ⟨n, rfl, n5, ad_nil ⟨n, ls, os, rfl, L, O, ne, fun xs _ xl xo => ⟨xs, rfl, by omega, xo, fun y hy => by cases hy⟩⟩⟩))))))))))
  · intro l gl i d acc hi _ ha s2 H0 C2 cl fp
    obtain ⟨ks, rfl, KO⟩ := gl d (List.mem_of_getElem? hi)
    refine ed_call JR hr hG (ad_pot 0 rfl rfl (ad_cons (nm 1 (ad_cons (nm 4 (ad_nil ⟨n, ks, rfl, KO, fun z hz => ?_⟩))))))
    rcases List.mem_append.mp hz with m | m
    · exact ha z m
    · exact List.mem_singleton.mp m
  intro l _ acc _ ha
  refine ad_nil (cd_allT rfl ha (kB ?_))
  show SDs _ _ _ _ _ _
  refine sds_nil ?_
  refine sds_cons (sd_ret (ed_call JR hr hG (ad_pot 0 rfl rfl (ad_cons (ed_int (ad_cons (ed_call PI (hr.mono (j := 2) (by decide)) hG (ad_pot 0 rfl rfl (ad_cons (ed_call NE (hr.mono (j := 3) (by decide)) hG (ad_pot 0 rfl rfl ?_)))))))))))
  refine ad_cons (ed_call HS (hr.mono (j := 6) (by decide)) hG (ad_pot 0 rfl rfl (ad_cons (ed_int (ad_nil ⟨5, rfl, by decide, fun ls5 L5 f5 => ?_⟩)))))
  refine ad_cons (ed_call HS (hr.mono (j := 6) (by decide)) hG (ad_pot 0 rfl rfl (ad_cons (ed_int (ad_nil ⟨5, rfl, by decide, fun os5 O5 _ => ?_⟩)))))
  have ne5 : ls5 ≠ [] := fun z => by
    have := no_nil (by decide) f5
    rw [z] at this
    cases this
  refine ad_cons (ed_call AL (hr.mono (j := 2) (by decide)) hG (ad_cons (ed_int (ad_nil ⟨5, rfl, by decide, ad_nil ⟨5, ls5, os5, rfl, L5, O5, ne5, fun xs xn xl xo => ad_nil ⟨xs, rfl, List.length_pos_iff.mpr xn, by omega, fun d hd => ?_⟩⟩⟩))))
  obtain ⟨ks, rfl, KO⟩ := xo d hd
  exact ad_nil ⟨5, ks, rfl, KO, q⟩
abbrev spLaw : SpD := fun as Q => ∃ ns : List Int, as = [.val (.frl ns)] ∧ Q (.bl true)
theorem sc_law : FnScope ["_law_script", "_law_k"] ["_law_script"] (defScope (top 36)) := ⟨rfl, rfl, rfl, by decide +kernel, rfl, by decide +kernel, by decide +kernel⟩
theorem ok_law {f : Addr} {fd : FuncData} (F : FunS K "law" "law" (top 36) f fd) (T : Txt K mg) (Pt : Nf P w K mg base "_law_pot" 1 spPot) (R : Df P w K mg base "_law_right" 8 1 spRight) : GnOk P w K mg base 9 f fd ["_law_script"] (lift K spLaw) := by
  refine gn_dl F sc_law (fun as Q h => by obtain ⟨_, rfl, _⟩ := h; rfl) (fun cdv A outer s H hr hG W as Q h => ?_)
  obtain ⟨ns, rfl, q⟩ := h
  have nd := sc_law.nd
  obtain ⟨n, hn, n2⟩ : ∃ n : Nat, (if (if (ns.length : Int) < 2 then (ns.length : Int) else 2) > 1 then (if (ns.length : Int) < 2 then (ns.length : Int) else 2) else 1) = (n : Int) ∧ n ≤ 2 := by
    refine ⟨(if (if (ns.length : Int) < 2 then (ns.length : Int) else 2) > 1 then (if (ns.length : Int) < 2 then (ns.length : Int) else 2) else 1).toNat, ?_, ?_⟩
    · split <;> split at * <;> omega
    · split <;> split at * <;> omega
  refine sds_cons (sd_ret (ed_callB T.all (ad_cons (ed_fd (fd_relR (n := n) (fun _ y => y = .bl true) 1 (own := [("_law_k", 1)]) rfl nd T.range (blkOk_by (by show blkC ["_law_script", "_law_k"] (defScope (top 36)) _ _ = true; decide +kernel)) (fun _ _ _ _ _ => pg_name (i := 1) nd rfl (Or.inl rfl)) (by omega) ?_ (by simp) ?_ ?_)))))
  · refine ad_cons (ed_callB T.max (ad_cons (ed_int (ad_cons (ed_callB T.min (ad_cons (ed_int (ad_cons (ed_callB T.len (ad_cons (nm 0 (ad_nil (cd_lenF (ad_nil (cd_min rfl (ad_nil (cd_max rfl (ad_nil ?_))))))))))))))))))
    rw [hn]
  · intro i hi s2 H0 C2 cl fp
    exact ed_call R hr hG (ad_newpot (fd_callN Pt (hr.mono (j := 1) (by decide)) hG (ad_cons (nm 0 (ad_cons (nm 1 (ad_nil ⟨ns, i, rfl, by omega, fun a b h => ⟨a, b, rfl, h, ad_nil ⟨rfl, rfl⟩⟩⟩)))))))
  · intro out ho
    refine ad_nil (cd_allT rfl (fun y hy => ?_) q)
    obtain ⟨i, hi, e⟩ := List.getElem_of_mem hy
    obtain ⟨y', e1, p⟩ := ho.2 i (by rw [← ho.1]; exact hi)
    rw [List.getElem?_eq_getElem hi] at e1
    cases e1
    rw [← e]
    exact p
end
end K61

set_option Elab.async false
set_option linter.all false
set_option maxRecDepth 100000
set_option maxHeartbeats 8000000
/-! k61: what the top has written, put together -/
namespace K61
open PySem L2 DL M61 PySem.Spec PyProof.Rows
theorem sw2_rel {α β : Type} {R : α → β → Prop} : ∀ {a : List α} {b : List β}, Paired R a b → Paired R (sw2 a) (sw2 b)
  | _, _, .nil => .nil
  | _, _, .cons h .nil => .cons h .nil
  | _, _, .cons h (.cons k .nil) => .cons k (.cons h .nil)
  | _, _, .cons h (.cons k (.cons j r)) => .cons h (.cons k (.cons j r))
theorem fun_kbr {K : PySem.W.Frag} {x qual : Str} {st : Stmt} {f : Addr} {fd : FuncData} {ps ks : List Str} (F : Fun K x qual st f fd)
    (h : ∀ (kV doc pm : Value) (an : Option Addr) (cdv ct : Value) (us ws : List Value), us.length = 0 → ws.length = ks.length → bindArgs (PySem.W.fnOf x qual (defArgs st) (defBody st) (defScope st) .none kV doc pm an cdv ct) ⟨us, ks.zip ws⟩ = pure (ps.zip (us ++ sw2 ws))) :
    KBn K fd ps 0 ks (fun us ws => us ++ sw2 ws) (fun vs zs => vs ++ sw2 zs) := by
  obtain ⟨oc, od, kV, doc, pm, an, cdv, ct, osl, rfl, lk, hcd⟩ := F.ex
  exact ⟨fun s us ws _ l1 l2 => .of_eq (h kV doc pm an cdv ct us ws l1 l2), fun r1 r2 => r1.append (sw2_rel r2)⟩
theorem law_gives {K : PySem.W.Frag} (H : Hp) (a : Addr) (ns : List Int) (h : SqL K H a (ns.map V.int)) : lift K spLaw [] [.ref a] H fun v _ => v = .bl true :=
  ⟨[.val (.frl ns)], ⟨H, fun _ => False⟩, fun d => d = .bl true, ⟨fun b ⟨_, _, _, z⟩ => absurd z List.not_mem_nil, Ex.refl H, fun _ z => z.elim⟩, .cons (.frl h) .nil, ⟨ns, rfl, rfl⟩, fun d v W' H' _ _ n q => by
    cases n <;> first | rfl | (cases q; done) | (cases q; rfl)⟩
theorem lw_mk {P : Program} {w : World} {K : PySem.W.Frag} {h : Heap} {mg : Str → Option Value} {fa : Addr} (X : K.In h) (G : h.Ns mainGlobals mg) (hfa : mg "law" = some (.ref fa))
    {f_isint f_iscount f_islist f_rising f_rc f_byl f_lf f_hou f_bad f_chk f_wan f_stk f_less f_pot f_draw f_pick f_all f_lbl f_mix f_det f_free f_nr f_hs f_fau f_near f_jr f_right f_law : Addr} {tk1 : Tok}
    (a_isint : PySem.W.nsIn K mainGlobals "is_integer" = some (some (.ref f_isint)))
    (F_isint : ∃ fd, Fun K "is_integer" "is_integer" (top 1) f_isint fd)
    (a_iscount : PySem.W.nsIn K mainGlobals "is_count" = some (some (.ref f_iscount)))
    (F_iscount : ∃ fd, Fun K "is_count" "is_count" (top 2) f_iscount fd)
    (a_islist : PySem.W.nsIn K mainGlobals "is_list" = some (some (.ref f_islist)))
    (F_islist : ∃ fd, Fun K "is_list" "is_list" (top 3) f_islist fd)
    (a_rising : PySem.W.nsIn K mainGlobals "is_rising" = some (some (.ref f_rising)))
    (F_rising : ∃ fd, Fun K "is_rising" "is_rising" (top 4) f_rising fd)
    (a_rc : PySem.W.nsIn K mainGlobals "is_rising_counts" = some (some (.ref f_rc)))
    (F_rc : ∃ fd, Fun K "is_rising_counts" "is_rising_counts" (top 5) f_rc fd)
    (a_byl : PySem.W.nsIn K mainGlobals "by_length" = some (some (.ref f_byl)))
    (F_byl : ∃ fd, Fun K "by_length" "by_length" (top 11) f_byl fd)
    (a_lf : PySem.W.nsIn K mainGlobals "_length_first" = some (some (.ref f_lf)))
    (F_lf : ∃ fd, Fun K "_length_first" "_length_first" (top 12) f_lf fd)
    (a_hou : PySem.W.nsIn K mainGlobals "is_house" = some (some (.ref f_hou)))
    (F_hou : ∃ fd, Fun K "is_house" "is_house" (top 15) f_hou fd)
    (a_bad : PySem.W.nsIn K mainGlobals "bad_lot" = some (some (.ref f_bad)))
    (F_bad : ∃ fd, Fun K "bad_lot" "bad_lot" (top 16) f_bad fd)
    (a_chk : PySem.W.nsIn K mainGlobals "check_lots" = some (some (.ref f_chk)))
    (F_chk : ∃ fd, Fun K "check_lots" "check_lots" (top 17) f_chk fd)
    (a_wan : PySem.W.nsIn K mainGlobals "_wanted" = some (some (.ref f_wan)))
    (F_wan : ∃ fd, Fun K "_wanted" "_wanted" (top 18) f_wan fd)
    (a_stk : PySem.W.nsIn K mainGlobals "_is_stuck" = some (some (.ref f_stk)))
    (F_stk : ∃ fd, Fun K "_is_stuck" "_is_stuck" (top 19) f_stk fd)
    (a_less : PySem.W.nsIn K mainGlobals "_less" = some (some (.ref f_less)))
    (F_less : ∃ fd, Fun K "_less" "_less" (top 20) f_less fd)
    (a_pot : PySem.W.nsIn K mainGlobals "_law_pot" = some (some (.ref f_pot)))
    (F_pot : ∃ fd, Fun K "_law_pot" "_law_pot" (top 22) f_pot fd)
    (a_draw : PySem.W.nsIn K mainGlobals "_law_draw" = some (some (.ref f_draw)))
    (F_draw : ∃ fd, Fun K "_law_draw" "_law_draw" (top 23) f_draw fd)
    (a_pick : PySem.W.nsIn K mainGlobals "_law_pick" = some (some (.ref f_pick)))
    (F_pick : ∃ fd, Fun K "_law_pick" "_law_pick" (top 24) f_pick fd)
    (a_all : PySem.W.nsIn K mainGlobals "_law_all" = some (some (.ref f_all)))
    (F_all : ∃ fd, Fun K "_law_all" "_law_all" (top 25) f_all fd)
    (a_lbl : PySem.W.nsIn K mainGlobals "_law_by_length" = some (some (.ref f_lbl)))
    (F_lbl : ∃ fd, Fun K "_law_by_length" "_law_by_length" (top 26) f_lbl fd)
    (a_mix : PySem.W.nsIn K mainGlobals "_law_mixed" = some (some (.ref f_mix)))
    (F_mix : ∃ fd, Fun K "_law_mixed" "_law_mixed" (top 27) f_mix fd)
    (a_det : PySem.W.nsIn K mainGlobals "_law_det" = some (some (.ref f_det)))
    (F_det : ∃ fd, Fun K "_law_det" "_law_det" (top 28) f_det fd)
    (a_free : PySem.W.nsIn K mainGlobals "_law_are_free" = some (some (.ref f_free)))
    (F_free : ∃ fd, Fun K "_law_are_free" "_law_are_free" (top 29) f_free fd)
    (a_nr : PySem.W.nsIn K mainGlobals "_law_no_ring" = some (some (.ref f_nr)))
    (F_nr : ∃ fd, Fun K "_law_no_ring" "_law_no_ring" (top 30) f_nr fd)
    (a_hs : PySem.W.nsIn K mainGlobals "_law_house" = some (some (.ref f_hs)))
    (F_hs : ∃ fd, Fun K "_law_house" "_law_house" (top 31) f_hs fd)
    (a_fau : PySem.W.nsIn K mainGlobals "_law_fault" = some (some (.ref f_fau)))
    (F_fau : ∃ fd, Fun K "_law_fault" "_law_fault" (top 32) f_fau fd)
    (a_near : PySem.W.nsIn K mainGlobals "_law_near" = some (some (.ref f_near)))
    (F_near : ∃ fd, Fun K "_law_near" "_law_near" (top 33) f_near fd)
    (a_jr : PySem.W.nsIn K mainGlobals "_law_judged_right" = some (some (.ref f_jr)))
    (F_jr : ∃ fd, Fun K "_law_judged_right" "_law_judged_right" (top 34) f_jr fd)
    (a_right : PySem.W.nsIn K mainGlobals "_law_right" = some (some (.ref f_right)))
    (F_right : ∃ fd, Fun K "_law_right" "_law_right" (top 35) f_right fd)
    (a_law : PySem.W.nsIn K mainGlobals "law" = some (some (.ref f_law)))
    (F_law : ∃ fd, Fun K "law" "law" (top 36) f_law fd)
    (z_mt : PySem.W.nsIn K mainGlobals "MOST_THINGS" = some (some (.int 7 tk1)))
    (z_isinstance : PySem.W.nsIn K mainGlobals "isinstance" = some none)
    (z_int : PySem.W.nsIn K mainGlobals "int" = some none)
    (z_bool : PySem.W.nsIn K mainGlobals "bool" = some none)
    (z_list : PySem.W.nsIn K mainGlobals "list" = some none)
    (z_tuple : PySem.W.nsIn K mainGlobals "tuple" = some none)
    (z_abs : PySem.W.nsIn K mainGlobals "abs" = some none)
    (z_len : PySem.W.nsIn K mainGlobals "len" = some none)
    (z_max : PySem.W.nsIn K mainGlobals "max" = some none)
    (z_min : PySem.W.nsIn K mainGlobals "min" = some none)
    (z_divmod : PySem.W.nsIn K mainGlobals "divmod" = some none)
    (z_repr : PySem.W.nsIn K mainGlobals "repr" = some none)
    (z_range : PySem.W.nsIn K mainGlobals "range" = some none)
    (z_all : PySem.W.nsIn K mainGlobals "all" = some none)
    (z_any : PySem.W.nsIn K mainGlobals "any" = some none)
    (z_zip : PySem.W.nsIn K mainGlobals "zip" = some none)
    (z_enumerate : PySem.W.nsIn K mainGlobals "enumerate" = some none)
    (z_sorted : PySem.W.nsIn K mainGlobals "sorted" = some none)
    (z_sum : PySem.W.nsIn K mainGlobals "sum" = some none)
    : ∃ fd : FuncData, (∀ (s : Shared) (v : Value), BindsTo s fd ⟨[v], []⟩ [("_law_script", v)]) ∧ ∀ base : Heap, K.In base → base.Ns mainGlobals mg → GnOk P w K mg base 9 fa fd ["_law_script"] (lift K spLaw) := by
  have e := hfa.symm.trans (PySem.W.mg_of X G a_law)
  cases e
  obtain ⟨d_isint, F_isint⟩ := F_isint
  obtain ⟨d_iscount, F_iscount⟩ := F_iscount
  obtain ⟨d_islist, F_islist⟩ := F_islist
  obtain ⟨d_rising, F_rising⟩ := F_rising
  obtain ⟨d_rc, F_rc⟩ := F_rc
  obtain ⟨d_byl, F_byl⟩ := F_byl
  obtain ⟨d_lf, F_lf⟩ := F_lf
  obtain ⟨d_hou, F_hou⟩ := F_hou
  obtain ⟨d_bad, F_bad⟩ := F_bad
  obtain ⟨d_chk, F_chk⟩ := F_chk
  obtain ⟨d_wan, F_wan⟩ := F_wan
  obtain ⟨d_stk, F_stk⟩ := F_stk
  obtain ⟨d_less, F_less⟩ := F_less
  obtain ⟨d_pot, F_pot⟩ := F_pot
  obtain ⟨d_draw, F_draw⟩ := F_draw
  obtain ⟨d_pick, F_pick⟩ := F_pick
  obtain ⟨d_all, F_all⟩ := F_all
  obtain ⟨d_lbl, F_lbl⟩ := F_lbl
  obtain ⟨d_mix, F_mix⟩ := F_mix
  obtain ⟨d_det, F_det⟩ := F_det
  obtain ⟨d_free, F_free⟩ := F_free
  obtain ⟨d_nr, F_nr⟩ := F_nr
  obtain ⟨d_hs, F_hs⟩ := F_hs
  obtain ⟨d_fau, F_fau⟩ := F_fau
  obtain ⟨d_near, F_near⟩ := F_near
  obtain ⟨d_jr, F_jr⟩ := F_jr
  obtain ⟨d_right, F_right⟩ := F_right
  obtain ⟨d_law, F_law⟩ := F_law
  have b_isint := F_isint.binds (ps := ["value"]) fun _ _ _ _ _ _ us hl => match us, hl with | [_], _ => rfl
  have b_iscount := F_iscount.binds (ps := ["value"]) fun _ _ _ _ _ _ us hl => match us, hl with | [_], _ => rfl
  have b_islist := F_islist.binds (ps := ["value"]) fun _ _ _ _ _ _ us hl => match us, hl with | [_], _ => rfl
  have b_rising := F_rising.binds (ps := ["parts"]) fun _ _ _ _ _ _ us hl => match us, hl with | [_], _ => rfl
  have b_rc := F_rc.binds (ps := ["value", "limit"]) fun _ _ _ _ _ _ us hl => match us, hl with | [_, _], _ => rfl
  have b_byl := F_byl.binds (ps := ["lots"]) fun _ _ _ _ _ _ us hl => match us, hl with | [_], _ => rfl
  have b_lf := F_lf.binds (ps := ["lot"]) fun _ _ _ _ _ _ us hl => match us, hl with | [_], _ => rfl
  have b_hou := F_hou.binds (ps := ["many", "lots"]) fun _ _ _ _ _ _ us hl => match us, hl with | [_, _], _ => rfl
  have b_bad := F_bad.binds (ps := ["many", "lots"]) fun _ _ _ _ _ _ us hl => match us, hl with | [_, _], _ => rfl
  have b_chk := F_chk.binds (ps := ["many", "lots"]) fun _ _ _ _ _ _ us hl => match us, hl with | [_, _], _ => rfl
  have b_wan := F_wan.binds (ps := ["lots"]) fun _ _ _ _ _ _ us hl => match us, hl with | [_], _ => rfl
  have b_stk := F_stk.binds (ps := ["held", "lot", "other"]) fun _ _ _ _ _ _ us hl => match us, hl with | [_, _, _], _ => rfl
  have b_less := F_less.binds (ps := ["lot", "thing"]) fun _ _ _ _ _ _ us hl => match us, hl with | [_, _], _ => rfl
  have b_pot := F_pot.binds (ps := ["_law_script", "_law_k"]) fun _ _ _ _ _ _ us hl => match us, hl with | [_, _], _ => rfl
  have b_draw := F_draw.binds (ps := ["_law_pot_here", "_law_many"]) fun _ _ _ _ _ _ us hl => match us, hl with | [_, _], _ => rfl
  have b_pick := F_pick.binds (ps := ["_law_pot_here", "_law_some"]) fun _ _ _ _ _ _ us hl => match us, hl with | [_, _], _ => rfl
  have b_all := F_all.binds (ps := ["_law_many"]) fun _ _ _ _ _ _ us hl => match us, hl with | [_], _ => rfl
  have b_lbl := F_lbl.binds (ps := ["_law_lots"]) fun _ _ _ _ _ _ us hl => match us, hl with | [_], _ => rfl
  have b_mix := F_mix.binds (ps := ["_law_pot_here", "_law_some"]) fun _ _ _ _ _ _ us hl => match us, hl with | [_, _], _ => rfl
  have b_det := F_det.binds (ps := ["_law_rows"]) fun _ _ _ _ _ _ us hl => match us, hl with | [_], _ => rfl
  have b_free := F_free.binds (ps := ["_law_rows"]) fun _ _ _ _ _ _ us hl => match us, hl with | [_], _ => rfl
  have b_nr := F_nr.binds (ps := ["_law_ties", "_law_places"]) fun _ _ _ _ _ _ us hl => match us, hl with | [_, _], _ => rfl
  have b_hs := F_hs.binds (ps := ["_law_pot_here", "_law_many"]) fun _ _ _ _ _ _ us hl => match us, hl with | [_, _], _ => rfl
  have b_fau := F_fau.binds (ps := ["_law_many", "_law_lots"]) fun _ _ _ _ _ _ us hl => match us, hl with | [_, _], _ => rfl
  have b_near := F_near.binds (ps := ["_law_pot_here", "_law_lots", "_law_other", "_law_every"]) fun _ _ _ _ _ _ us hl => match us, hl with | [_, _, _, _], _ => rfl
  have b_jr := F_jr.binds (ps := ["_law_pot_here", "_law_many", "_law_lots"]) fun _ _ _ _ _ _ us hl => match us, hl with | [_, _, _], _ => rfl
  have b_right := F_right.binds (ps := ["_law_pot_here"]) fun _ _ _ _ _ _ us hl => match us, hl with | [_], _ => rfl
  have b_law := F_law.binds (ps := ["_law_script"]) fun _ _ _ _ _ _ us hl => match us, hl with | [_], _ => rfl
  have bK_bad := fun_kbr (ps := ["many", "lots"]) (ks := ["lots", "many"]) F_bad fun _ _ _ _ _ _ us ws l1 l2 => match us, ws, l1, l2 with | [], [_, _], _, _ => rfl
  have bK_hou := fun_kbr (ps := ["many", "lots"]) (ks := ["lots", "many"]) F_hou fun _ _ _ _ _ _ us ws l1 l2 => match us, ws, l1, l2 with | [], [_, _], _, _ => rfl
  have T : Txt K mg := {
    isi := PySem.W.mg_none_of X G z_isinstance, int := PySem.W.mg_none_of X G z_int, bool := PySem.W.mg_none_of X G z_bool, list := PySem.W.mg_none_of X G z_list, tuple := PySem.W.mg_none_of X G z_tuple, abs := PySem.W.mg_none_of X G z_abs, len := PySem.W.mg_none_of X G z_len, max := PySem.W.mg_none_of X G z_max, min := PySem.W.mg_none_of X G z_min, divmod := PySem.W.mg_none_of X G z_divmod, repr := PySem.W.mg_none_of X G z_repr, range := PySem.W.mg_none_of X G z_range, all := PySem.W.mg_none_of X G z_all, any := PySem.W.mg_none_of X G z_any, zip := PySem.W.mg_none_of X G z_zip, enum := PySem.W.mg_none_of X G z_enumerate, sorted := PySem.W.mg_none_of X G z_sorted, sum := PySem.W.mg_none_of X G z_sum
    k7 := kit_ty (by decide +kernel)
    l1 := kitAny_cons (b := true) (same (beq_self_eq_true _)) (fun z => Bool.noConfusion z) (fun _ => rfl)
    l2 := kitAny_cons (b := false) (kit_ty (by decide +kernel)) (fun _ => kitAny_cons (b := true) (same (beq_self_eq_true _)) (fun z => Bool.noConfusion z) (fun _ => rfl)) (fun z => Bool.noConfusion z)
    most := ⟨_, PySem.W.mg_of X G z_mt⟩ }
  have bL : ∀ (s : Shared) (v : Value), BindsTo s d_law ⟨[v], []⟩ [("_law_script", v)] := by
    obtain ⟨oc, od, kV, doc, pm, an, cdv, ct, osl, rfl, _⟩ := F_law.ex
    exact fun s v => .of_eq rfl
  refine ⟨d_law, bL, fun base _ _ => ?_⟩
  have D_isint : Df P w K mg base "is_integer" 1 1 spInt := df_of (fun_s F_isint) (ok_isint (fun_s F_isint) T) (PySem.W.mg_of X G a_isint) b_isint rfl
  have D_iscount : Df P w K mg base "is_count" 2 1 spCnt := df_of (fun_s F_iscount) (ok_iscount (fun_s F_iscount) D_isint) (PySem.W.mg_of X G a_iscount) b_iscount rfl
  have D_islist : Df P w K mg base "is_list" 1 1 spL := df_of (fun_s F_islist) (ok_islist (fun_s F_islist) T) (PySem.W.mg_of X G a_islist) b_islist rfl
  have D_rising : Df P w K mg base "is_rising" 1 1 spRis := df_of (fun_s F_rising) (ok_rising (fun_s F_rising) T) (PySem.W.mg_of X G a_rising) b_rising rfl
  have D_rc : Df P w K mg base "is_rising_counts" 3 2 spRC := df_of (fun_s F_rc) (ok_rc (fun_s F_rc) T D_islist D_iscount D_rising) (PySem.W.mg_of X G a_rc) b_rc rfl
  have D_lf : Df P w K mg base "_length_first" 1 1 spLF := df_of (fun_s F_lf) (ok_lf (fun_s F_lf) T) (PySem.W.mg_of X G a_lf) b_lf rfl
  have D_byl : Df P w K mg base "by_length" 4 1 spByL := df_of (fun_s F_byl) (ok_byl (fun_s F_byl) T D_lf) (PySem.W.mg_of X G a_byl) b_byl rfl
  have D_less : Df P w K mg base "_less" 1 2 spLess := df_of (fun_s F_less) (ok_less (fun_s F_less) T) (PySem.W.mg_of X G a_less) b_less rfl
  have D_wan : Df P w K mg base "_wanted" 2 1 spWan := df_of (fun_s F_wan) (ok_wan (fun_s F_wan) D_less) (PySem.W.mg_of X G a_wan) b_wan rfl
  have D_stk : Df P w K mg base "_is_stuck" 1 3 spStk := df_of (fun_s F_stk) (ok_stk (fun_s F_stk) T) (PySem.W.mg_of X G a_stk) b_stk rfl
  have D_chk : Df P w K mg base "check_lots" 4 2 spChk := df_of (fun_s F_chk) (ok_chk (fun_s F_chk) T D_iscount D_islist D_rc) (PySem.W.mg_of X G a_chk) b_chk rfl
  have D_bad : Df P w K mg base "bad_lot" 5 2 spBad := df_of (fun_s F_bad) (ok_bad (fun_s F_bad) T D_chk D_wan D_byl D_stk) (PySem.W.mg_of X G a_bad) b_bad rfl
  have D_hou : Df P w K mg base "is_house" 6 2 spHou := df_of (fun_s F_hou) (ok_hou (fun_s F_hou) D_bad) (PySem.W.mg_of X G a_hou) b_hou rfl
  have K_bad : DfK P w K mg base "bad_lot" 5 ["lots", "many"] sw2 spBad := ⟨f_bad, d_bad, _, _, sw2, ok_bad (fun_s F_bad) T D_chk D_wan D_byl D_stk, PySem.W.mg_of X G a_bad, F_bad.kp, bK_bad, fun _ _ _ h => sw2_rel h⟩
  have K_hou : DfK P w K mg base "is_house" 6 ["lots", "many"] sw2 spHou := ⟨f_hou, d_hou, _, _, sw2, ok_hou (fun_s F_hou) D_bad, PySem.W.mg_of X G a_hou, F_hou.kp, bK_hou, fun _ _ _ h => sw2_rel h⟩
  have D_draw : Df P w K mg base "_law_draw" 1 2 spDraw := df_of (fun_s F_draw) (ok_draw (fun_s F_draw) T) (PySem.W.mg_of X G a_draw) b_draw rfl
  have D_pick : Df P w K mg base "_law_pick" 2 2 spPick := df_of (fun_s F_pick) (ok_pick (fun_s F_pick) T D_draw) (PySem.W.mg_of X G a_pick) b_pick rfl
  have D_lbl : Df P w K mg base "_law_by_length" 1 1 spByL := df_of (fun_s F_lbl) (ok_lbl (fun_s F_lbl) T) (PySem.W.mg_of X G a_lbl) b_lbl rfl
  have D_all : Df P w K mg base "_law_all" 2 1 spAll := df_of (fun_s F_all) (ok_all (fun_s F_all) T D_lbl) (PySem.W.mg_of X G a_all) b_all rfl
  have D_mix : Df P w K mg base "_law_mixed" 2 2 spMix := df_of (fun_s F_mix) (ok_mix (fun_s F_mix) T D_draw) (PySem.W.mg_of X G a_mix) b_mix rfl
  have Dt : ∀ k, Df P w K mg base "_law_det" (k + 1) 1 (spDet k) := by
    intro k
    induction k with
    | zero => exact df_of (fun_s F_det) (ok_det 0 (fun_s F_det) T fun j h => by omega) (PySem.W.mg_of X G a_det) b_det rfl
    | succ k ih => exact df_of (fun_s F_det) (ok_det (k + 1) (fun_s F_det) T fun j h => by have e : k = j := (by omega); subst e; exact ih) (PySem.W.mg_of X G a_det) b_det rfl
  have D_free : Df P w K mg base "_law_are_free" 5 1 spFree := df_of (fun_s F_free) (ok_free (fun_s F_free) T fun k _ => Dt k) (PySem.W.mg_of X G a_free) b_free rfl
  have D_nr : Df P w K mg base "_law_no_ring" 1 2 spNR := df_of (fun_s F_nr) (ok_nr (fun_s F_nr) T) (PySem.W.mg_of X G a_nr) b_nr rfl
  have D_hs : Df P w K mg base "_law_house" 6 2 spHs := df_of (fun_s F_hs) (ok_hs (fun_s F_hs) T D_draw D_pick D_all D_free D_nr) (PySem.W.mg_of X G a_hs) b_hs rfl
  have D_fau : Df P w K mg base "_law_fault" 3 2 spFau := df_of (fun_s F_fau) (ok_fau (fun_s F_fau) T D_all) (PySem.W.mg_of X G a_fau) b_fau rfl
  have D_near : Df P w K mg base "_law_near" 3 4 spNear := df_of (fun_s F_near) (ok_near (fun_s F_near) T D_draw D_pick) (PySem.W.mg_of X G a_near) b_near rfl
  have D_jr : Df P w K mg base "_law_judged_right" 7 3 spJr := df_of (fun_s F_jr) (ok_jr (fun_s F_jr) T D_draw D_mix D_fau D_bad D_hou K_bad K_hou) (PySem.W.mg_of X G a_jr) b_jr rfl
  have D_right : Df P w K mg base "_law_right" 8 1 spRight := df_of (fun_s F_right) (ok_right (fun_s F_right) T D_draw D_pick D_all D_fau D_near D_hs D_hou D_jr) (PySem.W.mg_of X G a_right) b_right rfl
  have D_pot : Nf P w K mg base "_law_pot" 1 spPot := ⟨f_pot, d_pot, _, ok_pot (fun_s F_pot) T, PySem.W.mg_of X G a_pot, F_pot.kp, b_pot⟩
  exact ok_law (fun_s F_law) T D_pot D_right
end K61

set_option Elab.async false
open PySem PySem.W PyProof.Rows
set_option maxRecDepth 100000 in
set_option maxHeartbeats 0 in
theorem PySem.Challenge.cw_onecrest_k61_whole_lots_judged_holds : PySem.Challenge.rw_onecrest_k61_whole_lots_judged.Holds := by
  w_on; o_law; k_head; (case hw => w_witness2)
  k_fill
  refine DL.walk_gn (l := PySem.Challenge.rw_onecrest_k61_whole_lots_judged) (n := 63) (k := 9) (x := "_law_script") (sp := fun w => DL.lift _ K61.spLaw) rfl (by decide) rfl ⟨rfl, by decide, by decide⟩ (fun w h Y => PySem.W.kIn_of Y) ?F (fun _ H a ns _ hS => K61.law_gives H a ns hS)
  case F =>
    intro w mg fa h KX G hmg
    refine' K61.lw_mk KX G hmg ?a_isint ?F_isint ?a_iscount ?F_iscount ?a_islist ?F_islist ?a_rising ?F_rising ?a_rc ?F_rc ?a_byl ?F_byl ?a_lf ?F_lf ?a_hou ?F_hou ?a_bad ?F_bad ?a_chk ?F_chk ?a_wan ?F_wan ?a_stk ?F_stk ?a_less ?F_less ?a_pot ?F_pot ?a_draw ?F_draw ?a_pick ?F_pick ?a_all ?F_all ?a_lbl ?F_lbl ?a_mix ?F_mix ?a_det ?F_det ?a_free ?F_free ?a_nr ?F_nr ?a_hs ?F_hs ?a_fau ?F_fau ?a_near ?F_near ?a_jr ?F_jr ?a_right ?F_right ?a_law ?F_law ?z_mt ?z_isinstance ?z_int ?z_bool ?z_list ?z_tuple ?z_abs ?z_len ?z_max ?z_min ?z_divmod ?z_repr ?z_range ?z_all ?z_any ?z_zip ?z_enumerate ?z_sorted ?z_sum
    (case a_isint => k_is)
    (case F_isint => (refine' ⟨_, L2.fun_mk ?l ?c ?k⟩; (case l => k_is); (case c => k_is); (case k => k_is)))
    (case a_iscount => k_is)
    (case F_iscount => (refine' ⟨_, L2.fun_mk ?l ?c ?k⟩; (case l => k_is); (case c => k_is); (case k => k_is)))
    (case a_islist => k_is)
    (case F_islist => (refine' ⟨_, L2.fun_mk ?l ?c ?k⟩; (case l => k_is); (case c => k_is); (case k => k_is)))
    (case a_rising => k_is)
    (case F_rising => (refine' ⟨_, L2.fun_mk ?l ?c ?k⟩; (case l => k_is); (case c => k_is); (case k => k_is)))
    (case a_rc => k_is)
    (case F_rc => (refine' ⟨_, L2.fun_mk ?l ?c ?k⟩; (case l => k_is); (case c => k_is); (case k => k_is)))
    (case a_byl => k_is)
    (case F_byl => (refine' ⟨_, L2.fun_mk ?l ?c ?k⟩; (case l => k_is); (case c => k_is); (case k => k_is)))
    (case a_lf => k_is)
    (case F_lf => (refine' ⟨_, L2.fun_mk ?l ?c ?k⟩; (case l => k_is); (case c => k_is); (case k => k_is)))
    (case a_hou => k_is)
    (case F_hou => (refine' ⟨_, L2.fun_mk ?l ?c ?k⟩; (case l => k_is); (case c => k_is); (case k => k_is)))
    (case a_bad => k_is)
    (case F_bad => (refine' ⟨_, L2.fun_mk ?l ?c ?k⟩; (case l => k_is); (case c => k_is); (case k => k_is)))
    (case a_chk => k_is)
    (case F_chk => (refine' ⟨_, L2.fun_mk ?l ?c ?k⟩; (case l => k_is); (case c => k_is); (case k => k_is)))
    (case a_wan => k_is)
    (case F_wan => (refine' ⟨_, L2.fun_mk ?l ?c ?k⟩; (case l => k_is); (case c => k_is); (case k => k_is)))
    (case a_stk => k_is)
    (case F_stk => (refine' ⟨_, L2.fun_mk ?l ?c ?k⟩; (case l => k_is); (case c => k_is); (case k => k_is)))
    (case a_less => k_is)
    (case F_less => (refine' ⟨_, L2.fun_mk ?l ?c ?k⟩; (case l => k_is); (case c => k_is); (case k => k_is)))
    (case a_pot => k_is)
    (case F_pot => (refine' ⟨_, L2.fun_mk ?l ?c ?k⟩; (case l => k_is); (case c => k_is); (case k => k_is)))
    (case a_draw => k_is)
    (case F_draw => (refine' ⟨_, L2.fun_mk ?l ?c ?k⟩; (case l => k_is); (case c => k_is); (case k => k_is)))
    (case a_pick => k_is)
    (case F_pick => (refine' ⟨_, L2.fun_mk ?l ?c ?k⟩; (case l => k_is); (case c => k_is); (case k => k_is)))
    (case a_all => k_is)
    (case F_all => (refine' ⟨_, L2.fun_mk ?l ?c ?k⟩; (case l => k_is); (case c => k_is); (case k => k_is)))
    (case a_lbl => k_is)
    (case F_lbl => (refine' ⟨_, L2.fun_mk ?l ?c ?k⟩; (case l => k_is); (case c => k_is); (case k => k_is)))
    (case a_mix => k_is)
    (case F_mix => (refine' ⟨_, L2.fun_mk ?l ?c ?k⟩; (case l => k_is); (case c => k_is); (case k => k_is)))
    (case a_det => k_is)
    (case F_det => (refine' ⟨_, L2.fun_mk ?l ?c ?k⟩; (case l => k_is); (case c => k_is); (case k => k_is)))
    (case a_free => k_is)
    (case F_free => (refine' ⟨_, L2.fun_mk ?l ?c ?k⟩; (case l => k_is); (case c => k_is); (case k => k_is)))
    (case a_nr => k_is)
    (case F_nr => (refine' ⟨_, L2.fun_mk ?l ?c ?k⟩; (case l => k_is); (case c => k_is); (case k => k_is)))
    (case a_hs => k_is)
    (case F_hs => (refine' ⟨_, L2.fun_mk ?l ?c ?k⟩; (case l => k_is); (case c => k_is); (case k => k_is)))
    (case a_fau => k_is)
    (case F_fau => (refine' ⟨_, L2.fun_mk ?l ?c ?k⟩; (case l => k_is); (case c => k_is); (case k => k_is)))
    (case a_near => k_is)
    (case F_near => (refine' ⟨_, L2.fun_mk ?l ?c ?k⟩; (case l => k_is); (case c => k_is); (case k => k_is)))
    (case a_jr => k_is)
    (case F_jr => (refine' ⟨_, L2.fun_mk ?l ?c ?k⟩; (case l => k_is); (case c => k_is); (case k => k_is)))
    (case a_right => k_is)
    (case F_right => (refine' ⟨_, L2.fun_mk ?l ?c ?k⟩; (case l => k_is); (case c => k_is); (case k => k_is)))
    (case a_law => k_is)
    (case F_law => (refine' ⟨_, L2.fun_mk ?l ?c ?k⟩; (case l => k_is); (case c => k_is); (case k => k_is)))
    (case z_mt => k_is)
    (case z_isinstance => k_is)
    (case z_int => k_is)
    (case z_bool => k_is)
    (case z_list => k_is)
    (case z_tuple => k_is)
    (case z_abs => k_is)
    (case z_len => k_is)
    (case z_max => k_is)
    (case z_min => k_is)
    (case z_divmod => k_is)
    (case z_repr => k_is)
    (case z_range => k_is)
    (case z_all => k_is)
    (case z_any => k_is)
    (case z_zip => k_is)
    (case z_enumerate => k_is)
    (case z_sorted => k_is)
    (case z_sum => k_is)

