import PyProof.Rows.All
import Wide.All
import OpenK.AllK
import Wide.FinOn
import HandS.ForMost
import HandS.Property
import HandS.Defaults
import HandS.ClsMeth
import HandS.Ends
import HandS.IsInst
import HandS.Wide
import HandS.WideBits
import HandS.MakeKw
import HandS.MakeKwOnly
import HandS.FStr
import HandS.RaiseMore
import HandS.Gcd
import KE.KFmtOwn
import PyProof.ReprNest
import PyProof.ReprRoads
import HandS.Zip
import HandS.List
import PyProof.StrOps2
import KE.IntBitsLaws
import PySem.Challenge.RW_onecrest_k31_tables_by_plain_sums
import PyProof.Rows.RegStrFacts
set_option Elab.async false
set_option linter.all false
set_option maxRecDepth 100000
set_option maxHeartbeats 2000000
/-! DL: a layer of data over the heap: what an expression, a statement, a def does, told of data alone (immutable data, lists owned by one name, pots) -/
namespace DL
open PySem L2

/-! ### data -/
inductive D where
  | non | bl (b : Bool) | int (i : Int) | str (s : Str) | ty (n : String) | cls (a : Addr)
  | tup (l : List D) | lst (l : List D) | frl (l : List Int)
  | obj (C : Addr) (fs : List (Str × D))
  | dct

mutual
/-- v is the datum d, in the heap I of what never changes -/
inductive Dn (K : PySem.W.Frag) (I : Hp) : D → V → Prop
  | non : Dn K I .non .non
  | bl (b) : Dn K I (.bl b) (.bl b)
  | int (i) : Dn K I (.int i) (.int i)
  | str (s) : Dn K I (.str s) (.str s)
  | ty (n) : Dn K I (.ty n) (.ty n)
  | cls (a) : Dn K I (.cls a) (.ref a)
  | tup {l a xs} : I a = some (.tup xs) → Dns K I l xs → Dn K I (.tup l) (.ref a)
  | lst {l a xs} : I a = some (.lst xs) → Dns K I l xs → Dn K I (.lst l) (.ref a)
  | frl {l : List Int} {a} : SqL K I a (l.map V.int) → Dn K I (.frl l) (.ref a)
  | obj {C fs a dx vs} : I a = some (.ins C dx vs) → Dnf K I fs vs → Dn K I (.obj C fs) (.ref a)
  | dct {a kvs} : I a = some (.dK kvs) → Dn K I .dct (.ref a)
inductive Dns (K : PySem.W.Frag) (I : Hp) : List D → List V → Prop
  | nil : Dns K I [] []
  | cons {d v l xs} : Dn K I d v → Dns K I l xs → Dns K I (d :: l) (v :: xs)
inductive Dnf (K : PySem.W.Frag) (I : Hp) : List (Str × D) → List (Str × V) → Prop
  | nil : Dnf K I [] []
  | cons {f d v l xs} : Dn K I d v → Dnf K I l xs → Dnf K I ((f, d) :: l) ((f, v) :: xs)
end
def Ex (H H' : Hp) : Prop := ∀ a o, H a = some o → H' a = some o
theorem Ex.refl (H : Hp) : Ex H H := fun _ _ h => h
theorem Ex.trans {H H1 H2 : Hp} (a : Ex H H1) (b : Ex H1 H2) : Ex H H2 := fun x o h => b x o (a x o h)
theorem Ex.new {H : Hp} {p : Addr} {o : HO} (h : H p = none) : Ex H (upd H p o) := fun a u e => by
  rw [upd_ne (ne_of_none e h)]
  exact e
theorem Ex.free {H H' : Hp} (e : Ex H H') {p : Addr} (h : H' p = none) : H p = none := by
  cases h1 : H p with
  | none => rfl
  | some o =>
    rw [e p o h1] at h
    cases h
theorem Ex.l {K : PySem.W.Frag} {H H' : Hp} {a : Addr} {xs : List V} (e : Ex H H') (h : SqL K H a xs) : SqL K H' a xs := by
  rcases h with (h | ⟨o, h⟩) | h
  · exact .inl (.inl (e _ _ h))
  · exact .inl (.inr ⟨o, e _ _ h⟩)
  · exact .inr h
section
variable {K : PySem.W.Frag} {I I' : Hp}
mutual
theorem Dn.mono (e : Ex I I') : ∀ {d : D} {v : V}, Dn K I d v → Dn K I' d v
  | _, _, .non => .non
  | _, _, .bl b => .bl b
  | _, _, .int i => .int i
  | _, _, .str s => .str s
  | _, _, .ty n => .ty n
  | _, _, .cls a => .cls a
  | _, _, .tup h r => .tup (e _ _ h) (Dns.mono e r)
  | _, _, .lst h r => .lst (e _ _ h) (Dns.mono e r)
  | _, _, .frl h => .frl (e.l h)
  | _, _, .obj h r => .obj (e _ _ h) (Dnf.mono e r)
  | _, _, .dct h => .dct (e _ _ h)
theorem Dns.mono (e : Ex I I') : ∀ {l : List D} {xs : List V}, Dns K I l xs → Dns K I' l xs
  | _, _, .nil => .nil
  | _, _, .cons h r => .cons (Dn.mono e h) (Dns.mono e r)
theorem Dnf.mono (e : Ex I I') : ∀ {l : List (Str × D)} {xs : List (Str × V)}, Dnf K I l xs → Dnf K I' l xs
  | _, _, .nil => .nil
  | _, _, .cons h r => .cons (Dn.mono e h) (Dnf.mono e r)
end
theorem Dns.length : ∀ {l : List D} {xs : List V}, Dns K I l xs → l.length = xs.length
  | _, _, .nil => rfl
  | _, _, .cons _ r => congrArg (· + 1) (Dns.length r)
theorem Dns.append : ∀ {l m : List D} {xs ys : List V}, Dns K I l xs → Dns K I m ys → Dns K I (l ++ m) (xs ++ ys)
  | _, _, _, _, .nil, s => s
  | _, _, _, _, .cons h r, s => .cons h (Dns.append r s)
theorem Dns.get : ∀ {l : List D} {xs : List V} {i : Nat} {v : V}, Dns K I l xs → xs[i]? = some v → ∃ d, l[i]? = some d ∧ Dn K I d v
  | _, _, _, _, .nil, e => by simp at e
  | _, _, 0, _, .cons h _, e => by
    simp at e
    subst e
    exact ⟨_, rfl, h⟩
  | _, _, i + 1, _, .cons _ r, e => by
    obtain ⟨d, h1, h2⟩ := Dns.get (i := i) r (by simpa using e)
    exact ⟨d, by simpa using h1, h2⟩
theorem Dns.get' : ∀ {l : List D} {xs : List V} {i : Nat} {d : D}, Dns K I l xs → l[i]? = some d → ∃ v, xs[i]? = some v ∧ Dn K I d v
  | _, _, _, _, .nil, e => by simp at e
  | _, _, 0, _, .cons h _, e => by
    simp at e
    subst e
    exact ⟨_, rfl, h⟩
  | _, _, i + 1, _, .cons _ r, e => by
    obtain ⟨d, h1, h2⟩ := Dns.get' (i := i) r (by simpa using e)
    exact ⟨d, by simpa using h1, h2⟩
theorem Dns.set {d : D} {v : V} (h : Dn K I d v) : ∀ {l : List D} {xs : List V} (i : Nat), Dns K I l xs → Dns K I (l.set i d) (xs.set i v)
  | _, _, _, .nil => .nil
  | _, _, 0, .cons _ r => .cons h r
  | _, _, i + 1, .cons q r => .cons q (Dns.set h i r)
theorem Dns.rep {l : List D} {xs : List V} (h : Dns K I l xs) : ∀ n : Nat, Dns K I (List.replicate n l).flatten (List.replicate n xs).flatten
  | 0 => .nil
  | n + 1 => by
    rw [List.replicate_succ, List.replicate_succ, List.flatten_cons, List.flatten_cons]
    exact h.append (Dns.rep h n)
theorem Dnf.look : ∀ {fs : List (Str × D)} {vs : List (Str × V)} {f : Str} {d : D}, Dnf K I fs vs → fs.lookup f = some d → ∃ v, vs.lookup f = some v ∧ Dn K I d v
  | _, _, _, _, .nil, e => by simp at e
  | _, _, f, d, .cons (f := g) h r, e => by
    by_cases q : f = g
    · subst q
      simp only [List.lookup_cons, beq_self_eq_true] at e ⊢
      cases e
      exact ⟨_, rfl, h⟩
    · have z : (f == g) = false := beq_eq_false_iff_ne.mpr q
      simp only [List.lookup_cons, z] at e ⊢
      exact Dnf.look r e
theorem Dnf.nolook : ∀ {fs : List (Str × D)} {vs : List (Str × V)} {f : Str}, Dnf K I fs vs → fs.lookup f = none → vs.lookup f = none
  | _, _, _, .nil, _ => rfl
  | _, _, f, .cons (f := g) h r, e => by
    by_cases q : f = g
    · subst q
      simp only [List.lookup_cons, beq_self_eq_true] at e
      cases e
    · have z : (f == g) = false := beq_eq_false_iff_ne.mpr q
      simp only [List.lookup_cons, z] at e ⊢
      exact Dnf.nolook r e
end

/-! ### worlds -/
/-- what never changes; which addresses are pots -/
structure Wd where
  I : Hp
  P : Addr → Prop
def PotAt (H : Hp) (a : Addr) : Prop := ∃ x y : Int, H a = some (.lst [.int x, .int y]) ∧ 0 ≤ y ∧ y < 2 ^ 31
def InG (g : List Code) (b : Addr) : Prop := ∃ id rest kw, Code.builtin id ⟨.ref b :: rest, kw⟩ ∈ g
theorem clear_of {g : List Code} {b : Addr} (h : ¬ InG g b) : Clear g b := fun id v rest kw hm e => h ⟨id, rest, kw, e ▸ hm⟩
/-- the guards that stand around: what is being written as a text -/
def gOf (X : Cx) : List Code := X.A.guards.getD []
structure Ok (g : List Code) (W : Wd) (H : Hp) : Prop where
  gd : ∀ b, InG g b → W.I b = none ∧ H b ≠ none
  ex : Ex W.I H
  pot : ∀ a, W.P a → W.I a = none ∧ PotAt H a
structure Stp (W : Wd) (H : Hp) (W' : Wd) (H' : Hp) : Prop where
  I : Ex W.I W'.I
  P : ∀ a, W.P a → W'.P a
  keep : ∀ b o, H b = some o → ¬ W.P b → H' b = some o
  old : ∀ b o, H b = some o → W.I b = none → W'.I b = none
  oldP : ∀ b o, H b = some o → W'.P b → W.P b
section
variable {g : List Code} {W W1 W2 : Wd} {H H1 H2 : Hp}
theorem Stp.refl : Stp W H W H := ⟨Ex.refl _, fun _ h => h, fun _ _ h _ => h, fun _ _ _ h => h, fun _ _ _ h => h⟩
theorem Stp.some (a : Stp W H W1 H1) (ok : Ok g W1 H1) {b : Addr} {o : HO} (h : H b = .some o) : ∃ o', H1 b = .some o' := by
  by_cases q : W.P b
  · obtain ⟨x, y, e, _⟩ := (ok.pot b (a.P b q)).2
    exact ⟨_, e⟩
  · exact ⟨o, a.keep b o h q⟩
theorem Stp.trans (a : Stp W H W1 H1) (ok : Ok g W1 H1) (b : Stp W1 H1 W2 H2) : Stp W H W2 H2 where
  I := a.I.trans b.I
  P := fun x h => b.P x (a.P x h)
  keep := fun x o h n => b.keep x o (a.keep x o h n) fun z => n (a.oldP x o h z)
  old := fun x o h n => by
    obtain ⟨o', h'⟩ := a.some ok h
    exact b.old x o' h' (a.old x o h n)
  oldP := fun x o h p => by
    obtain ⟨o', h'⟩ := a.some ok h
    exact a.oldP x o h (b.oldP x o' h' p)
theorem Stp.free (a : Stp W H W1 H1) (ok : Ok g W1 H1) {p : Addr} (h : H1 p = none) : H p = none := by
  cases e : H p with
  | none => rfl
  | some o =>
    obtain ⟨o', e'⟩ := a.some ok e
    rw [h] at e'
    cases e'
theorem Ok.free (ok : Ok g W H) {p : Addr} (h : H p = none) : W.I p = none := ok.ex.free h
theorem Ok.notP (ok : Ok g W H) {p : Addr} (h : H p = none) : ¬ W.P p := fun z => by
  obtain ⟨x, y, e, _⟩ := (ok.pot p z).2
  rw [h] at e
  cases e
/-- something new that never changes -/
abbrev Wd.new (W : Wd) (p : Addr) (o : HO) : Wd := ⟨upd W.I p o, W.P⟩
theorem Ok.new {p : Addr} {o : HO} (ok : Ok g W H) (h : H p = none) : Ok g (W.new p o) (upd H p o) where
  gd := fun b hb => by
    obtain ⟨n, m⟩ := ok.gd b hb
    have ne : b ≠ p := fun z => m (z ▸ h)
    refine ⟨?_, by rw [upd_ne ne]; exact m⟩
    show upd W.I p o b = none
    rw [upd_ne ne]
    exact n
  ex := fun a u e => by
    have e' : upd W.I p o a = some u := e
    by_cases q : a = p
    · subst q
      rw [upd_same] at e' ⊢
      exact e'
    · rw [upd_ne q] at e' ⊢
      exact ok.ex a u e'
  pot := fun a pa => by
    have q : a ≠ p := fun z => ok.notP h (z ▸ pa)
    obtain ⟨n, x, y, e⟩ := ok.pot a pa
    refine ⟨?_, x, y, ?_⟩
    · show upd W.I p o a = none
      rw [upd_ne q]
      exact n
    · rw [upd_ne q]
      exact e
theorem Stp.new {p : Addr} {o : HO} (ok : Ok g W H) (h : H p = none) : Stp W H (W.new p o) (upd H p o) where
  I := Ex.new (ok.free h)
  P := fun _ z => z
  keep := fun b u e _ => Ex.new h b u e
  old := fun b u e n => by
    show upd W.I p o b = none
    rw [upd_ne (ne_of_none e h)]
    exact n
  oldP := fun _ _ _ z => z
/-- a new object that is not (yet) part of what never changes -/
theorem Ok.own {p : Addr} {o : HO} (ok : Ok g W H) (h : H p = none) : Ok g W (upd H p o) where
  gd := fun b hb => by
    obtain ⟨n, m⟩ := ok.gd b hb
    have ne : b ≠ p := fun z => m (z ▸ h)
    exact ⟨n, by rw [upd_ne ne]; exact m⟩
  ex := ok.ex.trans (Ex.new h)
  pot := fun a pa => by
    obtain ⟨n, x, y, e⟩ := ok.pot a pa
    exact ⟨n, x, y, Ex.new h _ _ e.1, e.2⟩
theorem Stp.own {p : Addr} {o : HO} (h : H p = none) : Stp W H W (upd H p o) :=
  ⟨Ex.refl _, fun _ z => z, fun b u e _ => Ex.new h b u e, fun _ _ _ n => n, fun _ _ _ z => z⟩
end

/-! ### slots -/
inductive Sl where
  | val (d : D) | own (l : List D) | pot | inst (C p dx : Addr) (fs : List (Str × D))
abbrev En := List (Option Sl)
section
variable (K : PySem.W.Frag)
def SlOk (B : Hp) (W : Wd) (H : Hp) : Sl → V → Prop
  | .val d, v => Dn K W.I d v
  | .own l, v => ∃ p xs, v = .ref p ∧ B p = none ∧ ¬ W.P p ∧ W.I p = none ∧ H p = some (.lst xs) ∧ Dns K W.I l xs
  | .pot, v => ∃ p, v = .ref p ∧ W.P p
  | .inst C p dx fs, v => ∃ vs, v = .ref p ∧ B p = none ∧ B dx = none ∧ dx ≠ p ∧ ¬ W.P p ∧ ¬ W.P dx ∧ W.I p = none ∧ W.I dx = none ∧ H p = some (.ins C dx vs) ∧ H dx = some (.own p) ∧ Dnf K W.I fs vs
structure Rep (g : List Code) (B : Hp) (S : En) (σ : L2.St) (W : Wd) (H : Hp) : Prop where
  ok : Ok g W H
  gb : ∀ b, InG g b → B b ≠ none
  len : S.length = σ.length
  sl : ∀ (i : Nat) (s : Sl), S[i]? = some (some s) → ∃ v, σ[i]? = some (some v) ∧ SlOk K B W H s v
  dist : ∀ (i j : Nat) (l m : List D) (p : Addr), i ≠ j → S[i]? = some (some (.own l)) → S[j]? = some (some (.own m)) → σ[i]? = some (some (.ref p)) → σ[j]? ≠ some (some (.ref p))
end
section
variable {K : PySem.W.Frag} {g : List Code} {B : Hp} {S : En} {σ : L2.St} {W W1 : Wd} {H H1 : Hp}
theorem SlOk.step {s : Sl} {v : V} (h : SlOk K B W H s v) (a : Stp W H W1 H1) : SlOk K B W1 H1 s v := by
  cases s with
  | val d => exact Dn.mono a.I h
  | own l =>
    obtain ⟨p, xs, e, b, n, i, hp, r⟩ := h
    exact ⟨p, xs, e, b, fun z => n (a.oldP p _ hp z), a.old p _ hp i, a.keep p _ hp n, r.mono a.I⟩
  | pot =>
    obtain ⟨p, e, z⟩ := h
    exact ⟨p, e, a.P p z⟩
  | inst C p dx fs =>
    obtain ⟨vs, e, b, b2, ne, n, n2, i, i2, hp, hd, r⟩ := h
    exact ⟨vs, e, b, b2, ne, fun z => n (a.oldP p _ hp z), fun z => n2 (a.oldP dx _ hd z), a.old p _ hp i, a.old dx _ hd i2, a.keep p _ hp n, a.keep dx _ hd n2, r.mono a.I⟩
theorem Rep.step (r : Rep K g B S σ W H) (a : Stp W H W1 H1) (ok : Ok g W1 H1) : Rep K g B S σ W1 H1 :=
  ⟨ok, r.gb, r.len, fun i s e => let ⟨v, h1, h2⟩ := r.sl i s e; ⟨v, h1, h2.step a⟩, r.dist⟩
theorem Rep.set {i : Nat} {d : D} {v : V} (r : Rep K g B S σ W H) (h : Dn K W.I d v) : Rep K g B (S.set i (some (.val d))) (σ.set i (some v)) W H where
  ok := r.ok
  gb := r.gb
  len := by simpa using r.len
  sl := fun j s e => by
    by_cases q : i = j
    · subst q
      by_cases z : i < S.length
      · rw [List.getElem?_set_self z] at e
        cases e
        exact ⟨v, List.getElem?_set_self (r.len ▸ z), h⟩
      · rw [List.getElem?_eq_none (by simpa using z)] at e
        cases e
    · rw [List.getElem?_set_ne q] at e ⊢
      exact r.sl j s e
  dist := fun a b l m p n e1 e2 e3 => by
    have qa : i ≠ a := fun z => by
      subst z
      by_cases y : i < S.length
      · rw [List.getElem?_set_self y] at e1; cases e1
      · rw [List.getElem?_eq_none (by simpa using y)] at e1; cases e1
    have qb : i ≠ b := fun z => by
      subst z
      by_cases y : i < S.length
      · rw [List.getElem?_set_self y] at e2; cases e2
      · rw [List.getElem?_eq_none (by simpa using y)] at e2; cases e2
    rw [List.getElem?_set_ne qa] at e1 e3
    rw [List.getElem?_set_ne qb] at e2 ⊢
    exact r.dist a b l m p n e1 e2 e3
end

/-! ### the weakest readings -/
section
variable (X : Cx)
def WE (e : Expr) : TE := fun σ H Q => ∀ pins s, Inv X pins σ H s → wpAny (model X.prog X.w) X.A (eval e X.env) (EP X pins σ Q) X.xe s
def WT (e : Expr) : TT := fun σ H Q => ∀ pins s, Inv X pins σ H s → wpAny (model X.prog X.w) X.A (isTrue e X.env (eval e X.env)) (TP X pins σ Q) X.xe s
def WW (e : Expr) : TT := fun σ H Q => ∀ whole pins s, Inv X pins σ H s → wpAny (model X.prog X.w) X.A (isTrue e X.env whole) (TP X pins σ Q) X.xe s
def WA (es : List Expr) : TA := fun σ H Q => ∀ pos pins s, Inv X pins σ H s → wpAny (model X.prog X.w) X.A (spliced (backTo pos (starEach es X.env))) (AP X pins σ Q) X.xe s
def WS (st : Stmt) : TS := fun Dd σ H => ∀ pins s, Inv X pins σ H s → wpAny (model X.prog X.w) X.A (exec st X.env) (SP X pins Dd) X.xe s
def WSs (sts : List Stmt) : TS := fun Dd σ H => ∀ pins s, Inv X pins σ H s → wpAny (model X.prog X.w) X.A (execs sts X.env) (SP X pins Dd) X.xe s
def WO (f : Value → Value → Sem Value) : R2 := fun x y H Q => ∀ pins s σ v u, Inv X pins σ H s → RelV x v → RelV y u → wpAny (model X.prog X.w) X.A (f v u) (EP X pins σ Q) X.xe s
end
section
variable {X : Cx} {e : Expr} {es : List Expr} {st : Stmt} {sts : List Stmt}
theorem we_pe : PE X e (WE X e) := ⟨fun pins s _ _ _ I h => h pins s I⟩
theorem wt_pt : PT X e (WT X e) := ⟨fun pins s _ _ _ I h => h pins s I⟩
theorem ww_pw : PW X e (WW X e) := ⟨fun wh pins s _ _ _ I h => h wh pins s I⟩
theorem wa_pa : PA X es (WA X es) := ⟨fun pos pins s _ _ _ I h => h pos pins s I⟩
theorem ws_ps : PS X st (WS X st) := ⟨fun pins s _ _ _ I h => h pins s I⟩
theorem wss_pss : PSs X sts (WSs X sts) := ⟨fun pins s _ _ _ I h => h pins s I⟩
theorem wo_op {f : Value → Value → Sem Value} : OpR X f (WO X f) := fun pins s σ _ _ _ v u _ I r1 r2 h => h pins s σ v u I r1 r2
theorem PE.w {t : TE} (h : PE X e t) {σ : L2.St} {H : Hp} {Q : VK} (q : t σ H Q) : WE X e σ H Q := fun pins s I => h.run pins s σ H Q I q
theorem PT.w {t : TT} (h : PT X e t) {σ : L2.St} {H : Hp} {Q : Bool → Hp → Prop} (q : t σ H Q) : WT X e σ H Q := fun pins s I => h.run pins s σ H Q I q
theorem PW.w {t : TT} (h : PW X e t) {σ : L2.St} {H : Hp} {Q : Bool → Hp → Prop} (q : t σ H Q) : WW X e σ H Q := fun wh pins s I => h.run wh pins s σ H Q I q
theorem PA.w {t : TA} (h : PA X es t) {σ : L2.St} {H : Hp} {Q : List V → Hp → Prop} (q : t σ H Q) : WA X es σ H Q := fun pos pins s I => h.run pos pins s σ H Q I q
theorem PS.w {t : TS} (h : PS X st t) {σ : L2.St} {H : Hp} {Dd : Ends} (q : t Dd σ H) : WS X st Dd σ H := fun pins s I => h.run pins s σ H Dd I q
theorem PSs.w {t : TS} (h : PSs X sts t) {σ : L2.St} {H : Hp} {Dd : Ends} (q : t Dd σ H) : WSs X sts Dd σ H := fun pins s I => h.run pins s σ H Dd I q
theorem OpR.w {f : Value → Value → Sem Value} {r : R2} (h : OpR X f r) {x y : V} {H : Hp} {Q : VK} (q : r x y H Q) : WO X f x y H Q := fun pins s σ v u I r1 r2 => h pins s σ H x y v u Q I r1 r2 q
end

/-! ### judgements on data -/
/-- what follows: from any later world, a value that is a datum wanted -/
def Cont (K : PySem.W.Frag) (g : List Code) (W : Wd) (H : Hp) (Q : D → Prop) (R : VK) : Prop := ∀ d v W' H', Stp W H W' H' → Ok g W' H' → Dn K W'.I d v → Q d → R v H'
def ContB (g : List Code) (W : Wd) (H : Hp) (Q : Bool → Prop) (R : Bool → Hp → Prop) : Prop := ∀ b W' H', Stp W H W' H' → Ok g W' H' → Q b → R b H'
/-- arguments: data, or pots -/
def Arg (K : PySem.W.Frag) (W : Wd) : Sl → V → Prop
  | .val d, v => Dn K W.I d v
  | .pot, v => ∃ p, v = .ref p ∧ W.P p
  | .own _, _ => False
  | .inst _ _ _ _, _ => False
abbrev Args (K : PySem.W.Frag) (W : Wd) (as : List Sl) (vs : List V) : Prop := Paired (Arg K W) as vs
def ContA (K : PySem.W.Frag) (g : List Code) (W : Wd) (H : Hp) (Q : List Sl → Prop) (R : List V → Hp → Prop) : Prop := ∀ as vs W' H', Stp W H W' H' → Ok g W' H' → Args K W' as vs → Q as → R vs H'
section
variable (X : Cx) (B : Hp) (S : En)
def ED (e : Expr) (Q : D → Prop) : Prop := ∀ σ W H, Rep X.K (gOf X) B S σ W H → ∀ R, Cont X.K (gOf X) W H Q R → WE X e σ H R
def TD (e : Expr) (Q : Bool → Prop) : Prop := ∀ σ W H, Rep X.K (gOf X) B S σ W H → ∀ R, ContB (gOf X) W H Q R → WT X e σ H R
def TW (e : Expr) (Q : Bool → Prop) : Prop := ∀ σ W H, Rep X.K (gOf X) B S σ W H → ∀ R, ContB (gOf X) W H Q R → WW X e σ H R
def AD (es : List Expr) (Q : List Sl → Prop) : Prop := ∀ σ W H, Rep X.K (gOf X) B S σ W H → ∀ R, ContA X.K (gOf X) W H Q R → WA X es σ H R
def OD (f : Value → Value → Sem Value) (x y : D) (Q : D → Prop) : Prop := ∀ v u W H, Ok (gOf X) W H → Dn X.K W.I x v → Dn X.K W.I y u → ∀ R, Cont X.K (gOf X) W H Q R → WO X f v u H R
end
section
variable {K : PySem.W.Frag} {g : List Code} {W W1 : Wd} {H H1 : Hp}
theorem Cont.step {Q : D → Prop} {R : VK} (c : Cont K g W H Q R) (a : Stp W H W1 H1) (ok : Ok g W1 H1) : Cont K g W1 H1 Q R := fun d v W' H' b ok' h q => c d v W' H' (a.trans ok b) ok' h q
theorem Cont.now {Q : D → Prop} {R : VK} (c : Cont K g W H Q R) (ok : Ok g W H) {d : D} {v : V} (h : Dn K W.I d v) (q : Q d) : R v H := c d v W H Stp.refl ok h q
theorem ContB.step {Q : Bool → Prop} {R : Bool → Hp → Prop} (c : ContB g W H Q R) (a : Stp W H W1 H1) (ok : Ok g W1 H1) : ContB g W1 H1 Q R := fun b W' H' s ok' q => c b W' H' (a.trans ok s) ok' q
theorem ContB.now {Q : Bool → Prop} {R : Bool → Hp → Prop} (c : ContB g W H Q R) (ok : Ok g W H) {b : Bool} (q : Q b) : R b H := c b W H Stp.refl ok q
theorem ContA.step {Q : List Sl → Prop} {R : List V → Hp → Prop} (c : ContA K g W H Q R) (a : Stp W H W1 H1) (ok : Ok g W1 H1) : ContA K g W1 H1 Q R := fun as vs W' H' b ok' h q => c as vs W' H' (a.trans ok b) ok' h q
theorem Args.step {as : List Sl} {vs : List V} (h : Args K W as vs) (a : Stp W H W1 H1) : Args K W1 as vs := by
  refine Paired.mapP h fun x v h1 => ?_
  · cases x with
    | val d => exact Dn.mono a.I h1
    | own l => exact h1
    | pot => obtain ⟨p, e, q⟩ := h1; exact ⟨p, e, a.P p q⟩
    | inst _ _ _ _ => exact h1
end

/-! ### expressions -/
section
variable {X : Cx} {B : Hp} {S : En} {pos : Pos} {Q : D → Prop} {a b : Expr}
theorem ed_name {x : Str} {d : D} (i : Nat) (hN : X.N[i]? = some x) (h : S[i]? = some (some (.val d))) (q : Q d) (hv : Vis X.env.scope x := by first | exact Or.inl rfl | exact Or.inr (Or.inl rfl) | exact Or.inr (Or.inr rfl))
    (hd : (x == ("__debug__" : Str)) = false := by decide) (hcd : (x == ("__classdict__" : Str)) = false := by decide) : ED X B S (.Name x pos) Q := fun σ W H r R c => by
  obtain ⟨v, e, z⟩ := r.sl i _ h
  exact PE.w (pe_var hN hv hd hcd) ⟨v, e, c.now r.ok z q⟩
theorem ed_int {i j} (q : Q (.int i)) : ED X B S (.Constant (.int i) j pos) Q := fun σ W H r R c => PE.w pe_int (c.now r.ok (.int i) q)
theorem ed_bl {b j} (q : Q (.bl b)) : ED X B S (.Constant (.bool b) j pos) Q := fun σ W H r R c => PE.w pe_bl (c.now r.ok (.bl b) q)
theorem ed_non {j} (q : Q .non) : ED X B S (.Constant .none j pos) Q := fun σ W H r R c => PE.w pe_non (c.now r.ok .non q)
theorem ed_str {x j} (q : Q (.str x)) : ED X B S (.Constant (.str x) j pos) Q := fun σ W H r R c => PE.w pe_str (c.now r.ok (.str x) q)
theorem ed_two {f : Value → Value → Sem Value} (h : ED X B S a fun x => ED X B S b fun y => OD X f x y Q) {σ : L2.St} {W : Wd} {H : Hp} (r : Rep X.K (gOf X) B S σ W H) {R : VK} (c : Cont X.K (gOf X) W H Q R) :
    WE X a σ H fun x H1 => WE X b σ H1 fun y H2 => WO X f x y H2 R := by
  refine h σ W H r _ fun d v W1 H1 s1 ok1 n1 q1 => ?_
  refine q1 σ W1 H1 (r.step s1 ok1) _ fun d2 u W2 H2 s2 ok2 n2 q2 => ?_
  exact q2 v u W2 H2 ok2 (n1.mono s2.I) n2 R ((c.step s1 ok1).step s2 ok2)
theorem ed_bin {op : Operator} (h : ED X B S a fun x => ED X B S b fun y => OD X (binaryOp op) x y Q) : ED X B S (.BinOp a op b pos) Q := fun σ W H r R c =>
  PE.w (pe_op wo_op we_pe we_pe) (ed_two h r c)
theorem ed_cmp {op : CmpOp} (h : ED X B S a fun x => ED X B S b fun y => OD X (compareOp op) x y Q) (hm : behindInMarks op b = false := by first | exact nomark _ | rfl) : ED X B S (.Compare a [op] [b] pos) Q := fun σ W H r R c =>
  PE.w (pe_cmpR wo_op we_pe we_pe hm) (ed_two h r c)
theorem od_of {f : Value → Value → Sem Value} {r : R2} (ho : OpR X f r) {x y : D} (h : ∀ v u W H, Ok (gOf X) W H → Dn X.K W.I x v → Dn X.K W.I y u → ∀ R, Cont X.K (gOf X) W H Q R → r v u H R) : OD X f x y Q :=
  fun v u W H ok h1 h2 R c => OpR.w ho (h v u W H ok h1 h2 R c)
/-- operators on ints -/
theorem od_I0 {f : Value → Value → Sem Value} {g : Int → Int → V} {i j : Int} {d : D} (ho : OpR X f (rI0 g)) (hg : ∀ K I, Dn K I d (g i j)) (q : Q d) : OD X f (.int i) (.int j) Q := by
  refine od_of ho fun v u W H ok h1 h2 R c => ?_
  cases h1; cases h2
  exact ⟨i, j, rfl, rfl, c.now ok (hg _ _) q⟩
theorem od_I {f : Value → Value → Sem Value} {C : Int → Int → Prop} {g : Int → Int → V} {i j : Int} {d : D} (ho : OpR X f (rI C g)) (hc : C i j) (hg : ∀ K I, Dn K I d (g i j)) (q : Q d) : OD X f (.int i) (.int j) Q := by
  refine od_of ho fun v u W H ok h1 h2 R c => ?_
  cases h1; cases h2
  exact ⟨i, j, rfl, rfl, hc, c.now ok (hg _ _) q⟩
theorem od_add {i j : Int} (q : Q (.int (i + j))) : OD X (binaryOp .Add) (.int i) (.int j) Q := od_I0 op_add (fun _ _ => .int _) q
theorem od_sub {i j : Int} (q : Q (.int (i - j))) : OD X (binaryOp .Sub) (.int i) (.int j) Q := od_I0 op_sub (fun _ _ => .int _) q
theorem od_lt {i j : Int} (q : Q (.bl (decide (i < j)))) : OD X (compareOp .Lt) (.int i) (.int j) Q := od_I0 op_lt (fun _ _ => .bl _) q
theorem od_le {i j : Int} (q : Q (.bl (decide (i ≤ j)))) : OD X (compareOp .LtE) (.int i) (.int j) Q := od_I0 op_le (fun _ _ => .bl _) q
theorem od_gt {i j : Int} (q : Q (.bl (decide (j < i)))) : OD X (compareOp .Gt) (.int i) (.int j) Q := od_I0 op_gt (fun _ _ => .bl _) q
theorem od_ge {i j : Int} (q : Q (.bl (decide (j ≤ i)))) : OD X (compareOp .GtE) (.int i) (.int j) Q := od_I0 op_ge (fun _ _ => .bl _) q
end
end DL

set_option Elab.async false
set_option linter.all false
set_option maxRecDepth 100000
set_option maxHeartbeats 2000000
/-! what a def promises where it is known what is being written as a text around it (the guards) -/
namespace DL
open PySem PySem.Spec PyProof.Rows L2
abbrev SpG := List Code → List V → Hp → VK → Prop
structure GnOk (P : Program) (w : World) (K : PySem.W.Frag) (mg : Str → Option Value) (base : Heap) (k : Nat) (f : Addr) (fd : FuncData) (ps : List Str) (sp : SpG) : Prop where
  len : ∀ g vs H Q, sp g vs H Q → vs.length = ps.length
  run : ∀ (A : Around) (g : List Code) (outer : List Env) (s : Shared) (H : Hp) (args : PySem.Args) (us : List Value) (vs : List V) (Q : VK), Room k A → A.guards = some g → Env0 P w K mg base A outer s H → BindsTo s fd args (ps.zip us) → Vals vs us → sp g vs H Q →
    codeAny (model P w) A (.call (.ref f) args) (CR CX0 outer P w H s Q E0) s
/-- a def of the text, its defaults whatever they are -/
structure FunS (K : PySem.W.Frag) (x qual : Str) (st : Stmt) (f : Addr) (fd : FuncData) : Prop where
  ex : ∃ (oc : Value) (od : Option Addr) (dV kV doc pm : Value) (an : Option Addr) (cdv ct : Value) (osl : Array (Option Value)),
    fd = PySem.W.fnOf x qual (defArgs st) (defBody st) (defScope st) dV kV doc pm an cdv ct ∧ K.lookup f = some ⟨oc, od, .func fd, osl⟩ ∧ PySem.W.codeIn K cdv qual = true
  kp : PySem.W.keepIn K (.ref f) = true
theorem fun_s {K : PySem.W.Frag} {x qual : Str} {st : Stmt} {f : Addr} {fd : FuncData} (F : Fun K x qual st f fd) : FunS K x qual st f fd :=
  ⟨let ⟨oc, od, kV, doc, pm, an, cdv, ct, osl, a, b, c⟩ := F.ex; ⟨oc, od, .none, kV, doc, pm, an, cdv, ct, osl, a, b, c⟩, F.kp⟩
theorem fund_s {K : PySem.W.Frag} {x qual : Str} {st : Stmt} {dvs : List V} {kws : List (Str × V)} {f : Addr} {fd : FuncData} (F : FunD K x qual (defArgs st) (defBody st) (defScope st) dvs kws f fd) : FunS K x qual st f fd :=
  ⟨let ⟨oc, od, dV, kV, doc, pm, an, cdv, ct, osl, a, b, c, _⟩ := F.ex; ⟨oc, od, dV, kV, doc, pm, an, cdv, ct, osl, a, b, c⟩, F.kp⟩
section
variable {P : Program} {w : World} {K : PySem.W.Frag} {mg : Str → Option Value} {base : Heap} {j k : Nat} {f : Addr} {fd : FuncData} {ps : List Str} {sp sp' : SpG}
theorem GnOk.mono (F : GnOk P w K mg base j f fd ps sp) (h : j ≤ k) : GnOk P w K mg base k f fd ps sp := ⟨F.len, fun A g outer s H args us vs Q hr => F.run A g outer s H args us vs Q (hr.mono h)⟩
theorem GnOk.imp (F : GnOk P w K mg base k f fd ps sp) (h : ∀ g vs H Q, sp' g vs H Q → sp g vs H Q) : GnOk P w K mg base k f fd ps sp' :=
  ⟨fun g vs H Q q => F.len g vs H Q (h _ _ _ _ q), fun A g outer s H args us vs Q hr hg he hb hv hs => F.run A g outer s H args us vs Q hr hg he hb hv (h _ _ _ _ hs)⟩
abbrev Bx (P : Program) (w : World) (K : PySem.W.Frag) (mg : Str → Option Value) (base : Heap) (N : List Str) (qual : Str) (st : Stmt) (f : Addr) (cdv : Value) (A : Around) (outer : List Env) (s : Shared) (H : Hp) : Cx := (cxOf CX0 P w K mg base N qual (defScope st) f cdv A outer s H E0).nox
/-- a def by its body, the guards known -/
theorem gn_of {x qual : Str} {st : Stmt} {N : List Str} (F : FunS K x qual st f fd) (S : FnScope N ps (defScope st)) (len : ∀ g vs H Q, sp g vs H Q → vs.length = ps.length)
    (body : ∀ cdv A outer s H g vs Q, Room k (A.deeper (PyProof.Rows.envOfC qual (defScope st) s.heap.objs.size f cdv)) → A.guards = some g → sp g vs H Q →
      ∃ t, PSs (Bx P w K mg base N qual st f cdv A outer s H) (defBody st) t ∧ t { nx := fun _ H' => Q .non H', rt := Q } (L2.start N vs) H) : GnOk P w K mg base (k + 1) f fd ps sp := by
  obtain ⟨oc, od, dV, kV, doc, pm, an, cdv, ct, osl, rfl, lk, hcd⟩ := F.ex
  refine ⟨len, fun A g outer s H args us vs Q hr hg e0 hb r hsp => ?_⟩
  have old := fun b o (e : base.get? b = some o) => (e0.bs b o e).1
  have KX : K.In s.heap := e0.mod.kin.keeps old
  have par : ∀ y ∈ ps.zip us, (defScope st).names.lookup y.1 = some .local ∨ ((defScope st).names.lookup y.1 = some .cell ∧ ((cellsFrom (s.heap.objs.size + 1) (defScope st).names []).lookup y.1).isSome = true) := fun y hy =>
    (S.par y.1 (List.of_mem_zip (show (y.1, y.2) ∈ _ from hy)).1).imp id fun q => ⟨q, PySem.W.cellsFrom_some _ _ _ (.inl q)⟩
  refine codeAny_call_function hr.depth (KX _ _ lk) rfl S.co S.gen rfl (PySem.W.codeRec_of KX hcd) (hb _ _ _ _ ?_)
  refine wpAny_newFunctionEnv_cells S.kind par fun env he s1 x => ?_
  subst he
  refine ⟨(e0.mod.nolimit.keeps old).keeps x.toInCall.keep, codeAny_func ?_⟩
  obtain ⟨t, ht, hq⟩ := body cdv A outer s H g vs Q (hr.deeper _) hg hsp
  have I := inv_start (CX := CX0) (E := E0) S hr.hd e0 (len _ _ _ _ hsp) r x
  refine wpAny_mono (ht.nox.run [] s1 (L2.start N vs) H _ I hq) (fun fl s' hs => ?_) fun e s' hs => hs
  match fl, hs with
  | .ret u, ⟨v, σ', H', J, rv, q⟩ => exact ⟨v, H', J.os, J.bare, J.base, J.hok, rv, q⟩
  | .next, ⟨σ', H', J, q⟩ => exact ⟨V.non, H', J.os, J.bare, J.base, J.hok, rfl, q⟩
  | .brk, ⟨_, _, _, q⟩ => exact q.elim
  | .cont, ⟨_, _, _, q⟩ => exact q.elim
theorem deeper_guards {A : Around} {qual : Str} {sc : Scope} {n : Nat} {f : Addr} {cdv : Value} {g : List Code} (h : A.guards = some g) : (A.deeper (PyProof.Rows.envOfC qual sc n f cdv)).guards = some g := by
  first | exact h | (simpa [Around.deeper] using h)
end
section
variable {X : Cx} {k : Nat} {f C g0 : Addr} {fd : FuncData} {ps : List Str} {sp : SpG} {dvs : List V} {ds : List Value} {x m : Str} {p pos apos : Pos} {e o : Expr} {es : List Expr} {g : List Code}
theorem run_cr {pins : List (Addr × Obj)} {σ : L2.St} {H : Hp} {s : Shared} {Q : VK} {c : Code} {A : Around} (I : Inv X pins σ H s) (h : codeAny (model X.prog X.w) A c (CR CX0 X.stack X.prog X.w H s Q E0) s) :
    codeAny (model X.prog X.w) A c (fun r s' => match r with | .ok (.ret v) => EP X pins σ Q v s' | .ok _ => False | .error e => False) s := by
  refine codeAny_mono h fun r s' hq => ?_
  match r, hq with
  | .error e, hq => exact hq
  | .ok (.ret u), hq => exact I.after hq
/-- the callee runs -/
theorem run_gn {A : Around} {pins : List (Addr × Obj)} {σ : L2.St} {H : Hp} {s : Shared} {Q : VK} {us : List Value} {vs : List V} {R : PySem.Result → Shared → Prop} (F : GnOk X.prog X.w X.K X.mg X.base k f fd ps sp) (hr : Room k A) (hG : A.guards = some g) (e0 : Env0 X.prog X.w X.K X.mg X.base A X.stack s H)
    (hb : Binds X.K fd ps ds) (hd : Vals dvs ds) (I : Inv X pins σ H s) (r : Vals vs us) (h : sp g (vs ++ dvs) H Q) (k : ∀ v s', EP X pins σ Q v s' → R (.ok (.ret v)) s') : codeAny (model X.prog X.w) A (.call (.ref f) ⟨us, []⟩) R s := by
  have r2 : Vals (vs ++ dvs) (us ++ ds) := r.append hd
  have hl : (us ++ ds).length = ps.length := r2.length.symm.trans (F.len _ _ _ _ h)
  refine codeAny_mono (run_cr I (F.run A g X.stack s H ⟨us, []⟩ (us ++ ds) (vs ++ dvs) Q hr hG e0 (hb s us I.kIn hl) r2 h)) fun r s' hq => ?_
  match r, hq with
  | .error e, hq => exact hq.elim
  | .ok (.ret u), hq => exact k u s' hq
/-- .. its arguments bound in any way -/
theorem run_gb {A : Around} {pins : List (Addr × Obj)} {σ : L2.St} {H : Hp} {s : Shared} {Q : VK} {args : PySem.Args} {us : List Value} {vs : List V} {R : PySem.Result → Shared → Prop} (F : GnOk X.prog X.w X.K X.mg X.base k f fd ps sp) (hr : Room k A) (hG : A.guards = some g) (e0 : Env0 X.prog X.w X.K X.mg X.base A X.stack s H)
    (hb : BindsTo s fd args (ps.zip us)) (I : Inv X pins σ H s) (r : Vals vs us) (h : sp g vs H Q) (k : ∀ v s', EP X pins σ Q v s' → R (.ok (.ret v)) s') : codeAny (model X.prog X.w) A (.call (.ref f) args) R s := by
  refine codeAny_mono (run_cr I (F.run A g X.stack s H args us vs Q hr hG e0 hb r h)) fun r s' hq => ?_
  match r, hq with
  | .error e, hq => exact hq.elim
  | .ok (.ret u), hq => exact k u s' hq
theorem call_gn {pins : List (Addr × Obj)} {σ : L2.St} {H : Hp} {s : Shared} {Q : VK} {us : List Value} {vs : List V} {E : Value → Shared → Prop} (F : GnOk X.prog X.w X.K X.mg X.base k f fd ps sp) (hr : Room k X.A) (hG : X.A.guards = some g)
    (hb : Binds X.K fd ps ds) (hd : Vals dvs ds) (I : Inv X pins σ H s) (r : Vals vs us) (h : sp g (vs ++ dvs) H Q) : wpAny (model X.prog X.w) X.A (call (.ref f) us) (EP X pins σ Q) E s :=
  wpAny_call (run_gn F hr hG I.env0 hb hd I r h fun _ _ q => q)
/-- f(e, ..) -/
theorem we_call {σ : L2.St} {H : Hp} {Q : VK} (F : GnOk X.prog X.w X.K X.mg X.base k f fd ps sp) (hr : Room k X.A) (hG : X.A.guards = some g) (hg : Gl X x) (hm : X.mg x = some (.ref f)) (hk : PySem.W.keepIn X.K (.ref f) = true) (hb : Binds X.K fd ps ds) (hd : Vals dvs ds)
    (h : WA X (e :: es) σ H fun vs H1 => sp g (vs ++ dvs) H1 Q) (hdb : (x == ("__debug__" : Str)) = false) (he : starEach (e :: es) X.env = (false, eval e X.env) :: starEach es X.env) (hpl : (backTo pos (starEach es X.env)).any (·.1) = false) : WE X (.Call (.Name x p) (e :: es) [] pos) σ H Q := fun pins s I =>
  wpAny_Call_Name_kw (ld_glob I hg hm (PySem.W.callWith_K (h₀ := X.base) I.ok.mod.kin hk (thn (h pos pins s I) fun us s1 ⟨vs, H1, I1, r, q⟩ => ⟨I1.kIn, call_gn F hr hG hb hd I1 r q⟩) he hpl) hdb)
theorem we_call0 {σ : L2.St} {H : Hp} {Q : VK} (F : GnOk X.prog X.w X.K X.mg X.base k f fd ps sp) (hr : Room k X.A) (hG : X.A.guards = some g) (hg : Gl X x) (hm : X.mg x = some (.ref f)) (hk : PySem.W.keepIn X.K (.ref f) = true) (hb : Binds X.K fd ps ds) (hd : Vals dvs ds)
    (h : sp g dvs H Q) (hdb : (x == ("__debug__" : Str)) = false) : WE X (.Call (.Name x p) [] [] pos) σ H Q := fun pins s I =>
  wpAny_Call_Name_kw (ld_glob I hg hm (PySem.W.callWith_K0 I.kIn hk (call_gn (us := []) (vs := []) F hr hG hb hd I .nil h)) hdb)
/-- o.m(e, ..) -/
theorem we_meth {σ : L2.St} {H : Hp} {Q : VK} {pl : Sem Bool} (c : Cls X.K C) (hm : Meth X.K C m f) (F : GnOk X.prog X.w X.K X.mg X.base k f fd ps sp) (hr : Room k X.A) (hG : X.A.guards = some g) (hb : Binds X.K fd ps ds) (hd : Vals dvs ds)
    (h : WE X o σ H fun x H1 => ∃ a dx fs, x = .ref a ∧ H1 a = some (.ins C dx fs) ∧ fs.lookup m = none ∧ WA X (e :: es) σ H1 fun vs H2 => sp g (x :: (vs ++ dvs)) H2 Q)
    (hst : starEach (e :: es) X.env = (false, eval e X.env) :: starEach es X.env) (hpl : (backTo pos (starEach es X.env)).any (·.1) = false)
    (ht : eval (.Call (.Attribute o m apos) (e :: es) [] pos) X.env = (do
      let ov ← eval o X.env
      standAt apos.atName
      let (f, first) ← holding [ov] (getMethod ov m pl)
      callWith pos f first (backTo pos (starEach (e :: es) X.env)) (backToKw pos (keywordEach [] X.env)))) : WE X (.Call (.Attribute o m apos) (e :: es) [] pos) σ H Q := fun pins s I => by
  refine PySem.W.methodCall_KW (pl := pl) (thn (h pins s I) fun u s1 ⟨x, H1, I1, rx, a, dx, fs, ex, ea, l, q⟩ => ?_) ht
  subst ex
  cases (show u = Value.ref a from rx)
  exact getmeth_ok I1 ea c hm l (PySem.W.callWith_K (first := [.ref a]) (h₀ := X.base) I.ok.mod.kin hm.kp (thn (q pos pins s1 I1) fun us s2 ⟨vs, H2, I2, r, q2⟩ => ⟨I2.kIn, call_gn (us := .ref a :: us) (vs := .ref a :: vs) F hr hG hb hd I2 (.cons rfl r) q2⟩) hst hpl)
theorem we_meth0 {σ : L2.St} {H : Hp} {Q : VK} {pl : Sem Bool} (c : Cls X.K C) (hm : Meth X.K C m f) (F : GnOk X.prog X.w X.K X.mg X.base k f fd ps sp) (hr : Room k X.A) (hG : X.A.guards = some g) (hb : Binds X.K fd ps ds) (hd : Vals dvs ds)
    (h : WE X o σ H fun x H1 => ∃ a dx fs, x = .ref a ∧ H1 a = some (.ins C dx fs) ∧ fs.lookup m = none ∧ sp g (x :: dvs) H1 Q)
    (ht : eval (.Call (.Attribute o m apos) [] [] pos) X.env = (do
      let ov ← eval o X.env
      standAt apos.atName
      let (f, first) ← holding [ov] (getMethod ov m pl)
      callWith pos f first (backTo pos (starEach [] X.env)) (backToKw pos (keywordEach [] X.env)))) : WE X (.Call (.Attribute o m apos) [] [] pos) σ H Q := fun pins s I => by
  refine PySem.W.methodCall_KW (pl := pl) (thn (h pins s I) fun u s1 ⟨x, H1, I1, rx, a, dx, fs, ex, ea, l, q⟩ => ?_) ht
  subst ex
  cases (show u = Value.ref a from rx)
  exact getmeth_ok I1 ea c hm l (PySem.W.callWith_K0 (first := [.ref a]) I1.kIn hm.kp (call_gn (us := [.ref a]) (vs := [.ref a]) F hr hG hb hd I1 (.cons rfl .nil) q))
/-- e.f, a property -/
theorem we_prop {σ : L2.St} {H : Hp} {Q : VK} {f : Str} {pp : Addr} (c : Cls X.K C) (hp : PropOf X.K C f pp g0) (F : GnOk X.prog X.w X.K X.mg X.base k g0 fd ps sp) (hr : Room (k + 1) X.A) (hG : X.A.guards = some g) (hb : Binds X.K fd ps ds) (hd : Vals dvs ds)
    (h : WE X o σ H fun x H1 => ∃ a dx fs, x = .ref a ∧ H1 a = some (.ins C dx fs) ∧ sp g (x :: dvs) H1 Q) (hab : attributeBase o f X.env (eval o X.env) = eval o X.env) : WE X (.Attribute o f pos) σ H Q := fun pins s I => by
  refine attr_of hab (thn (h pins s I) fun u s1 ⟨x, H1, I1, rx, a, dx, fs, ex, ea, q⟩ => ?_)
  subst ex
  cases (show u = Value.ref a from rx)
  obtain ⟨mA, O, _⟩ := ins_get I1.hok ea
  obtain ⟨od, J, _⟩ := O.look
  obtain ⟨rest, hrec⟩ := hp.rec_
  have I2 := I1.tok (s1.toks + 1)
  have hc : (PySem.W.clsIn X.K C).isSome = true := by
    obtain ⟨cd, hc, _⟩ := PySem.W.any_some c.hd
    rw [hc]
    rfl
  refine PySem.W.get_bind I1.kIn J (PySem.W.plainGet_of (c.get f)).1 (PySem.W.findObj_data hc hp.at_ hp.get hp.tak) (PySem.W.plainGet_of (c.get f)).2 (wpAny_call (PySem.W.prop_get (s := { s1 with toks := s1.toks + 1 }) I1.kIn hrec ?_))
  refine codeAny_mono (run_gn (A := X.A.in1) (us := [.ref a]) (vs := [.ref a]) (R := fun r s' => match r with | .ok (.ret v) => EP X pins σ Q v s' | _ => False) F hr.in1 hG I2.env0.in1 hb hd I2 (.cons rfl .nil) q fun _ _ q => q) fun r s' hq => ?_
  match r, hq with
  | .ok (.ret u), hq =>
    obtain ⟨v, H', I3, rv, q3⟩ := id hq
    exact wpAny_of_eq (PySem.W.handedOut_of (handed_of rv)) hq
/-- C(e, ..) -/
theorem make_guards {A : Around} {us : List Value} (h : A.guards = some g) : (A.under (.builtin "type.__call__" ⟨.ref C :: us, []⟩)).guards = some g := by
  have e : (Code.builtin "type.__call__" ⟨.ref C :: us, []⟩).guards = [] := by
    unfold Code.guards Code.isGuard
    have h0 : guardIds.contains "type.__call__" = false := by decide +kernel
    rw [if_neg (by show ¬ (guardIds.contains "type.__call__" = true); rw [h0]; exact Bool.false_ne_true)]
  show pushGuards (Code.builtin "type.__call__" ⟨.ref C :: us, []⟩).guards A.guards = some g
  rw [e]
  exact h
theorem run_gmake {pins : List (Addr × Obj)} {σ : L2.St} {H : Hp} {s : Shared} {Q : VK} {us : List Value} {vs : List V} {E : Value → Shared → Prop} (M : Mk X.K C f) (F : GnOk X.prog X.w X.K X.mg X.base k f fd ps sp) (hr : Room (k + 1) X.A) (hG : X.A.guards = some g) (hb : Binds X.K fd ps ds) (hd : Vals dvs ds)
    (I : Inv X pins σ H s) (r : Vals vs us) (h : ∀ x dx, H x = none → H dx = none → dx ≠ x → sp g (.ref x :: (vs ++ dvs)) (upd (upd H dx (.own x)) x (.ins C dx [])) (fun v H2 => v = .non ∧ Q (.ref x) H2)) : wpAny (model X.prog X.w) X.A (call (.ref C) us) (EP X pins σ Q) E s := by
  have hq := h (s.heap.objs.size + 1) s.heap.objs.size (I.hok.fresh (Nat.le_succ _)) (I.hok.fresh (Nat.le_refl _)) (Nat.ne_of_lt (Nat.lt_succ_self _))
  have I2 := Inv.made (C := C) I
  refine wpAny_call (make_map (f := f) I.kIn M.makes M.init (beq_iff_eq.mp M.fn) ?_)
  refine run_gn (us := Value.ref (s.heap.objs.size + 1) :: us) (vs := V.ref (s.heap.objs.size + 1) :: vs) F (hr.make C us []) (make_guards hG) (I2.env0.make C us []) hb hd I2 (.cons rfl r) hq fun v s' hv => ?_
  obtain ⟨z, H', I3, rv, ez, q3⟩ := hv
  subst ez
  exact ⟨rv, ⟨V.ref (s.heap.objs.size + 1), H', I3, rfl, q3⟩⟩
theorem we_make {σ : L2.St} {H : Hp} {Q : VK} (M : Mk X.K C f) (F : GnOk X.prog X.w X.K X.mg X.base k f fd ps sp) (hr : Room (k + 1) X.A) (hG : X.A.guards = some g) (hg : Gl X x) (hm : X.mg x = some (.ref C)) (hb : Binds X.K fd ps ds) (hd : Vals dvs ds)
    (h : WA X (e :: es) σ H fun vs H1 => ∀ y dy, H1 y = none → H1 dy = none → dy ≠ y → sp g (.ref y :: (vs ++ dvs)) (upd (upd H1 dy (.own y)) y (.ins C dy [])) (fun v H2 => v = .non ∧ Q (.ref y) H2))
    (hdb : (x == ("__debug__" : Str)) = false) (he : starEach (e :: es) X.env = (false, eval e X.env) :: starEach es X.env) (hpl : (backTo pos (starEach es X.env)).any (·.1) = false) : WE X (.Call (.Name x p) (e :: es) [] pos) σ H Q := fun pins s I =>
  wpAny_Call_Name_kw (ld_glob I hg hm (PySem.W.callWith_K (h₀ := X.base) I.ok.mod.kin M.kp (thn (h pos pins s I) fun us s1 ⟨vs, H1, I1, r, q⟩ => ⟨I1.kIn, run_gmake M F hr hG hb hd I1 r q⟩) he hpl) hdb)
end
end DL

set_option Elab.async false
set_option linter.all false
set_option maxRecDepth 100000
set_option maxHeartbeats 2000000
/-! calls by keywords, class methods, calls of a class that a local name holds, the guards known -/
namespace DL
open PySem PySem.Spec PyProof.Rows L2 ClX
section
variable {X : Cx} {k n : Nat} {f C p0 : Addr} {fd : FuncData} {ps ks : List Str} {sp : SpG} {x m : Str} {p pos apos : Pos} {e o : Expr} {es : List Expr} {kws : List Keyword} {g : List Code} {gf : List Value → List Value → List Value} {gV : List V → List V → List V} {mc : Value}
/-- the weakest reading of keywords -/
def WK (X : Cx) (kws : List Keyword) : TA := fun σ H Q => ∀ pos pins s, Inv X pins σ H s → wpAny (model X.prog X.w) X.A (evalAll ((backToKw pos (keywordEach kws X.env)).map (·.2))) (AP X pins σ Q) X.xe s
theorem wk_pk : PK X kws (WK X kws) := ⟨fun pos pins s _ _ _ I h => h pos pins s I⟩
theorem PK.w {t : TA} (h : PK X kws t) {σ : L2.St} {H : Hp} {Q : List V → Hp → Prop} (q : t σ H Q) : WK X kws σ H Q := fun pos pins s I => h.run pos pins s σ H Q I q
/-- an instance, made by positional values and keywords -/
theorem run_gmakeK {pins : List (Addr × Obj)} {σ : L2.St} {H : Hp} {s : Shared} {Q : VK} {us ws : List Value} {vs zs : List V} {E : Value → Shared → Prop} (M : Mk X.K C f) (F : GnOk X.prog X.w X.K X.mg X.base k f fd ps sp) (hr : Room (k + 1) X.A) (hG : X.A.guards = some g) (hb : KBn X.K fd ps (n + 1) ks gf gV)
    (I : Inv X pins σ H s) (r : Vals vs us) (rz : Vals zs ws) (l1 : vs.length = n) (l2 : zs.length = ks.length) (h : ∀ x dx, H x = none → H dx = none → dx ≠ x → sp g (gV (.ref x :: vs) zs) (upd (upd H dx (.own x)) x (.ins C dx [])) (fun v H2 => v = .non ∧ Q (.ref x) H2)) : wpAny (model X.prog X.w) X.A (call (.ref C) us (ks.zip ws)) (EP X pins σ Q) E s := by
  have hq := h (s.heap.objs.size + 1) s.heap.objs.size (I.hok.fresh (Nat.le_succ _)) (I.hok.fresh (Nat.le_refl _)) (Nat.ne_of_lt (Nat.lt_succ_self _))
  have I2 := Inv.made (C := C) I
  have n1 : (Value.ref (s.heap.objs.size + 1) :: us).length = n + 1 := by rw [List.length_cons, ← r.length, l1]
  have n2 : ws.length = ks.length := by rw [← rz.length, l2]
  have hg2 : (X.A.under (.builtin "type.__call__" ⟨.ref C :: us, ks.zip ws⟩)).guards = some g := by
    have e : (Code.builtin "type.__call__" ⟨.ref C :: us, ks.zip ws⟩).guards = [] := by
      unfold Code.guards Code.isGuard
      have h0 : guardIds.contains "type.__call__" = false := by decide +kernel
      rw [if_neg (by show ¬ (guardIds.contains "type.__call__" = true); rw [h0]; exact Bool.false_ne_true)]
    show pushGuards (Code.builtin "type.__call__" ⟨.ref C :: us, ks.zip ws⟩).guards X.A.guards = some g
    rw [e]
    exact hG
  refine wpAny_call (make_map (f := f) I.kIn M.makes M.init (beq_iff_eq.mp M.fn) ?_)
  refine run_gb F (hr.make C us (ks.zip ws)) hg2 (I2.env0.make C us (ks.zip ws)) (hb.to _ (Value.ref (s.heap.objs.size + 1) :: us) ws I2.kIn n1 n2) I2 (hb.rel (vs := V.ref (s.heap.objs.size + 1) :: vs) (us := Value.ref (s.heap.objs.size + 1) :: us) (.cons rfl r) rz) hq fun v s' hv => ?_
  obtain ⟨z, H', I3, rv, ez, q3⟩ := hv
  subst ez
  exact ⟨rv, ⟨V.ref (s.heap.objs.size + 1), H', I3, rfl, q3⟩⟩
/-- C(k = v, ..) -/
theorem we_makeK0 {σ : L2.St} {H : Hp} {Q : VK} (M : Mk X.K C f) (F : GnOk X.prog X.w X.K X.mg X.base k f fd ps sp) (hr : Room (k + 1) X.A) (hG : X.A.guards = some g) (hg : Gl X x) (hm : X.mg x = some (.ref C)) (hb : KBn X.K fd ps 1 ks gf gV)
    (h : WK X kws σ H fun zs H1 => zs.length = ks.length ∧ ∀ y dy, H1 y = none → H1 dy = none → dy ≠ y → sp g (gV [.ref y] zs) (upd (upd H1 dy (.own y)) y (.ins C dy [])) (fun v H2 => v = .non ∧ Q (.ref y) H2))
    (hall : (backToKw pos (keywordEach kws X.env)).all (·.1.isSome) = true) (hks : (backToKw pos (keywordEach kws X.env)).filterMap (·.1) = ks) (hdb : (x == ("__debug__" : Str)) = false)
    (hpl : ((backTo pos (starEach [] X.env)).any (·.1) || (backToKw pos (keywordEach kws X.env)).any (·.1.isNone)) = false) : WE X (.Call (.Name x p) [] kws pos) σ H Q := fun pins s I => by
  refine wpAny_Call_Name_kw (ld_glob I hg hm ?_ hdb)
  refine PySem.W.callWith_KW0 (h₀ := X.base) I.ok.mod.kin M.kp hall (thn (h pos pins s I) fun ws s2 ⟨zs, H2, I2, rz, l2, q2⟩ => ⟨I2.kIn, ?_⟩) hpl
  rw [hks]
  exact run_gmakeK (us := []) (vs := []) (n := 0) M F hr hG hb I2 .nil rz rfl l2 q2
/-- o.m(k = v, ..) -/
theorem we_methK0 {σ : L2.St} {H : Hp} {Q : VK} {pl : Sem Bool} (c : Cls X.K C) (hm : Meth X.K C m f) (F : GnOk X.prog X.w X.K X.mg X.base k f fd ps sp) (hr : Room k X.A) (hG : X.A.guards = some g) (hb : KBn X.K fd ps 1 ks gf gV)
    (h : WE X o σ H fun x H1 => ∃ a dx fs, x = .ref a ∧ H1 a = some (.ins C dx fs) ∧ fs.lookup m = none ∧ WK X kws σ H1 fun zs H2 => zs.length = ks.length ∧ sp g (gV [x] zs) H2 Q)
    (hall : (backToKw pos (keywordEach kws X.env)).all (·.1.isSome) = true) (hks : (backToKw pos (keywordEach kws X.env)).filterMap (·.1) = ks)
    (hpl : ((backTo pos (starEach [] X.env)).any (·.1) || (backToKw pos (keywordEach kws X.env)).any (·.1.isNone)) = false)
    (ht : eval (.Call (.Attribute o m apos) [] kws pos) X.env = (do
      let ov ← eval o X.env
      standAt apos.atName
      let (f, first) ← holding [ov] (getMethod ov m pl)
      callWith pos f first (backTo pos (starEach [] X.env)) (backToKw pos (keywordEach kws X.env)))) : WE X (.Call (.Attribute o m apos) [] kws pos) σ H Q := fun pins s I => by
  refine PySem.W.methodCall_KW (pl := pl) (thn (h pins s I) fun u s1 ⟨x, H1, I1, rx, a, dx, fs, ex, ea, l, q⟩ => ?_) ht
  subst ex
  cases (show u = Value.ref a from rx)
  refine getmeth_ok I1 ea c hm l (PySem.W.callWith_KW0 (first := [.ref a]) (h₀ := X.base) I1.ok.mod.kin hm.kp hall (thn (q pos pins s1 I1) fun ws s2 ⟨zs, H2, I2, rz, l2, q2⟩ => ⟨I2.kIn, ?_⟩) hpl)
  rw [hks]
  have n2 : ws.length = ks.length := by rw [← rz.length, l2]
  exact wpAny_call (run_gb F hr hG I2.env0 (hb.to _ [.ref a] ws I2.kIn rfl n2) I2 (hb.rel (vs := [V.ref a]) (us := [Value.ref a]) (.cons rfl .nil) rz) q2 fun _ _ z => z)
/-- the call of the record of a class method -/
theorem run_gcm {pins : List (Addr × Obj)} {σ : L2.St} {H : Hp} {s : Shared} {q : Addr} {Q : VK} {us us' : List Value} {kw : List (Str × Value)} {vs : List V} (F : GnOk X.prog X.w X.K X.mg X.base k f fd ps sp) (hr : Room k X.A) (hG : X.A.guards = some g) (I : Inv X ((q, PySem.W.methodObj (.ref f) (.ref C)) :: pins) σ H s)
    (hb : BindsTo s fd ⟨.ref C :: us, kw⟩ (ps.zip us')) (r : Vals vs us') (h : sp g vs H Q) : wpAny (model X.prog X.w) X.A (call (.ref q) us kw) (EP X pins σ Q) X.xe s := by
  have z : wpAny (model X.prog X.w) X.A (call (.ref q) us kw) (EP X ((q, PySem.W.methodObj (.ref f) (.ref C)) :: pins) σ Q) X.xe s :=
    wpAny_call (PySem.W.method_call (pin_at I) (run_gb F hr hG I.env0 hb I r h fun _ _ z => z))
  exact thn z fun _ _ y => unpinE y
/-- C.m(e, ..), m a class method -/
theorem we_cmeth {σ : L2.St} {H : Hp} {Q : VK} {pl : Sem Bool} (r : CRead X.K C mc) (c : CMet X.K C mc m p0 f) (F : GnOk X.prog X.w X.K X.mg X.base k f fd ps sp) (hr : Room k X.A) (hG : X.A.guards = some g) (hb : Binds X.K fd ps [])
    (h : WE X o σ H fun x H1 => x = .ref C ∧ WA X (e :: es) σ H1 fun vs H2 => sp g (.ref C :: vs) H2 Q)
    (hst : starEach (e :: es) X.env = (false, eval e X.env) :: starEach es X.env) (hpl : (backTo pos (starEach es X.env)).any (·.1) = false)
    (ht : eval (.Call (.Attribute o m apos) (e :: es) [] pos) X.env = (do
      let ov ← eval o X.env
      standAt apos.atName
      let (f, first) ← holding [ov] (getMethod ov m pl)
      callWith pos f first (backTo pos (starEach (e :: es) X.env)) (backToKw pos (keywordEach [] X.env)))) : WE X (.Call (.Attribute o m apos) (e :: es) [] pos) σ H Q := fun pins s I => by
  refine PySem.W.methodCall_KW (pl := pl) (thn (h pins s I) fun u s1 ⟨x, H1, I1, rx, ex, q⟩ => ?_) ht
  subst ex
  obtain rfl : u = Value.ref C := rx
  refine getmethcm_ok I1 r c fun s2 I2 => ?_
  refine callwith_cm I2 (base_none I1 (Nat.le_refl _)) c.fi (thn (q pos _ s2 I2) fun us s3 ⟨vs, H2, I3, rv, q2⟩ => ⟨⟨pin_at I3, I3.kIn⟩, ?_⟩) hst hpl
  have r2 : Vals (V.ref C :: vs) (Value.ref C :: us) := .cons rfl rv
  have hl : (Value.ref C :: us).length = ps.length := r2.length.symm.trans (F.len _ _ _ _ q2)
  have b := hb s3 (Value.ref C :: us) I3.kIn (by rw [List.append_nil]; exact hl)
  rw [List.append_nil] at b
  exact run_gcm F hr hG I3 b r2 q2
/-- C.m(k = v, ..) -/
theorem we_cmethK0 {σ : L2.St} {H : Hp} {Q : VK} {pl : Sem Bool} (r : CRead X.K C mc) (c : CMet X.K C mc m p0 f) (F : GnOk X.prog X.w X.K X.mg X.base k f fd ps sp) (hr : Room k X.A) (hG : X.A.guards = some g) (hb : KBn X.K fd ps 1 ks gf gV)
    (h : WE X o σ H fun x H1 => x = .ref C ∧ WK X kws σ H1 fun zs H2 => zs.length = ks.length ∧ sp g (gV [.ref C] zs) H2 Q)
    (hall : (backToKw pos (keywordEach kws X.env)).all (·.1.isSome) = true) (hks : (backToKw pos (keywordEach kws X.env)).filterMap (·.1) = ks)
    (hpl : ((backTo pos (starEach [] X.env)).any (·.1) || (backToKw pos (keywordEach kws X.env)).any (·.1.isNone)) = false)
    (ht : eval (.Call (.Attribute o m apos) [] kws pos) X.env = (do
      let ov ← eval o X.env
      standAt apos.atName
      let (f, first) ← holding [ov] (getMethod ov m pl)
      callWith pos f first (backTo pos (starEach [] X.env)) (backToKw pos (keywordEach kws X.env)))) : WE X (.Call (.Attribute o m apos) [] kws pos) σ H Q := fun pins s I => by
  refine PySem.W.methodCall_KW (pl := pl) (thn (h pins s I) fun u s1 ⟨x, H1, I1, rx, ex, q⟩ => ?_) ht
  subst ex
  obtain rfl : u = Value.ref C := rx
  refine getmethcm_ok I1 r c fun s2 I2 => ?_
  refine PySem.W.callWith_of hpl (PySem.W.keeps_M (K := X.K) c.fi) (evalArgs_kw2_nil hall (thn (q pos _ s2 I2) fun ws s3 ⟨zs, H2, I3, rz, l2, q2⟩ => ⟨⟨pin_at I3, I3.kIn⟩, ?_⟩))
  have n2 : ws.length = ks.length := by rw [← rz.length, l2]
  have b := hb.to s3 [Value.ref C] ws I3.kIn rfl n2
  have rr := hb.rel (vs := [.ref C]) (us := [Value.ref C]) (.cons rfl .nil) rz
  rw [hks]
  exact run_gcm F hr hG I3 b rr q2
/-- c(e, ..), c a local name that holds the class at C -/
theorem we_makeL {σ : L2.St} {H : Hp} {Q : VK} {dvs : List V} {ds : List Value} {i : Nat} (M : Mk X.K C f) (F : GnOk X.prog X.w X.K X.mg X.base k f fd ps sp) (hr : Room (k + 1) X.A) (hG : X.A.guards = some g) (hN : X.N[i]? = some x) (hv : Vis X.env.scope x) (hs : σ[i]? = some (some (.ref C))) (hb : Binds X.K fd ps ds) (hd : Vals dvs ds)
    (h : WA X (e :: es) σ H fun vs H1 => ∀ y dy, H1 y = none → H1 dy = none → dy ≠ y → sp g (.ref y :: (vs ++ dvs)) (upd (upd H1 dy (.own y)) y (.ins C dy [])) (fun v H2 => v = .non ∧ Q (.ref y) H2))
    (hdb : (x == ("__debug__" : Str)) = false) (hcd : (x == ("__classdict__" : Str)) = false) (he : starEach (e :: es) X.env = (false, eval e X.env) :: starEach es X.env) (hpl : (backTo pos (starEach es X.env)).any (·.1) = false) : WE X (.Call (.Name x p) (e :: es) [] pos) σ H Q := fun pins s I => by
  refine wpAny_Call_Name_kw (thn ((pe_var (pos := p) hN hv hdb hcd).run pins s σ H (fun v H1 => v = .ref C ∧ H1 = H) I ⟨.ref C, hs, rfl, rfl⟩) fun u s1 ⟨v, H1, I1, r1, q1⟩ => ?_)
  obtain ⟨rfl, rfl⟩ := q1
  cases r1
  exact PySem.W.callWith_K (h₀ := X.base) I.ok.mod.kin M.kp (thn (h pos pins s1 I1) fun us s2 ⟨vs, H2, I2, r, q⟩ => ⟨I2.kIn, run_gmake M F hr hG hb hd I2 r q⟩) he hpl
end
end DL

set_option Elab.async false
set_option linter.all false
set_option maxRecDepth 100000
set_option maxHeartbeats 2000000
/-! the law's own call, of a def whose promise asks that the guards are known -/
namespace DL
open PySem PySem.Spec PyProof.Rows L2
/-- what is tracked when the law is called: the script alone, and that only where it is no object of the module -/
def given (K : PySem.W.Frag) (a : Addr) (o : Obj) (ns : List Int) : Hp := fun b => if b = a ∧ K.lookup a = none then some (.frz o (.lst (ns.map V.int))) else none
theorem given_is {K : PySem.W.Frag} {a b : Addr} {o : Obj} {ns : List Int} {u : HO} (h : given K a o ns b = some u) : b = a ∧ K.lookup a = none ∧ u = .frz o (.lst (ns.map V.int)) := by
  unfold given at h
  by_cases c : b = a ∧ K.lookup a = none
  · rw [if_pos c] at h
    exact ⟨c.1, c.2, (Option.some.inj h).symm⟩
  · rw [if_neg c] at h
    cases h
theorem law_gn {P : Program} {w : World} {K : PySem.W.Frag} {mg mb : Str → Option Value} {k : Nat} {fa a : Addr} {fd : FuncData} {x : Str} {sp : SpG} {t : Shared} {vs : List Value} {ns : List Int}
    (kin : K.In t.heap) (glob : t.heap.Ns mainGlobals mg) (bl : t.heap.Ns builtinsNs mb) (boot : ∀ x : Str, x ≠ "__name__" → mb x = bootBuiltins x) (lim : t.heap.NoLimit) (gens : t.gens = #[])
    (script : t.heap.get? a = some { cls := .type "list", data := .seq vs.toArray }) (iv : IntsAre vs ns) (len : ns.length ≤ sizeLine) (room : Room k callerA)
    (F : ∀ base : Heap, K.In base → base.Ns mainGlobals mg → GnOk P w K mg base k fa fd [x] sp) (bind : ∀ (s : Shared) (u : Value), BindsTo s fd ⟨[u], []⟩ [(x, u)])
    (q : ∀ H : Hp, SqL K H a (ns.map V.int) → sp [] [.ref a] H fun v _ => v = .bl true) :
    codeAny (model P w) callerA (.call (.ref fa) ⟨[.ref a], []⟩) (fun r s' => r = .ok (.ret (.bool true)) ∧ OldK t.heap s'.heap ∧ s'.os = t.os ∧ AllBare s'.gens) t := by
  have rel : Vals (ns.map V.int) vs := vals_ints iv
  obtain ⟨H, eH⟩ : ∃ H, H = given K a { cls := .type "list", data := .seq vs.toArray } ns := ⟨_, rfl⟩
  have one : ∀ {b : Addr} {u : HO}, H b = some u → b = a ∧ K.lookup a = none ∧ u = .frz { cls := .type "list", data := .seq vs.toArray } (.lst (ns.map V.int)) := fun {b u} e => given_is (by rw [← eH]; exact e)
  -- what is tracked is no dict and nothing of the module
  have untracked : ∀ {b : Addr}, (b = a → K.lookup a = none → False) → H b = none := fun {b} n => by
    cases e : H b with
    | none => rfl
    | some u => exact (n (one e).1 (one e).2.1).elim
  have inBase : ∀ {b : Addr} {o : Obj}, t.heap.get? b = some o → (b = a → K.lookup a = none → False) → (hidT t.heap H).get? b = some o := fun e n => hidT_get e (untracked n)
  have dict : ∀ {b : Addr} {m : Str → Option Value}, t.heap.Ns b m → (hidT t.heap H).Ns b m := fun {b m} ⟨o, es, n, e, d, r⟩ => ⟨o, es, n, inBase e (fun z _ => by
    rw [z, script] at e
    cases e
    exact nomatch (show Data.seq vs.toArray _ = Data.dict es n from d)), d, r⟩
  have kin' : K.In (hidT t.heap H) := fun b o e => inBase (kin b o e) fun z n => by rw [z, n] at e; cases e
  have hold : HOk P w H t.heap := fun b u e => by
    obtain ⟨rfl, _, rfl⟩ := one e
    exact ⟨script, by rw [List.length_map]; exact len, vs, _, rel, script⟩
  have seq : SqL K H a (ns.map V.int) := by
    cases c : K.lookup a with
    | none => exact .inl (.inr ⟨{ cls := .type "list", data := .seq vs.toArray }, by rw [eH]; exact if_pos ⟨rfl, c⟩⟩)
    | some o =>
      have e := kin a o c
      rw [script] at e
      cases e
      exact .inr ⟨_, vs.toArray, _, c, rfl, rfl, rfl, by rw [List.size_toArray, iv.length]; exact len, rel⟩
  have md : Mod K mg (hidT t.heap H) := ⟨kin', dict glob, ⟨mb, dict bl, boot⟩, let ⟨mc, h1, h2⟩ := lim; ⟨mc, dict h1, h2⟩⟩
  have env : Env0 P w K mg (hidT t.heap H) callerA [] t H := ⟨rfl, md, fun b o e => of_hidT e, Nat.le_of_eq (hidT_size _ _), trivial, fun b z => absurd (show b ∈ ([] : List Addr) from z) List.not_mem_nil, hold, .of_eq gens⟩
  refine codeAny_mono ((F _ kin' (dict glob)).run callerA [] [] t H ⟨[.ref a], []⟩ [.ref a] [.ref a] _ room rfl env (bind t (.ref a)) (.cons rfl .nil) (q H seq)) fun r s' back => ?_
  match r, back with
  | .error e, back => exact back.elim
  | .ok (.ret u), ⟨v, H', os, bare, un, hold', ru, ev⟩ =>
    have ev' : v = .bl true := ev
    subst ev'
    obtain rfl : u = Value.bool true := ru
    refine ⟨rfl, OldK.of_keep fun b o e => ?_, os, bare⟩
    cases c : H b with
    | none => exact un.keep b o e c (fun z => absurd (show b ∈ ([] : List Addr) from z) List.not_mem_nil) List.not_mem_nil
    | some u =>
      obtain ⟨rfl, _, rfl⟩ := one c
      have after := (hold' _ _ (un.frzs _ _ _ c)).1
      rw [script] at e
      cases e
      exact after
/-- the goal that the head of an open law leaves, from the law's promise -/
theorem walk_gn {l : PySem.W.OpenLaw} {n k : Nat} {q : Program} {loose : List Str} {XP : (Str → Option Value) → Heap → Prop} {YP : World → Heap → Prop} {d : DefRec} {K : Params → PySem.W.Frag} {sp : World → SpG} {x : Str}
    (hn : l.most = some n) (hn2 : n ≤ sizeLine) (hdf : d.params.defaults = []) (hr : Room k callerA) (hY : ∀ (w : World) (h : Heap), YP w h → (K w.params).In h)
    (F : ∀ (w : World) (mg : Str → Option Value) (fa : Addr) (h : Heap), (K w.params).In h → h.Ns mainGlobals mg → mg d.name = some (.ref fa) →
      ∃ fd : FuncData, (∀ (s : Shared) (u : Value), BindsTo s fd ⟨[u], []⟩ [(x, u)]) ∧ ∀ base : Heap, (K w.params).In base → base.Ns mainGlobals mg → GnOk l.prog w (K w.params) mg base k fa fd [x] (sp w))
    (hsp : ∀ (w : World) (H : Hp) (a : Addr) (ns : List Int), ns.length ≤ n → SqL (K w.params) H a (ns.map V.int) → sp w [] [.ref a] H fun v _ => v = .bl true) :
    PySem.W.WalkO q loose XP YP l.row.toRowW d [] (fun f vs => PySem.call f vs) :=
  Att.attach_call hn hdf fun w s₀ s₁ mg mb fa o pm cd doc a vs ns G Y ho hd hcd hmg hobj hints hlen hg =>
    let ⟨fd, hb, hF⟩ := F w mg fa _ (hY w _ Y) G.T.g hmg
    law_gn (hY w _ Y) G.T.g G.T.b G.T.builtins G.T.nolimit hg hobj hints (Nat.le_trans hlen hn2) hr hF hb fun H hS => hsp w H a ns hlen hS
end DL

set_option Elab.async false
set_option linter.all false
set_option maxRecDepth 100000
set_option maxHeartbeats 2000000
namespace DL
open PySem L2

/-! ### more expressions -/
section
variable {X : Cx} {B : Hp} {S : En} {pos : Pos} {Q : D → Prop} {QB : Bool → Prop} {a b c e : Expr} {es : List Expr}

theorem ed_chain {op op' : CmpOp} (h : ED X B S a fun x => ED X B S b fun y => OD X (compareOp op) x y fun z => ∃ k, z = .bl k ∧ if k = true then ED X B S c fun w => OD X (compareOp op') y w Q else Q (.bl false))
    (hm : lastMarks [op, op'] [b, c] = false := by rfl) : ED X B S (.Compare a [op, op'] [b, c] pos) Q := fun σ W H r R k => by
  refine PE.w (pe_chain wo_op wo_op we_pe we_pe we_pe hm) ?_
  refine h σ W H r _ fun d v W1 H1 s1 ok1 n1 q1 => ?_
  refine q1 σ W1 H1 (r.step s1 ok1) _ fun d2 u W2 H2 s2 ok2 n2 q2 => ?_
  refine q2 v u W2 H2 ok2 (n1.mono s2.I) n2 _ fun d3 z W3 H3 s3 ok3 n3 q3 => ?_
  obtain ⟨t, e, q3⟩ := q3
  subst e
  cases n3
  have k3 := ((k.step s1 ok1).step s2 ok2).step s3 ok3
  refine ⟨t, rfl, ?_⟩
  cases t with
  | false => exact iteF (k3.now ok3 (.bl false) (by simpa using q3))
  | true =>
    have q3 : ED X B S c fun w => OD X (compareOp op') d2 w Q := by simpa using q3
    refine iteT (q3 σ W3 H3 (((r.step s1 ok1).step s2 ok2).step s3 ok3) _ fun d4 w' W4 H4 s4 ok4 n4 q4 => ?_)
    exact q4 u w' W4 H4 ok4 ((n2.mono s3.I).mono s4.I) n4 R (k3.step s4 ok4)
theorem ed_one {op} (h : ED X B S a Q) : ED X B S (.BoolOp op [a] pos) Q := fun σ W H r R k => PE.w (pe_one we_pe) (h σ W H r R k)
theorem ed_and {rest : List Expr} (h : ED X B S a fun x => ∃ k, x = .bl k ∧ if k = true then ED X B S (.BoolOp .And (b :: rest) pos) Q else Q (.bl false)) : ED X B S (.BoolOp .And (a :: b :: rest) pos) Q := fun σ W H r R k => by
  refine PE.w (pe_and we_pe we_pe) ?_
  refine h σ W H r _ fun d v W1 H1 s1 ok1 n1 q1 => ?_
  obtain ⟨t, e, q1⟩ := q1
  subst e
  cases n1
  refine ⟨t, rfl, ?_⟩
  cases t with
  | false => exact iteF ((k.step s1 ok1).now ok1 (.bl false) (by simpa using q1))
  | true => exact iteT ((show ED X B S (.BoolOp .And (b :: rest) pos) Q by simpa using q1) σ W1 H1 (r.step s1 ok1) R (k.step s1 ok1))
theorem ed_or {rest : List Expr} (h : ED X B S a fun x => ∃ k, x = .bl k ∧ if k = true then Q (.bl true) else ED X B S (.BoolOp .Or (b :: rest) pos) Q) : ED X B S (.BoolOp .Or (a :: b :: rest) pos) Q := fun σ W H r R k => by
  refine PE.w (pe_or we_pe we_pe) ?_
  refine h σ W H r _ fun d v W1 H1 s1 ok1 n1 q1 => ?_
  obtain ⟨t, e, q1⟩ := q1
  subst e
  cases n1
  refine ⟨t, rfl, ?_⟩
  cases t with
  | true => exact iteT ((k.step s1 ok1).now ok1 (.bl true) (by simpa using q1))
  | false => exact iteF ((show ED X B S (.BoolOp .Or (b :: rest) pos) Q by simpa using q1) σ W1 H1 (r.step s1 ok1) R (k.step s1 ok1))
theorem ed_not (h : ED X B S a fun x => ∃ k, x = .bl k ∧ Q (.bl (!k))) : ED X B S (.UnaryOp .Not a pos) Q := fun σ W H r R k => by
  refine PE.w (pe_not we_pe) ?_
  refine h σ W H r _ fun d v W1 H1 s1 ok1 n1 q1 => ?_
  obtain ⟨t, e, q1⟩ := q1
  subst e
  cases n1
  exact ⟨t, rfl, (k.step s1 ok1).now ok1 (.bl _) q1⟩
theorem ed_ifx (h : TD X B S c fun k => if k = true then ED X B S a Q else ED X B S b Q) : ED X B S (.IfExp c a b pos) Q := fun σ W H r R k => by
  refine PE.w (pe_ifExp wt_pt we_pe we_pe) ?_
  refine h σ W H r _ fun t W1 H1 s1 ok1 q1 => ?_
  cases t with
  | true => exact iteT ((show ED X B S a Q by simpa using q1) σ W1 H1 (r.step s1 ok1) R (k.step s1 ok1))
  | false => exact iteF ((show ED X B S b Q by simpa using q1) σ W1 H1 (r.step s1 ok1) R (k.step s1 ok1))
theorem ed_neg (h : ED X B S a fun x => ∃ i, x = .int i ∧ Q (.int (-i))) : ED X B S (.UnaryOp .USub a pos) Q := fun σ W H r R k => by
  refine PE.w (pe_un un_neg we_pe) ?_
  refine h σ W H r _ fun d v W1 H1 s1 ok1 n1 q1 => ?_
  obtain ⟨i, e, q1⟩ := q1
  subst e
  cases n1
  exact ⟨i, rfl, (k.step s1 ok1).now ok1 (.int _) q1⟩

/-! ### tests -/
theorem td_val (h : ED X B S e fun x => ∃ k, x = .bl k ∧ QB k) (he : ∀ whole, isTrue e X.env whole = (do let v ← whole; standAt e.pos; holding [v] (truthy v)) := by intro _; rfl) : TD X B S e QB := fun σ W H r R k => by
  refine PT.w (pt_val we_pe he) ?_
  refine h σ W H r _ fun d v W1 H1 s1 ok1 n1 q1 => ?_
  obtain ⟨t, e, q1⟩ := q1
  subst e
  cases n1
  exact ⟨t, rfl, (k.step s1 ok1).now ok1 q1⟩
theorem td_cmp {op : CmpOp} (h : ED X B S a fun x => ED X B S b fun y => OD X (compareOp op) x y fun z => ∃ k, z = .bl k ∧ QB k) (hm : behindInMarks op b = false := by first | exact nomark _ | rfl) : TD X B S (.Compare a [op] [b] pos) QB := fun σ W H r R k => by
  refine PT.w (pt_cmpR wo_op we_pe we_pe hm) ?_
  refine h σ W H r _ fun d v W1 H1 s1 ok1 n1 q1 => ?_
  refine q1 σ W1 H1 (r.step s1 ok1) _ fun d2 u W2 H2 s2 ok2 n2 q2 => ?_
  refine q2 v u W2 H2 ok2 (n1.mono s2.I) n2 _ fun d3 z W3 H3 s3 ok3 n3 q3 => ?_
  obtain ⟨t, e, q3⟩ := q3
  subst e
  cases n3
  exact ⟨t, rfl, (((k.step s1 ok1).step s2 ok2).step s3 ok3).now ok3 q3⟩
theorem td_of (h : TW X B S e QB) : TD X B S e QB := fun σ W H r R k => PT.w (PW.pt ww_pw) (h σ W H r R k)
theorem tw_and1 (h : TD X B S a QB) : TW X B S (.BoolOp .And [a] pos) QB := fun σ W H r R k => PW.w (pw_and1 wt_pt) (h σ W H r R k)
theorem tw_or1 (h : TD X B S a QB) : TW X B S (.BoolOp .Or [a] pos) QB := fun σ W H r R k => PW.w (pw_or1 wt_pt) (h σ W H r R k)
theorem tw_and {rest : List Expr} (h : TD X B S a fun k => if k = true then TW X B S (.BoolOp .And (b :: rest) pos) QB else QB false) : TW X B S (.BoolOp .And (a :: b :: rest) pos) QB := fun σ W H r R k => by
  refine PW.w (pw_and wt_pt ww_pw) ?_
  refine h σ W H r _ fun t W1 H1 s1 ok1 q1 => ?_
  cases t with
  | false => exact iteF ((k.step s1 ok1).now ok1 (by simpa using q1))
  | true => exact iteT ((show TW X B S (.BoolOp .And (b :: rest) pos) QB by simpa using q1) σ W1 H1 (r.step s1 ok1) R (k.step s1 ok1))
theorem tw_or {rest : List Expr} (h : TD X B S a fun k => if k = true then QB true else TW X B S (.BoolOp .Or (b :: rest) pos) QB) : TW X B S (.BoolOp .Or (a :: b :: rest) pos) QB := fun σ W H r R k => by
  refine PW.w (pw_or wt_pt ww_pw) ?_
  refine h σ W H r _ fun t W1 H1 s1 ok1 q1 => ?_
  cases t with
  | true => exact iteT ((k.step s1 ok1).now ok1 (by simpa using q1))
  | false => exact iteF ((show TW X B S (.BoolOp .Or (b :: rest) pos) QB by simpa using q1) σ W1 H1 (r.step s1 ok1) R (k.step s1 ok1))
theorem td_not (h : TD X B S a fun k => QB (!k)) : TD X B S (.UnaryOp .Not a pos) QB := fun σ W H r R k => by
  refine PT.w (pt_not wt_pt) ?_
  exact h σ W H r _ fun t W1 H1 s1 ok1 q1 => (k.step s1 ok1).now ok1 q1
/-- the truth of a datum -/
def Tru : D → Bool → Prop
  | .non, k => k = false
  | .bl b, k => k = b
  | .int i, k => k = (i != 0)
  | .str y, k => y.length ≤ sizeLine ∧ k = ((y.length : Int) != 0)
  | .lst l, k => k = !l.isEmpty
  | .tup l, k => k = !l.isEmpty
  | _, _ => False
theorem Dns.isEmpty {K : PySem.W.Frag} {I : Hp} {l : List D} {xs : List V} (h : Dns K I l xs) : l.isEmpty = xs.isEmpty := by
  cases h <;> rfl
theorem td_truth (h : ED X B S e fun x => ∃ k, Tru x k ∧ QB k) (he : ∀ whole, isTrue e X.env whole = (do let v ← whole; standAt e.pos; holding [v] (truthy v)) := by intro _; rfl) : TD X B S e QB := fun σ W H r R k => by
  refine PT.w (pt_truth we_pe he) ?_
  refine h σ W H r _ fun d v W1 H1 s1 ok1 n1 q1 => ?_
  obtain ⟨t, tr, q1⟩ := q1
  refine ⟨t, ?_, (k.step s1 ok1).now ok1 q1⟩
  cases n1 with
  | non => exact tr
  | bl _ => exact tr
  | int _ => exact tr
  | str _ => exact tr
  | ty _ => exact tr
  | cls _ => exact tr.elim
  | tup h z => exact .inr (.inl ⟨_, SqT.of (ok1.ex _ _ h), by rw [← z.isEmpty]; exact tr⟩)
  | lst h z => exact .inl ⟨_, SqL.of (ok1.ex _ _ h), by rw [← z.isEmpty]; exact tr⟩
  | frl h => exact tr.elim
  | obj _ _ => exact tr.elim
  | dct _ => exact tr.elim

/-! ### arguments -/
theorem ad_nil {Q : List Sl → Prop} (q : Q []) : AD X B S [] Q := fun σ W H r R k => PA.w pa_nil (k [] [] W H Stp.refl r.ok .nil q)
theorem ad_cons {Q : List Sl → Prop} (h : ED X B S e fun d => AD X B S es fun as => Q (.val d :: as)) (hs : starEach (e :: es) X.env = (false, eval e X.env) :: starEach es X.env := by rfl) : AD X B S (e :: es) Q := fun σ W H r R k => by
  refine PA.w (pa_cons we_pe wa_pa hs) ?_
  refine h σ W H r _ fun d v W1 H1 s1 ok1 n1 q1 => ?_
  refine q1 σ W1 H1 (r.step s1 ok1) _ fun as vs W2 H2 s2 ok2 n2 q2 => ?_
  exact k _ _ W2 H2 (s1.trans ok1 s2) ok2 (.cons (show Arg X.K W2 (.val d) v from n1.mono s2.I) n2) q2
theorem ad_pot {Q : List Sl → Prop} {x : Str} (i : Nat) (hN : X.N[i]? = some x) (h : S[i]? = some (some .pot)) (q : AD X B S es fun as => Q (.pot :: as)) (hv : Vis X.env.scope x := by first | exact Or.inl rfl | exact Or.inr (Or.inl rfl) | exact Or.inr (Or.inr rfl))
    (hd : (x == ("__debug__" : Str)) = false := by decide) (hcd : (x == ("__classdict__" : Str)) = false := by decide) (hs : starEach (.Name x pos :: es) X.env = (false, eval (.Name x pos) X.env) :: starEach es X.env := by rfl) : AD X B S (.Name x pos :: es) Q := fun σ W H r R k => by
  refine PA.w (pa_cons (pe_var hN hv hd hcd) wa_pa hs) ?_
  obtain ⟨v, e, p, ev, hp⟩ := r.sl i _ h
  refine ⟨v, e, ?_⟩
  refine q σ W H r _ fun as vs W2 H2 s2 ok2 n2 q2 => ?_
  exact k _ _ W2 H2 s2 ok2 (.cons (show Arg X.K W2 .pot v from ⟨p, ev, s2.P p hp⟩) n2) q2

/-! ### displays, items -/
theorem Args.vals {K : PySem.W.Frag} {W : Wd} : ∀ {ds : List D} {vs : List V}, Args K W (ds.map Sl.val) vs → Dns K W.I ds vs
  | [], _, .nil => .nil
  | _ :: _, _, .cons h r => .cons h (Args.vals r)
theorem ed_tup {k0} (h : AD X B S es fun as => ∃ ds, as = ds.map Sl.val ∧ ds.length ≤ 100000 ∧ Q (.tup ds)) : ED X B S (.Tuple es k0 pos) Q := fun σ W H r R k => by
  refine PE.w (pe_tup wa_pa) ?_
  refine h σ W H r _ fun as vs W1 H1 s1 ok1 n1 q1 => ?_
  obtain ⟨ds, rfl, hl, q1⟩ := q1
  have n := n1.vals
  refine ⟨Nat.le_trans (n.length ▸ hl) (by decide), fun p hp => ?_⟩
  have st := Stp.new (o := .tup vs) ok1 hp
  exact k (.tup ds) (.ref p) _ _ (s1.trans ok1 st) (ok1.new hp) (.tup (show upd W1.I p _ p = _ from upd_same) (n.mono st.I)) q1
theorem ed_lst (h : AD X B S es fun as => ∃ ds, as = ds.map Sl.val ∧ ds.length ≤ 100000 ∧ Q (.lst ds)) : ED X B S (.List es pos) Q := fun σ W H r R k => by
  refine PE.w (pe_lst wa_pa) ?_
  refine h σ W H r _ fun as vs W1 H1 s1 ok1 n1 q1 => ?_
  obtain ⟨ds, rfl, hl, q1⟩ := q1
  have n := n1.vals
  refine ⟨Nat.le_trans (n.length ▸ hl) (by decide), fun p hp => ?_⟩
  have st := Stp.new (o := .lst vs) ok1 hp
  exact k (.lst ds) (.ref p) _ _ (s1.trans ok1 st) (ok1.new hp) (.lst (show upd W1.I p _ p = _ from upd_same) (n.mono st.I)) q1
theorem Dns.at {K : PySem.W.Frag} {I : Hp} {l : List D} {xs : List V} {i : Int} {d : D} (h : Dns K I l xs) (e : atI l i = some d) : ∃ v, atI xs i = some v ∧ Dn K I d v := by
  unfold atI at e ⊢
  rw [← h.length]
  cases q : ixN l.length i with
  | none => rw [q] at e; cases e
  | some j =>
    rw [q, Option.bind_some] at e
    obtain ⟨v, h1, h2⟩ := h.get' e
    exact ⟨v, h1, h2⟩
theorem od_ixL {l : List D} {i : Int} {d : D} {σ : L2.St} {W : Wd} {H : Hp} {R : VK} {v u : V} (ok : Ok (gOf X) W H) (h1 : Dn X.K W.I (.lst l) v) (h2 : Dn X.K W.I (.int i) u) (e : atI l i = some d) (q : Q d) (k : Cont X.K (gOf X) W H Q R) : rIxL X.K v u H R := by
  cases h1 with
  | lst h z =>
    cases h2
    obtain ⟨v, e1, n⟩ := z.at e
    exact ⟨_, _, i, v, rfl, rfl, SqL.of (ok.ex _ _ h), e1, k.now ok n q⟩
/-- x[i] of a list, of a tuple -/
theorem ed_ix (h : ED X B S a fun x => ED X B S b fun y => ∃ l i d, (x = .lst l ∨ x = .tup l) ∧ y = .int i ∧ atI l i = some d ∧ Q d) (hs : PlainIx b := by exact fun _ _ => rfl) : ED X B S (.Subscript a b pos) Q := fun σ W H r R k => by
  refine PE.w (pe_ix ix_seq we_pe we_pe hs) ?_
  refine h σ W H r _ fun d v W1 H1 s1 ok1 n1 q1 => ?_
  refine q1 σ W1 H1 (r.step s1 ok1) _ fun d2 u W2 H2 s2 ok2 n2 q2 => ?_
  obtain ⟨l, i, d3, hx, rfl, e, q⟩ := q2
  have k2 := (k.step s1 ok1).step s2 ok2
  have n1' := n1.mono s2.I
  rcases hx with rfl | rfl
  · exact .inl (od_ixL (σ := σ) ok2 n1' n2 e q k2)
  · cases n1' with
    | tup h z =>
      cases n2
      obtain ⟨v, e1, n⟩ := z.at e
      exact .inr (.inl ⟨_, _, i, v, rfl, rfl, SqT.of (ok2.ex _ _ h), e1, k2.now ok2 n q⟩)
/-- p[0], p[1] of a pot: some int -/
theorem ed_potix {x : Str} {px : Pos} {j : Nat} {j2 pos2} (i : Nat) (hN : X.N[i]? = some x) (h : S[i]? = some (some .pot)) (hj : j < 2) (q : ∀ z : Int, (j = 1 → 0 ≤ z ∧ z < 2 ^ 31) → Q (.int z)) (hv : Vis X.env.scope x := by first | exact Or.inl rfl | exact Or.inr (Or.inl rfl) | exact Or.inr (Or.inr rfl))
    (hd : (x == ("__debug__" : Str)) = false := by decide) (hcd : (x == ("__classdict__" : Str)) = false := by decide) : ED X B S (.Subscript (.Name x px) (.Constant (.int (j : Int)) j2 pos2) pos) Q := fun σ W H r R k => by
  refine PE.w (pe_ix ix_list (pe_var hN hv hd hcd) pe_int (fun _ _ => rfl)) ?_
  obtain ⟨v, e, p, ev, hp⟩ := r.sl i _ h
  subst ev
  obtain ⟨n, y, z, hH, hb⟩ := r.ok.pot p hp
  refine ⟨_, e, p, _, (j : Int), if j = 0 then .int y else .int z, rfl, rfl, SqL.of hH, ?_, ?_⟩
  · match j, hj with
    | 0, _ => exact atI_nat (j := 0) rfl
    | 1, _ => exact atI_nat (j := 1) rfl
  · match j, hj with
    | 0, _ => exact k.now r.ok (.int y) (q y fun z => absurd z (by decide))
    | 1, _ => exact k.now r.ok (.int z) (q z fun _ => hb)
end

/-! ### what a def promises, on data -/
abbrev SpD := List Sl → (D → Prop) → Prop
def lift (K : PySem.W.Frag) (sp : SpD) : SpG := fun g vs H R => ∃ as W Q, Ok g W H ∧ Args K W as vs ∧ sp as Q ∧ Cont K g W H Q R
/-- the def that the module calls x: its level, its parameters, its promise -/
structure Df (P : Program) (w : World) (K : PySem.W.Frag) (mg : Str → Option Value) (base : Heap) (x : Str) (k : Nat) (n : Nat) (sp : SpD) : Prop where
  ex : ∃ f fd ps, GnOk P w K mg base k f fd ps (lift K sp) ∧ mg x = some (.ref f) ∧ PySem.W.keepIn K (.ref f) = true ∧ Binds K fd ps [] ∧ ps.length = n
section
variable {X : Cx} {B : Hp} {S : En} {pos p : Pos} {Q : D → Prop} {e : Expr} {es : List Expr} {x : Str} {k n : Nat} {sp : SpD}
theorem ed_call (F : Df X.prog X.w X.K X.mg X.base x k n sp) (hr : Room k X.A) (hG : X.A.guards = some (gOf X)) (h : AD X B S (e :: es) fun as => sp as Q) (hg : Gl X x := by rfl) (hdb : (x == ("__debug__" : Str)) = false := by decide)
    (he : starEach (e :: es) X.env = (false, eval e X.env) :: starEach es X.env := by rfl) (hpl : (backTo pos (starEach es X.env)).any (·.1) = false := by rfl) : ED X B S (.Call (.Name x p) (e :: es) [] pos) Q := fun σ W H r R c => by
  obtain ⟨f, fd, ps, F, hm, hk, hb, _⟩ := F.ex
  refine we_call F hr hG hg hm hk hb .nil ?_ hdb he hpl
  refine h σ W H r _ fun as vs W1 H1 s1 ok1 n1 q1 => ?_
  rw [List.append_nil]
  exact ⟨as, W1, Q, ok1, n1, q1, c.step s1 ok1⟩
/-- a call of a value on data -/
def CD (X : Cx) (f : Value) (as : List Sl) (Q : D → Prop) : Prop := ∀ vs W H, Ok (gOf X) W H → Args X.K W as vs → ∀ R, Cont X.K (gOf X) W H Q R → ∀ pins s σ us, Inv X pins σ H s → Vals vs us → wpAny (model X.prog X.w) X.A (call f us) (EP X pins σ R) X.xe s
def WC (X : Cx) (f : Value) : List V → Hp → VK → Prop := fun vs H R => ∀ pins s σ us, Inv X pins σ H s → Vals vs us → wpAny (model X.prog X.w) X.A (call f us) (EP X pins σ R) X.xe s
theorem wc_call {f : Value} : CallR X f (WC X f) := fun pins s σ _ _ us _ I r h => h pins s σ us I r
theorem cd_of {f : Value} {r : List V → Hp → VK → Prop} {as : List Sl} (hc : CallR X f r) (h : ∀ vs W H, Ok (gOf X) W H → Args X.K W as vs → ∀ R, Cont X.K (gOf X) W H Q R → r vs H R) : CD X f as Q := fun vs W H ok ha R c pins s σ us I rv =>
  hc pins s σ H vs us R I rv (h vs W H ok ha R c)
theorem ed_callB {id : String} (hm : X.mg x = none) (h : AD X B S (e :: es) fun as => CD X (.builtin id) as Q) (hv : bootBuiltins x = some (.builtin id) := by first | rfl | decide +kernel) (hg : Gl X x := by rfl) (hn : x ≠ "__name__" := by decide) (hdb : (x == ("__debug__" : Str)) = false := by decide)
    (he : starEach (e :: es) X.env = (false, eval e X.env) :: starEach es X.env := by rfl) (hpl : (backTo pos (starEach es X.env)).any (·.1) = false := by rfl) : ED X B S (.Call (.Name x p) (e :: es) [] pos) Q := fun σ W H r R c => by
  refine PE.w (pe_callB wc_call hg hm hv wa_pa hn hdb he hpl) ?_
  refine h σ W H r _ fun as vs W1 H1 s1 ok1 n1 q1 => ?_
  exact q1 vs W1 H1 ok1 n1 R (c.step s1 ok1)
theorem ed_callTy {T : String} (hm : X.mg x = none) (h : AD X B S (e :: es) fun as => CD X (.type T) as Q) (hv : bootBuiltins x = some (.type T) := by first | rfl | decide +kernel) (hg : Gl X x := by rfl) (hn : x ≠ "__name__" := by decide) (hdb : (x == ("__debug__" : Str)) = false := by decide)
    (he : starEach (e :: es) X.env = (false, eval e X.env) :: starEach es X.env := by rfl) (hpl : (backTo pos (starEach es X.env)).any (·.1) = false := by rfl) : ED X B S (.Call (.Name x p) (e :: es) [] pos) Q := fun σ W H r R c => by
  refine PE.w (pe_callTy wc_call hg hm hv wa_pa hn hdb he hpl) ?_
  refine h σ W H r _ fun as vs W1 H1 s1 ok1 n1 q1 => ?_
  exact q1 vs W1 H1 ok1 n1 R (c.step s1 ok1)
/-- a built-in function that the module imported -/
theorem one_arg {K : PySem.W.Frag} {W : Wd} {d : D} {vs : List V} (h : Args K W [.val d] vs) : ∃ v, vs = [v] ∧ Dn K W.I d v := by
  cases h with
  | cons h r => cases r; exact ⟨_, rfl, h⟩
theorem two_args {K : PySem.W.Frag} {W : Wd} {d d' : D} {vs : List V} (h : Args K W [.val d, .val d'] vs) : ∃ v u, vs = [v, u] ∧ Dn K W.I d v ∧ Dn K W.I d' u := by
  cases h with
  | cons h r => cases r with
    | cons h' r' => cases r'; exact ⟨_, _, rfl, h, h'⟩
theorem cd_abs {i : Int} (q : Q (.int (if i < 0 then -i else i))) : CD X (.builtin "abs") [.val (.int i)] Q := cd_of call_abs fun vs W H ok ha R c => by
  obtain ⟨v, rfl, h⟩ := one_arg ha
  cases h
  exact ⟨i, rfl, c.now ok (.int _) q⟩
theorem cd_int {i : Int} (q : Q (.int i)) : CD X (.type "int") [.val (.int i)] Q := cd_of call_int1 fun vs W H ok ha R c => by
  obtain ⟨v, rfl, h⟩ := one_arg ha
  cases h
  exact .inl ⟨i, rfl, c.now ok (.int _) q⟩
theorem cd_max {i j : Int} (hc : X.calm = true) (q : Q (.int (if j > i then j else i))) : CD X (.builtin "max") [.val (.int i), .val (.int j)] Q := cd_of (call_max2 hc) fun vs W H ok ha R c => by
  obtain ⟨v, u, rfl, h, h'⟩ := two_args ha
  cases h; cases h'
  exact ⟨i, j, rfl, c.now ok (.int _) q⟩
theorem cd_str {i : Int} (hi : i.natAbs.log2 < 1920) (q : Q (.str (toString i))) : CD X (.type "str") [.val (.int i)] Q := cd_of call_str_int fun vs W H ok ha R c => by
  obtain ⟨v, rfl, h⟩ := one_arg ha
  cases h
  exact ⟨i, rfl, hi, c.now ok (.str _) q⟩
theorem cd_divmod {i j : Int} (hj : CDiv i j) (q : Q (.tup [.int (i / j), .int (i % j)])) : CD X (.builtin "divmod") [.val (.int i), .val (.int j)] Q := cd_of call_divmod fun vs W H ok ha R c => by
  obtain ⟨v, u, rfl, h, h'⟩ := two_args ha
  cases h; cases h'
  refine ⟨i, j, rfl, hj, fun p hp => ?_⟩
  have st := Stp.new (o := .tup [.int (i / j), .int (i % j)]) ok hp
  exact c _ _ _ _ st (ok.new hp) (.tup (show upd W.I p _ p = _ from upd_same) (.cons (.int _) (.cons (.int _) .nil))) q
theorem cd_len {x : D} {l : List D} (hx : x = .lst l ∨ x = .tup l) (q : Q (.int (l.length : Int))) : CD X (.builtin "len") [.val x] Q := cd_of call_len_seq fun vs W H ok ha R c => by
  obtain ⟨v, rfl, h⟩ := one_arg ha
  rcases hx with rfl | rfl
  · cases h with
    | lst h z => exact ⟨_, _, rfl, .inl (SqL.of (ok.ex _ _ h)), by rw [← z.length]; exact c.now ok (.int _) q⟩
  · cases h with
    | tup h z => exact ⟨_, _, rfl, .inr (SqT.of (ok.ex _ _ h)), by rw [← z.length]; exact c.now ok (.int _) q⟩
theorem cd_lenF {l : List Int} (q : Q (.int (l.length : Int))) : CD X (.builtin "len") [.val (.frl l)] Q := cd_of call_len_seq fun vs W H ok ha R c => by
  obtain ⟨v, rfl, h⟩ := one_arg ha
  cases h with
  | frl h => exact ⟨_, _, rfl, .inl (ok.ex.l h), by rw [List.length_map]; exact c.now ok (.int _) q⟩
end
end DL

set_option Elab.async false
set_option linter.all false
set_option maxRecDepth 100000
set_option maxHeartbeats 2000000
namespace DL
open PySem L2

/-! ### statements -/
structure Ends' where
  nx : En → Prop
  rt : D → Prop
  bk : En → Prop := fun _ => False
  ct : En → Prop := fun _ => False
structure Sub (K : PySem.W.Frag) (g : List Code) (B : Hp) (W0 : Wd) (I : Hp) (E : Ends') (D' : Ends) : Prop where
  nx : ∀ S σ W H, Rep K g B S σ W H → Stp W0 B W H → Ex I W.I → E.nx S → D'.nx σ H
  rt : ∀ d v W H, Ok g W H → Stp W0 B W H → Ex I W.I → Dn K W.I d v → E.rt d → D'.rt v H
  bk : ∀ S σ W H, Rep K g B S σ W H → Stp W0 B W H → Ex I W.I → E.bk S → D'.bk σ H
  ct : ∀ S σ W H, Rep K g B S σ W H → Stp W0 B W H → Ex I W.I → E.ct S → D'.ct σ H
theorem Sub.mono {K : PySem.W.Frag} {g : List Code} {B : Hp} {W0 : Wd} {I I' : Hp} {E : Ends'} {D' : Ends} (k : Sub K g B W0 I E D') (e : Ex I I') : Sub K g B W0 I' E D' :=
  ⟨fun S σ W H r z x => k.nx S σ W H r z (e.trans x), fun d v W H r z x => k.rt d v W H r z (e.trans x), fun S σ W H r z x => k.bk S σ W H r z (e.trans x), fun S σ W H r z x => k.ct S σ W H r z (e.trans x)⟩
def WG (X : Cx) (tg : Expr) : TG := fun v σ H Q => ∀ pins s u, Inv X pins σ H s → RelV v u → wpAny (model X.prog X.w) X.A (assign tg X.env u) (fun _ s' => ∃ σ' H', Inv X pins σ' H' s' ∧ Q σ' H') X.xe s
def WGs (X : Cx) (ts : List Expr) : TGs := fun vs σ H Q => ∀ pins s us, Inv X pins σ H s → Vals vs us → wpAny (model X.prog X.w) X.A (assignInOrder ((assignEach ts X.env).map (·.2)) us) (fun _ s' => ∃ σ' H', Inv X pins σ' H' s' ∧ Q σ' H') X.xe s
theorem wg_pg {X : Cx} {tg : Expr} : PG X tg (WG X tg) := ⟨fun pins s _ _ _ u _ I r h => h pins s u I r⟩
theorem wgs_pgs {X : Cx} {ts : List Expr} : PGs X ts (WGs X ts) := ⟨fun pins s _ _ _ us _ I r h => h pins s us I r⟩
theorem PG.w {X : Cx} {tg : Expr} {t : TG} (h : PG X tg t) {v : V} {σ : L2.St} {H : Hp} {Q : L2.St → Hp → Prop} (q : t v σ H Q) : WG X tg v σ H Q := fun pins s u I r => h.run pins s σ H v u Q I r q
theorem PGs.w {X : Cx} {ts : List Expr} {t : TGs} (h : PGs X ts t) {vs : List V} {σ : L2.St} {H : Hp} {Q : L2.St → Hp → Prop} (q : t vs σ H Q) : WGs X ts vs σ H Q := fun pins s us I r => h.run pins s σ H vs us Q I r q
section
variable (X : Cx) (B : Hp) (W0 : Wd) (S : En)
def SD (st : Stmt) (E : Ends') : Prop := ∀ σ W H, Rep X.K (gOf X) B S σ W H → Stp W0 B W H → ∀ D', Sub X.K (gOf X) B W0 W.I E D' → WS X st D' σ H
def SDs (sts : List Stmt) (E : Ends') : Prop := ∀ σ W H, Rep X.K (gOf X) B S σ W H → Stp W0 B W H → ∀ D', Sub X.K (gOf X) B W0 W.I E D' → WSs X sts D' σ H
def ContG (K : PySem.W.Frag) (g : List Code) (I : Hp) (Q : En → Prop) (R : L2.St → Hp → Prop) : Prop := ∀ S σ W H, Rep K g B S σ W H → Stp W0 B W H → Ex I W.I → Q S → R σ H
def GD (tg : Expr) (d : D) (Q : En → Prop) : Prop := ∀ σ W H v, Rep X.K (gOf X) B S σ W H → Stp W0 B W H → Dn X.K W.I d v → ∀ R, ContG B W0 X.K (gOf X) W.I Q R → WG X tg v σ H R
def GDs (ts : List Expr) (ds : List D) (Q : En → Prop) : Prop := ∀ σ W H vs, Rep X.K (gOf X) B S σ W H → Stp W0 B W H → Dns X.K W.I ds vs → ∀ R, ContG B W0 X.K (gOf X) W.I Q R → WGs X ts vs σ H R
end
section
variable {X : Cx} {B : Hp} {W0 : Wd} {S : En} {st : Stmt} {sts : List Stmt} {E : Ends'} {pos : Pos} {e a b : Expr} {Q : En → Prop}

/-! targets -/
theorem gd_name {x : Str} {d : D} (i : Nat) (hN : X.N.Nodup) (hi : X.N[i]? = some x) (q : Q (S.set i (some (.val d)))) (hx : Loc X.env.scope x := by first | exact Or.inl rfl | exact Or.inr rfl)
    (hf : X.fn x = true ∨ X.env.scope.names.lookup x = some .local := by first | exact .inl rfl | exact .inr rfl) : GD X B W0 S (.Name x pos) d Q := fun σ W H v r z n R k =>
  PG.w (pg_name hN hi hx hf) (k _ _ W H (r.set n) z (Ex.refl _) q)
theorem gds_nil (q : Q S) : GDs X B W0 S [] [] Q := fun σ W H vs r z n R k => by
  cases n
  exact PGs.w pgs_nil ⟨rfl, k _ _ W H r z (Ex.refl _) q⟩
theorem gds_cons {tg : Expr} {ts : List Expr} {d : D} {ds : List D} (h : GD X B W0 S tg d fun S' => GDs X B W0 S' ts ds Q) (hs : (assignEach (tg :: ts) X.env).map (·.2) = assign tg X.env :: (assignEach ts X.env).map (·.2) := by rfl) : GDs X B W0 S (tg :: ts) (d :: ds) Q := fun σ W H vs r z n R k => by
  cases n with
  | @cons _ v _ xs n1 n2 =>
    refine PGs.w (pgs_cons wg_pg wgs_pgs hs) ⟨_, _, rfl, ?_⟩
    exact h σ W H v r z n1 _ fun S' σ' W' H' r' z' e' q' => q' σ' W' H' xs r' z' (n2.mono e') R fun S2 σ2 W2 H2 r2 z2 e2 q2 => k S2 σ2 W2 H2 r2 z2 (e'.trans e2) q2
theorem gd_tup {es : List Expr} {k0 : Nat} {ds : List D} {n : Nat} (hc : X.calm = true) (h : GDs X B W0 S es ds Q) (hl : ds.length = n) (hn : (assignEach es X.env).length = n := by rfl) (hst : (assignEach es X.env).findIdx? (·.1) = none := by rfl) : GD X B W0 S (.Tuple es k0 pos) (.tup ds) Q := fun σ W H v r z m R k => by
  cases m with
  | tup hp m => exact PG.w (pg_tup hc wgs_pgs hn hst) ⟨_, _, rfl, SqT.of (r.ok.ex _ _ hp), by rw [← m.length]; exact hl, h σ W H _ r z m R k⟩
/-- p[j] = an int, p a pot -/
theorem gd_pot {x : Str} {px : Pos} {j : Nat} {j2 pos2} {m : Int} (i : Nat) (hN : X.N[i]? = some x) (h : S[i]? = some (some .pot)) (hj : j < 2) (hm : j = 1 → 0 ≤ m ∧ m < 2 ^ 31) (q : Q S) (hv : Vis X.env.scope x := by first | exact Or.inl rfl | exact Or.inr (Or.inl rfl) | exact Or.inr (Or.inr rfl))
    (hd : (x == ("__debug__" : Str)) = false := by decide) (hcd : (x == ("__classdict__" : Str)) = false := by decide)
    (ha : ∀ v, assign (.Subscript (.Name x px) (.Constant (.int (j : Int)) j2 pos2) pos) X.env v = (do
      let ov ← holding [v] (eval (.Name x px) X.env)
      let iv ← holding [v, ov] (eval (.Constant (.int (j : Int)) j2 pos2) X.env)
      standAt pos
      holding [v, ov, iv] (setItem ov iv v)
      release [v, ov, iv] []) := by intro _; rfl) : GD X B W0 S (.Subscript (.Name x px) (.Constant (.int (j : Int)) j2 pos2) pos) (.int m) Q := fun σ W H v r z n R k => by
  cases n
  obtain ⟨v, e, p, ev, hp⟩ := r.sl i _ h
  subst ev
  obtain ⟨ni, y, w, hH, hbb⟩ := r.ok.pot p hp
  refine PG.w (pg_sub (pe_var hN hv hd hcd) pe_int set_list ha) ⟨_, e, p, _, (j : Int), j, rfl, rfl, hH, ?_, ?_⟩
  · match j, hj with
    | 0, _ => rfl
    | 1, _ => rfl
  · have ht : ∃ y' w', ([V.int y, V.int w].set j (.int m)) = [V.int y', V.int w'] ∧ 0 ≤ w' ∧ w' < 2 ^ 31 := by
      match j, hj with
      | 0, _ => exact ⟨m, w, rfl, hbb⟩
      | 1, _ => exact ⟨y, m, rfl, hm rfl⟩
    obtain ⟨y', w', et, hw'⟩ := ht
    rw [et]
    have pn : ∀ b o, H b = some o → ¬ W.P b → b ≠ p := fun b o _ n z => n (z ▸ hp)
    have ok : Ok (gOf X) W (upd H p (.lst [.int y', .int w'])) := {
      gd := fun b hb => by
        obtain ⟨n1, n2⟩ := r.ok.gd b hb
        refine ⟨n1, ?_⟩
        by_cases q : b = p
        · subst q
          rw [upd_same]
          exact fun z => by cases z
        · rw [upd_ne q]
          exact n2
      ex := fun b o hb => by
        rw [upd_ne (fun z => by rw [z, ni] at hb; cases hb)]
        exact r.ok.ex b o hb
      pot := fun b hb => by
        obtain ⟨nb, y2, w2, h2⟩ := r.ok.pot b hb
        refine ⟨nb, ?_⟩
        by_cases q : b = p
        · subst q
          exact ⟨y', w', upd_same, hw'⟩
        · exact ⟨y2, w2, by rw [upd_ne q]; exact h2⟩ }
    have st : Stp W H W (upd H p (.lst [.int y', .int w'])) := ⟨Ex.refl _, fun _ h => h, fun b o hb n => by rw [upd_ne (pn b o hb n)]; exact hb, fun _ _ _ h => h, fun _ _ _ h => h⟩
    exact k S σ W _ (r.step st ok) (z.trans r.ok st) (Ex.refl _) q

/-! blocks -/
theorem sds_nil (q : E.nx S) : SDs X B W0 S [] E := fun σ W H r z D' k => PSs.w pss_nil (k.nx S σ W H r z (Ex.refl _) q)
theorem sds_cons (h : SD X B W0 S st { E with nx := fun S' => SDs X B W0 S' sts E }) : SDs X B W0 S (st :: sts) E := fun σ W H r z D' k => by
  refine PSs.w (pss_cons ws_ps wss_pss) ?_
  exact h σ W H r z _ ⟨fun S' σ' W' H' r' z' x' q => q σ' W' H' r' z' D' (k.mono x'), k.rt, k.bk, k.ct⟩
theorem sd_ret (h : ED X B S e E.rt) : SD X B W0 S (.Return (some e) pos) E := fun σ W H r z D' k => PS.w (ps_ret we_pe) (h σ W H r _ fun d v W1 H1 s1 ok1 n1 q1 => k.rt d v W1 H1 ok1 (z.trans r.ok s1) s1.I n1 q1)
theorem sd_retN (q : E.rt .non) : SD X B W0 S (.Return none pos) E := fun σ W H r z D' k => PS.w ps_retN (k.rt .non .non W H r.ok z (Ex.refl _) .non q)
theorem sd_pass (q : E.nx S) : SD X B W0 S (.Pass pos) E := fun σ W H r z D' k => PS.w ps_pass (k.nx S σ W H r z (Ex.refl _) q)
theorem sd_break (q : E.bk S) : SD X B W0 S (.Break pos) E := fun σ W H r z D' k => PS.w ps_break (k.bk S σ W H r z (Ex.refl _) q)
theorem sd_cont (q : E.ct S) : SD X B W0 S (.Continue pos) E := fun σ W H r z D' k => PS.w ps_continue (k.ct S σ W H r z (Ex.refl _) q)
theorem sd_expr (h : ED X B S e fun _ => E.nx S) (hs : swapsWith e none pos.line X.env = pure false := by rfl) : SD X B W0 S (.Expr e pos) E := fun σ W H r z D' k =>
  PS.w (ps_expr we_pe hs) (h σ W H r _ fun d v W1 H1 s1 ok1 n1 q1 => k.nx S σ W1 H1 (r.step s1 ok1) (z.trans r.ok s1) s1.I q1)
theorem sd_never (h : False) : SD X B W0 S st E := h.elim
theorem sd_if {c : Expr} {x y : List Stmt} (h : TD X B S c fun t => if t = true then SDs X B W0 S x E else SDs X B W0 S y E) : SD X B W0 S (.If c x y pos) E := fun σ W H r z D' k => by
  refine PS.w (ps_if wt_pt wss_pss wss_pss) ?_
  refine h σ W H r _ fun t W1 H1 s1 ok1 q1 => ?_
  cases t with
  | true => exact iteT ((show SDs X B W0 S x E by simpa using q1) σ W1 H1 (r.step s1 ok1) (z.trans r.ok s1) D' (k.mono s1.I))
  | false => exact iteF ((show SDs X B W0 S y E by simpa using q1) σ W1 H1 (r.step s1 ok1) (z.trans r.ok s1) D' (k.mono s1.I))
theorem sd_set {x : Str} {pos' : Pos} (i : Nat) (hN : X.N.Nodup) (hi : X.N[i]? = some x) (h : ED X B S e fun d => E.nx (S.set i (some (.val d)))) (hx : Loc X.env.scope x := by first | exact Or.inl rfl | exact Or.inr rfl)
    (hs : swapsWith e (some (.Name x pos')) pos.line X.env = pure false := by rfl) (hf : X.fn x = true ∨ X.env.scope.names.lookup x = some .local := by first | exact .inl rfl | exact .inr rfl) : SD X B W0 S (.Assign [.Name x pos'] e pos) E := fun σ W H r z D' k =>
  PS.w (ps_set hN hi hx we_pe hs hf) (h σ W H r _ fun d v W1 H1 s1 ok1 n1 q1 => k.nx _ _ W1 H1 ((r.step s1 ok1).set n1) (z.trans r.ok s1) s1.I q1)
theorem sd_asg {tg : Expr} (h : ED X B S e fun d => GD X B W0 S tg d E.nx) (hs : swapsWithSole [tg] e pos.line X.env = pure false := by rfl) (hw : swappedStores [tg] e X.env = pure none := by rfl)
    (h1 : (assignEach [tg] X.env).map (·.2) = [assign tg X.env] := by rfl) : SD X B W0 S (.Assign [tg] e pos) E := fun σ W H r z D' k =>
  PS.w (ps_asg we_pe wg_pg hs hw h1) (h σ W H r _ fun d v W1 H1 s1 ok1 n1 q1 => q1 σ W1 H1 v (r.step s1 ok1) (z.trans r.ok s1) n1 _ fun S2 σ2 W2 H2 r2 z2 e2 q2 => k.nx S2 σ2 W2 H2 r2 z2 (s1.I.trans e2) q2)
theorem sd_par {x y : Str} {px py pt : Pos} {kt k2 pt2} (i j : Nat) (hc : X.calm = true) (hN : X.N.Nodup) (hi : X.N[i]? = some x) (hj : X.N[j]? = some y) (hij : i ≠ j)
    (hx : X.env.scope.names.lookup x = some .local) (hy : X.env.scope.names.lookup y = some .local) (h : AD X B S [a, b] fun as => ∃ d d', as = [.val d, .val d'] ∧ E.nx ((S.set i (some (.val d))).set j (some (.val d'))))
    (hps : PS X (.Assign [.Tuple [.Name x px, .Name y py] kt pt] (.Tuple [a, b] k2 pt2) pos) (tPar i j (WA X [a, b])) := by exact ps_par rfl (by assumption) rfl rfl (by decide) rfl rfl DL.wa_pa (by rfl)) :
    SD X B W0 S (.Assign [.Tuple [.Name x px, .Name y py] kt pt] (.Tuple [a, b] k2 pt2) pos) E := fun σ W H r z D' k => by
  refine PS.w hps ?_
  refine h σ W H r _ fun as vs W1 H1 s1 ok1 n1 q1 => ?_
  obtain ⟨d, d', rfl, q1⟩ := q1
  obtain ⟨v, u, rfl, m, m'⟩ := two_args n1
  exact ⟨v, u, rfl, k.nx _ _ W1 H1 (((r.step s1 ok1).set m).set m') (z.trans r.ok s1) s1.I q1⟩
/-! loops -/
theorem sd_forL {tg iter : Expr} {body : List Stmt} {l : List D} (hp : PassesOwn (model X.prog X.w) X.A X.env X.xe) (hc : X.calm = true) (Inv : Nat → En → Prop) (h : ED X B S iter fun d => (d = .lst l) ∧ Inv 0 S)
    (hs : ∀ (i : Nat) d S', l[i]? = some d → Inv i S' → GD X B W0 S' tg d fun S2 => SDs X B W0 S2 body { nx := Inv (i + 1), rt := E.rt, bk := E.nx, ct := Inv (i + 1) })
    (hd : ∀ S', Inv l.length S' → E.nx S') (hf : ∀ x, foldedSetIterable iter X.env x = pure x := by intro _; rfl) : SD X B W0 S (.For tg iter body [] pos) E := fun σ W H r z D' k => by
  refine PS.w (ps_for hp hc (pi_list we_pe) wg_pg wss_pss hf) ?_
  refine h σ W H r _ fun d v W1 H1 s1 ok1 n1 q1 => ?_
  obtain ⟨rfl, i0⟩ := q1
  cases n1 with
  | @lst _ a xs ha m =>
    refine ⟨a, rfl, ⟨xs, SqL.of (ok1.ex _ _ ha)⟩, for_list (K := X.K) (a := a) (xs := xs) (fun i σ' H' => ∃ S' W', Rep X.K (gOf X) B S' σ' W' H' ∧ Stp W0 B W' H' ∧ Ex W1.I W'.I ∧ Inv i S') ⟨S, W1, r.step s1 ok1, z.trans r.ok s1, Ex.refl _, i0⟩
      (fun i σ' H' _ ⟨S', W', r', _, e', _⟩ => SqL.of (r'.ok.ex _ _ (e' _ _ ha))) ?_ ?_⟩
    · rintro i x σ' H' hx ⟨S', W', r', z', e', i'⟩
      obtain ⟨d, hd', nd⟩ := m.get hx
      refine hs i d S' hd' i' σ' W' H' x r' z' (nd.mono e') _ fun S2 σ2 W2 H2 r2 z2 e2 q2 => ?_
      exact q2 σ2 W2 H2 r2 z2 _ ⟨fun S3 σ3 W3 H3 r3 z3 e3 q3 => ⟨S3, W3, r3, z3, (e'.trans e2).trans e3, q3⟩, fun d3 v3 W3 H3 r3 z3 e3 n3 q3 => k.rt d3 v3 W3 H3 r3 z3 (((s1.I.trans e').trans e2).trans e3) n3 q3,
        fun S3 σ3 W3 H3 r3 z3 e3 q3 => k.nx S3 σ3 W3 H3 r3 z3 (((s1.I.trans e').trans e2).trans e3) q3, fun S3 σ3 W3 H3 r3 z3 e3 q3 => ⟨S3, W3, r3, z3, (e'.trans e2).trans e3, q3⟩⟩
    · rintro σ' H' ⟨S', W', r', z', e', i'⟩
      rw [← m.length] at i'
      exact k.nx S' σ' W' H' r' z' (s1.I.trans e') (hd S' i')
theorem sd_forT {tg iter : Expr} {body : List Stmt} {l : List D} (hp : PassesOwn (model X.prog X.w) X.A X.env X.xe) (hc : X.calm = true) (Inv : Nat → En → Prop) (h : ED X B S iter fun d => (d = .tup l) ∧ Inv 0 S)
    (hs : ∀ (i : Nat) d S', l[i]? = some d → Inv i S' → GD X B W0 S' tg d fun S2 => SDs X B W0 S2 body { nx := Inv (i + 1), rt := E.rt, bk := E.nx, ct := Inv (i + 1) })
    (hd : ∀ S', Inv l.length S' → E.nx S') (hf : ∀ x, foldedSetIterable iter X.env x = pure x := by intro _; rfl) : SD X B W0 S (.For tg iter body [] pos) E := fun σ W H r z D' k => by
  refine PS.w (ps_for hp hc (pi_tup we_pe) wg_pg wss_pss hf) ?_
  refine h σ W H r _ fun d v W1 H1 s1 ok1 n1 q1 => ?_
  obtain ⟨rfl, i0⟩ := q1
  cases n1 with
  | @tup _ a xs ha m =>
    refine ⟨a, rfl, ⟨xs, SqT.of (ok1.ex _ _ ha)⟩, for_tup (K := X.K) (a := a) (xs := xs) (fun i σ' H' => ∃ S' W', Rep X.K (gOf X) B S' σ' W' H' ∧ Stp W0 B W' H' ∧ Ex W1.I W'.I ∧ Inv i S') ⟨S, W1, r.step s1 ok1, z.trans r.ok s1, Ex.refl _, i0⟩
      (fun i σ' H' _ ⟨S', W', r', _, e', _⟩ => SqT.of (r'.ok.ex _ _ (e' _ _ ha))) ?_ ?_⟩
    · rintro i x σ' H' hx ⟨S', W', r', z', e', i'⟩
      obtain ⟨d, hd', nd⟩ := m.get hx
      refine hs i d S' hd' i' σ' W' H' x r' z' (nd.mono e') _ fun S2 σ2 W2 H2 r2 z2 e2 q2 => ?_
      exact q2 σ2 W2 H2 r2 z2 _ ⟨fun S3 σ3 W3 H3 r3 z3 e3 q3 => ⟨S3, W3, r3, z3, (e'.trans e2).trans e3, q3⟩, fun d3 v3 W3 H3 r3 z3 e3 n3 q3 => k.rt d3 v3 W3 H3 r3 z3 (((s1.I.trans e').trans e2).trans e3) n3 q3,
        fun S3 σ3 W3 H3 r3 z3 e3 q3 => k.nx S3 σ3 W3 H3 r3 z3 (((s1.I.trans e').trans e2).trans e3) q3, fun S3 σ3 W3 H3 r3 z3 e3 q3 => ⟨S3, W3, r3, z3, (e'.trans e2).trans e3, q3⟩⟩
    · rintro σ' H' ⟨S', W', r', z', e', i'⟩
      rw [← m.length] at i'
      exact k.nx S' σ' W' H' r' z' (s1.I.trans e') (hd S' i')
theorem sd_forR {tg : Expr} {p pos1 : Pos} {n : Int} {body : List Stmt} (hp : PassesOwn (model X.prog X.w) X.A X.env X.xe) (hc : X.calm = true) (hm : X.mg "range" = none) (Inv : Nat → En → Prop) (h : AD X B S [e] fun as => as = [.val (.int n)] ∧ n < 2 ^ 62 ∧ -(2 ^ 62) ≤ n ∧ Inv 0 S)
    (hs : ∀ (i : Nat) S', i < n.toNat → Inv i S' → GD X B W0 S' tg (.int i) fun S2 => SDs X B W0 S2 body { nx := Inv (i + 1), rt := E.rt, bk := E.nx, ct := Inv (i + 1) })
    (hd : ∀ S', Inv n.toNat S' → E.nx S') (hg : Gl X "range" := by rfl) (hst : starEach [e] X.env = [(false, eval e X.env)] := by rfl) (hf : ∀ x, foldedSetIterable (.Call (.Name "range" p) [e] [] pos1) X.env x = pure x := by intro _; rfl) : SD X B W0 S (.For tg (.Call (.Name "range" p) [e] [] pos1) body [] pos) E := fun σ W H r z D' k => by
  refine PS.w (ps_for hp hc (pi_range1 hg hm wa_pa hst) wg_pg wss_pss hf) ?_
  refine h σ W H r _ fun as vs W1 H1 s1 ok1 n1 q1 => ?_
  obtain ⟨rfl, hn, hn2, i0⟩ := q1
  obtain ⟨v, rfl, m⟩ := one_arg n1
  cases m
  refine ⟨n, rfl, hn2, hn, for_range (lo := 0) (n := n.toNat) (fun i σ' H' => ∃ S' W', Rep X.K (gOf X) B S' σ' W' H' ∧ Stp W0 B W' H' ∧ Ex W1.I W'.I ∧ Inv i S') ⟨S, W1, r.step s1 ok1, z.trans r.ok s1, Ex.refl _, i0⟩ ?_ ?_⟩
  · rintro i σ' H' hi ⟨S', W', r', z', e', i'⟩
    rw [Int.zero_add]
    refine hs i S' hi i' σ' W' H' _ r' z' (.int _) _ fun S2 σ2 W2 H2 r2 z2 e2 q2 => ?_
    exact q2 σ2 W2 H2 r2 z2 _ ⟨fun S3 σ3 W3 H3 r3 z3 e3 q3 => ⟨S3, W3, r3, z3, (e'.trans e2).trans e3, q3⟩, fun d3 v3 W3 H3 r3 z3 e3 n3 q3 => k.rt d3 v3 W3 H3 r3 z3 (((s1.I.trans e').trans e2).trans e3) n3 q3,
      fun S3 σ3 W3 H3 r3 z3 e3 q3 => k.nx S3 σ3 W3 H3 r3 z3 (((s1.I.trans e').trans e2).trans e3) q3, fun S3 σ3 W3 H3 r3 z3 e3 q3 => ⟨S3, W3, r3, z3, (e'.trans e2).trans e3, q3⟩⟩
  · rintro σ' H' ⟨S', W', r', z', e', i'⟩
    exact k.nx S' σ' W' H' r' z' (s1.I.trans e') (hd S' i')
theorem sd_while {c : Expr} {body : List Stmt} (hp : PassesOwn (model X.prog X.w) X.A X.env X.xe) (Inv : Nat → En → Prop) (m0 : Nat) (h0 : Inv m0 S)
    (hs : ∀ m S', Inv m S' → TD X B S' c fun t => if t = true then SDs X B W0 S' body { nx := fun S2 => ∃ m', m' < m ∧ Inv m' S2, rt := E.rt, bk := E.nx, ct := fun S2 => ∃ m', m' < m ∧ Inv m' S2 } else E.nx S') :
    SD X B W0 S (.While c body [] pos) E := fun σ W H r z D' k => by
  refine PS.w (ps_while hp wt_pt wss_pss) ⟨fun m σ' H' => ∃ S' W', Rep X.K (gOf X) B S' σ' W' H' ∧ Stp W0 B W' H' ∧ Ex W.I W'.I ∧ Inv m S', ⟨m0, S, W, r, z, Ex.refl _, h0⟩, ?_⟩
  rintro m σ1 H1 ⟨S1, W1, r1, z1, e1, i1⟩
  refine hs m S1 i1 σ1 W1 H1 r1 _ fun t W2 H2 s2 ok2 q2 => ?_
  cases t with
  | false => exact iteF (k.nx S1 σ1 W2 H2 (r1.step s2 ok2) (z1.trans r1.ok s2) (e1.trans s2.I) (by simpa using q2))
  | true =>
    have q2 : SDs X B W0 S1 body { nx := fun S2 => ∃ m', m' < m ∧ Inv m' S2, rt := E.rt, bk := E.nx, ct := fun S2 => ∃ m', m' < m ∧ Inv m' S2 } := by simpa using q2
    refine iteT ⟨fun σ' H' => ∃ m', m' < m ∧ ∃ S' W', Rep X.K (gOf X) B S' σ' W' H' ∧ Stp W0 B W' H' ∧ Ex W.I W'.I ∧ Inv m' S', fun σ' H' h => h, ?_⟩
    exact q2 σ1 W2 H2 (r1.step s2 ok2) (z1.trans r1.ok s2) _ ⟨fun S3 σ3 W3 H3 r3 z3 e3 ⟨m', hm, q3⟩ => ⟨m', hm, S3, W3, r3, z3, (e1.trans s2.I).trans e3, q3⟩, fun d3 v3 W3 H3 r3 z3 e3 n3 q3 => k.rt d3 v3 W3 H3 r3 z3 ((e1.trans s2.I).trans e3) n3 q3,
      fun S3 σ3 W3 H3 r3 z3 e3 q3 => k.nx S3 σ3 W3 H3 r3 z3 ((e1.trans s2.I).trans e3) q3, fun S3 σ3 W3 H3 r3 z3 e3 ⟨m', hm, q3⟩ => ⟨m', hm, S3, W3, r3, z3, (e1.trans s2.I).trans e3, q3⟩⟩
end

/-! ### a def by its body -/
def startE (N : List Str) (as : List Sl) : En := as.map some ++ List.replicate (N.length - as.length) none
theorem rep_start {K : PySem.W.Frag} {g : List Code} {W : Wd} {H : Hp} {N : List Str} {as : List Sl} {vs : List V} (ok : Ok g W H) (h : Args K W as vs) : Rep K g H (startE N as) (L2.start N vs) W H := by
  have hl := Paired.length h
  refine ⟨ok, fun b hb => (ok.gd b hb).2, by unfold startE L2.start; simp [hl], fun i s e => ?_, fun i j l m p _ e => ?_⟩
  · have key : ∀ {as : List Sl} {vs : List V} {n : Nat} {i : Nat} {s : Sl}, Args K W as vs → (as.map some ++ List.replicate n none)[i]? = some (some s) → ∃ v, (vs.map some ++ List.replicate n none)[i]? = some (some v) ∧ Arg K W s v := by
      intro as vs n i s h
      induction h generalizing i with
      | nil =>
        intro e
        simp only [List.map_nil, List.nil_append, List.getElem?_replicate] at e
        split at e <;> cases e
      | @cons a v as vs h1 _ ih =>
        intro e
        cases i with
        | zero =>
          simp only [List.map_cons, List.cons_append, List.getElem?_cons_zero, Option.some.injEq] at e
          subst e
          exact ⟨v, rfl, h1⟩
        | succ i =>
          simp only [List.map_cons, List.cons_append, List.getElem?_cons_succ] at e ⊢
          exact ih e
    unfold startE at e
    rw [show N.length - as.length = N.length - vs.length by rw [hl]] at e
    obtain ⟨v, e1, a1⟩ := key h e
    refine ⟨v, e1, ?_⟩
    cases s with
    | val d => exact a1
    | pot => exact a1
    | own l => exact a1.elim
    | inst _ _ _ _ => exact a1.elim
  · exfalso
    have key : ∀ {as : List Sl} {vs : List V} {n : Nat} {i : Nat}, Args K W as vs → (as.map some ++ List.replicate n none)[i]? = some (some (.own l)) → False := by
      intro as vs n i h
      induction h generalizing i with
      | nil =>
        intro e
        simp only [List.map_nil, List.nil_append, List.getElem?_replicate] at e
        split at e <;> cases e
      | @cons a v as vs h1 _ ih =>
        intro e
        cases i with
        | zero =>
          simp only [List.map_cons, List.cons_append, List.getElem?_cons_zero, Option.some.injEq] at e
          subst e
          exact h1
        | succ i =>
          simp only [List.map_cons, List.cons_append, List.getElem?_cons_succ] at e
          exact ih e
    exact key h e
section
variable {P : Program} {w : World} {K : PySem.W.Frag} {mg : Str → Option Value} {base : Heap}
theorem gOf_bx {N : List Str} {qual : Str} {st : Stmt} {f : Addr} {cdv : Value} {A : Around} {outer : List Env} {s : Shared} {H : Hp} {g : List Code} (h : A.guards = some g) : (Bx P w K mg base N qual st f cdv A outer s H).A.guards = some g ∧ gOf (Bx P w K mg base N qual st f cdv A outer s H) = g :=
  have e : (Bx P w K mg base N qual st f cdv A outer s H).A.guards = some g := deeper_guards h
  ⟨e, by unfold gOf; rw [e]; rfl⟩
theorem gn_dl {x qual : Str} {st : Stmt} {f : Addr} {fd : FuncData} {N ps : List Str} {k : Nat} {sp : SpD} (F : FunS K x qual st f fd) (hS : FnScope N ps (defScope st)) (len : ∀ as Q, sp as Q → as.length = ps.length)
    (body : ∀ cdv A outer s H, Room k (A.deeper (PyProof.Rows.envOfC qual (defScope st) s.heap.objs.size f cdv)) → (Bx P w K mg base N qual st f cdv A outer s H).A.guards = some (gOf (Bx P w K mg base N qual st f cdv A outer s H)) → ∀ W as Q, sp as Q → SDs (Bx P w K mg base N qual st f cdv A outer s H) H W (startE N as) (defBody st) { nx := fun _ => Q .non, rt := Q }) :
    GnOk P w K mg base (k + 1) f fd ps (lift K sp) := by
  refine gn_of F hS (fun g vs H Q h => ?_) (fun cdv A outer s H g vs R hr hG h => ?_)
  · obtain ⟨as, W, Qd, _, ha, hsp, _⟩ := h
    rw [← len _ _ hsp]
    exact (Paired.length ha).symm
  · obtain ⟨as, W, Qd, ok, ha, hsp, c⟩ := h
    obtain ⟨e1, e2⟩ := gOf_bx (P := P) (w := w) (K := K) (mg := mg) (base := base) (N := N) (qual := qual) (st := st) (f := f) (cdv := cdv) (outer := outer) (s := s) (H := H) hG
    refine ⟨WSs _ (defBody st), wss_pss, ?_⟩
    have bd := body cdv A outer s H hr (by rw [e2]; exact e1) W as Qd hsp
    refine bd (L2.start N vs) W H (by rw [e2]; exact rep_start ok ha) Stp.refl _ ?_
    rw [e2]
    exact ⟨fun S σ W' H' r z _ q => c .non .non W' H' z r.ok .non q, fun d v W' H' ok' z _ n q => c d v W' H' z ok' n q, fun _ _ _ _ _ _ _ q => q.elim, fun _ _ _ _ _ _ _ q => q.elim⟩
theorem df_of {x qual : Str} {st : Stmt} {f : Addr} {fd : FuncData} {ps : List Str} {k n : Nat} {sp : SpD} (F : FunS K x qual st f fd) (h : GnOk P w K mg base k f fd ps (lift K sp)) (hm : mg x = some (.ref f)) (hb : Binds K fd ps []) (hn : ps.length = n) : Df P w K mg base x k n sp :=
  ⟨f, fd, ps, h, hm, F.kp, hb, hn⟩
end
end DL

set_option Elab.async false
set_option linter.all false
set_option maxRecDepth 100000
set_option maxHeartbeats 2000000
namespace DL
open PySem L2

/-! ### lists that one name owns -/
theorem Ok.frz {g : List Code} {W : Wd} {H : Hp} {p : Addr} {o : HO} (ok : Ok g W H) (hp : H p = some o) (n : ¬ W.P p) (ng : ¬ InG g p) : Ok g (W.new p o) H where
  gd := fun b hb => by
    obtain ⟨n1, n2⟩ := ok.gd b hb
    refine ⟨?_, n2⟩
    show upd W.I p o b = none
    have ne : b ≠ p := fun z => ng (z ▸ hb)
    rw [upd_ne ne]
    exact n1
  ex := fun a u e => by
    have e' : upd W.I p o a = some u := e
    by_cases q : a = p
    · subst q
      rw [upd_same] at e'
      cases e'
      exact hp
    · rw [upd_ne q] at e'
      exact ok.ex a u e'
  pot := fun a pa => by
    obtain ⟨h, x⟩ := ok.pot a pa
    refine ⟨?_, x⟩
    show upd W.I p o a = none
    have ne : a ≠ p := fun z => n (z ▸ pa)
    rw [upd_ne ne]
    exact h
theorem Stp.frz {W W1 : Wd} {H H1 : Hp} {p : Addr} {o : HO} (a : Stp W H W1 H1) (hp : H p = none) (i : W1.I p = none) : Stp W H (W1.new p o) H1 where
  I := a.I.trans (Ex.new i)
  P := a.P
  keep := a.keep
  old := fun b u e n => by
    show upd W1.I p o b = none
    rw [upd_ne (ne_of_none e hp)]
    exact a.old b u e n
  oldP := a.oldP
/-- a new list, not yet part of what never changes -/
def ContF (K : PySem.W.Frag) (g : List Code) (W : Wd) (H : Hp) (Q : List D → Prop) (R : VK) : Prop := ∀ l p xs W' H', Stp W H W' H' → Ok g W' H' → H p = none → ¬ W'.P p → W'.I p = none → H' p = some (.lst xs) → Dns K W'.I l xs → Q l → R (.ref p) H'
def FD (X : Cx) (B : Hp) (S : En) (e : Expr) (Q : List D → Prop) : Prop := ∀ σ W H, Rep X.K (gOf X) B S σ W H → ∀ R, ContF X.K (gOf X) W H Q R → WE X e σ H R
/-- a tuple or a name: how an item comes to the names of a comprehension -/
def wipeE (S : En) : List Nat → En
  | [] => S
  | v :: vs => (wipeE S vs).set v none
theorem wipeE_some {S : En} {i : Nat} {x : Sl} : ∀ {vs : List Nat}, (wipeE S vs)[i]? = some (some x) → S[i]? = some (some x) ∧ i ∉ vs
  | [], h => ⟨h, by simp⟩
  | v :: vs, h => by
    unfold wipeE at h
    by_cases hi : v = i
    · subst hi
      by_cases hv : v < (wipeE S vs).length
      · rw [List.getElem?_set_self hv] at h; cases h
      · rw [List.getElem?_eq_none (by simpa using hv)] at h; cases h
    · rw [List.getElem?_set_ne hi] at h
      obtain ⟨h1, h2⟩ := wipeE_some h
      exact ⟨h1, by simp only [List.mem_cons, not_or]; exact ⟨fun e => hi e.symm, h2⟩⟩
theorem wipeE_length (S : En) : ∀ vs : List Nat, (wipeE S vs).length = S.length
  | [] => rfl
  | v :: vs => by unfold wipeE; rw [List.length_set, wipeE_length S vs]
theorem wipe_keep {σ : L2.St} {i : Nat} {x : V} : ∀ {vs : List Nat}, i ∉ vs → σ[i]? = some (some x) → (wipe σ vs)[i]? = some (some x)
  | [], _, h => h
  | v :: vs, hi, h => by
    unfold wipe
    simp only [List.mem_cons, not_or] at hi
    rw [List.getElem?_set_ne (fun e => hi.1 e.symm)]
    exact wipe_keep hi.2 h
theorem Rep.wipe {K : PySem.W.Frag} {g : List Code} {B : Hp} {S : En} {σ : L2.St} {W : Wd} {H : Hp} (r : Rep K g B S σ W H) (vs : List Nat) : Rep K g B (wipeE S vs) (L2.wipe σ vs) W H where
  ok := r.ok
  gb := r.gb
  len := by rw [wipeE_length, wipe_length]; exact r.len
  sl := fun i s e => by
    obtain ⟨e1, hi⟩ := wipeE_some e
    obtain ⟨v, e2, h⟩ := r.sl i s e1
    exact ⟨v, wipe_keep hi e2, h⟩
  dist := fun i j l m p n e1 e2 e3 => by
    obtain ⟨e1', _⟩ := wipeE_some e1
    obtain ⟨e2', hj⟩ := wipeE_some e2
    obtain ⟨e3', _⟩ := wipe_some e3
    intro e4
    obtain ⟨e4', _⟩ := wipe_some e4
    exact r.dist i j l m p n e1' e2' e3' e4'
theorem wipe_set {σ : L2.St} {j : Nat} {x : Option V} : ∀ {vs : List Nat}, j ∈ vs → L2.wipe (σ.set j x) vs = L2.wipe σ vs
  | v :: vs, h => by
    unfold L2.wipe
    by_cases hv : j ∈ vs
    · rw [wipe_set hv]
    · have e : v = j := by
        rcases List.mem_cons.mp h with z | z
        · exact z.symm
        · exact absurd z hv
      subst e
      have key : ∀ ws : List Nat, v ∉ ws → L2.wipe (σ.set v x) ws = (L2.wipe σ ws).set v x := by
        intro ws
        induction ws with
        | nil => intro _; rfl
        | cons a ws ih =>
          intro hn
          simp only [List.mem_cons, not_or] at hn
          unfold L2.wipe
          rw [ih hn.2, List.set_comm _ _ (fun e => hn.1 e)]
      rw [key vs hv, List.set_set]
theorem wipe_wipe {σ : L2.St} {vs : List Nat} : L2.wipe (L2.wipe σ vs) vs = L2.wipe σ vs := by
  have key : ∀ ws : List Nat, (∀ w ∈ ws, w ∈ vs) → L2.wipe (L2.wipe σ ws) vs = L2.wipe σ vs := by
    intro ws
    induction ws with
    | nil => intro _; rfl
    | cons a ws ih =>
      intro h
      show L2.wipe ((L2.wipe σ ws).set a none) vs = _
      rw [wipe_set (h a List.mem_cons_self)]
      exact ih fun w hw => h w (List.mem_cons_of_mem _ hw)
  exact key vs fun _ h => h
/-- how the item d comes to the names in the slots vs: what the block then knows -/
def Pat (K : PySem.W.Frag) (g : TG) (vs : List Nat) (S : En) (d : D) (S' : En) : Prop := ∀ gs B σ W H v, Rep K gs B S σ W H → Dn K W.I d v → ∀ Q : L2.St → Hp → Prop, (∀ σ2, L2.wipe σ2 vs = L2.wipe σ vs → Rep K gs B S' σ2 W H → Q σ2 H) → g v (L2.wipe σ vs) H Q
theorem pat_name {K : PySem.W.Frag} {S : En} {d : D} {vs : List Nat} (j : Nat) (hj : j ∈ vs) : Pat K (gName j) vs S d ((wipeE S vs).set j (some (.val d))) := fun _ B σ W H v r n Q k =>
  k _ (by rw [wipe_set hj, wipe_wipe]) ((r.wipe vs).set n)
theorem pat_two {K : PySem.W.Frag} {S : En} {d d' : D} {vs : List Nat} (i j : Nat) (hi : i ∈ vs) (hj : j ∈ vs) : Pat K (gTup K 2 (gCons (gName i) (gCons (gName j) gNil))) vs S (.tup [d, d']) (((wipeE S vs).set i (some (.val d))).set j (some (.val d'))) := fun _ B σ W H v r n Q k => by
  cases n with
  | tup hp m =>
    cases m with
    | cons n1 m => cases m with
      | cons n2 m =>
        cases m
        exact ⟨_, _, rfl, SqT.of (r.ok.ex _ _ hp), rfl, _, _, rfl, _, _, rfl, rfl, k _ (by rw [wipe_set hj, wipe_set hi, wipe_wipe]) (((r.wipe vs).set n1).set n2)⟩
theorem pat_three {K : PySem.W.Frag} {S : En} {d d' d2 : D} {vs : List Nat} (i j l : Nat) (hi : i ∈ vs) (hj : j ∈ vs) (hl : l ∈ vs) : Pat K (gTup K 3 (gCons (gName i) (gCons (gName j) (gCons (gName l) gNil)))) vs S (.tup [d, d', d2]) ((((wipeE S vs).set i (some (.val d))).set j (some (.val d'))).set l (some (.val d2))) := fun _ B σ W H v r n Q k => by
  cases n with
  | tup hp m =>
    cases m with
    | cons n1 m => cases m with
      | cons n2 m => cases m with
        | cons n3 m =>
          cases m
          exact ⟨_, _, rfl, SqT.of (r.ok.ex _ _ hp), rfl, _, _, rfl, _, _, rfl, _, _, rfl, rfl, k _ (by rw [wipe_set hl, wipe_set hj, wipe_set hi, wipe_wipe]) ((((r.wipe vs).set n1).set n2).set n3)⟩
section
variable {X : Cx} {B : Hp} {W0 : Wd} {S : En} {e a b : Expr} {es : List Expr} {pos : Pos} {E : Ends'}
theorem ed_fd {Q : D → Prop} (h : FD X B S e fun l => Q (.lst l)) : ED X B S e Q := fun σ W H r R k => by
  refine h σ W H r R fun l p xs W' H' st ok hp n i hl d q => ?_
  exact k (.lst l) (.ref p) _ H' (st.frz hp i) (ok.frz hl n fun z => (r.ok.gd _ z).2 hp) (.lst (show upd W'.I p _ p = _ from upd_same) (d.mono (Ex.new i))) q
theorem fd_lst {Q : List D → Prop} (h : AD X B S es fun as => ∃ ds, as = ds.map Sl.val ∧ ds.length ≤ 100000 ∧ Q ds) : FD X B S (.List es pos) Q := fun σ W H r R k => by
  refine PE.w (pe_lst wa_pa) ?_
  refine h σ W H r _ fun as vs W1 H1 s1 ok1 n1 q1 => ?_
  obtain ⟨ds, rfl, hl, q1⟩ := q1
  have n := n1.vals
  refine ⟨Nat.le_trans (n.length ▸ hl) (by decide), fun p hp => ?_⟩
  exact k ds p vs W1 _ (s1.trans ok1 (Stp.own hp)) (ok1.own hp) (s1.free ok1 hp) (ok1.notP hp) (ok1.free hp) upd_same n q1
/-- x = a new list, which x owns -/
theorem Rep.setOwn {K : PySem.W.Frag} {g : List Code} {σ : L2.St} {W : Wd} {H : Hp} {i : Nat} {l : List D} {p : Addr} {xs : List V} (r : Rep K g B S σ W H) (hB : B p = none) (n : ¬ W.P p) (hi : W.I p = none) (hp : H p = some (.lst xs)) (d : Dns K W.I l xs)
    (new : ∀ (j : Nat) (m : List D), S[j]? = some (some (.own m)) → σ[j]? ≠ some (some (.ref p))) : Rep K g B (S.set i (some (.own l))) (σ.set i (some (.ref p))) W H where
  ok := r.ok
  gb := r.gb
  len := by simpa using r.len
  sl := fun j s e => by
    by_cases q : i = j
    · subst q
      by_cases z : i < S.length
      · rw [List.getElem?_set_self z] at e
        cases e
        exact ⟨_, List.getElem?_set_self (r.len ▸ z), p, xs, rfl, hB, n, hi, hp, d⟩
      · rw [List.getElem?_eq_none (by simpa using z)] at e
        cases e
    · rw [List.getElem?_set_ne q] at e ⊢
      exact r.sl j s e
  dist := fun a b la lb q ne e1 e2 e3 => by
    by_cases qa : i = a
    · subst qa
      have lt : i < σ.length := by
        rcases Nat.lt_or_ge i σ.length with z | z
        · exact z
        · rw [List.getElem?_eq_none (by simpa using z)] at e3; cases e3
      rw [List.getElem?_set_self lt] at e3
      cases e3
      rw [List.getElem?_set_ne ne] at e2 ⊢
      exact new b lb e2
    · rw [List.getElem?_set_ne qa] at e1 e3
      by_cases qb : i = b
      · subst qb
        intro e4
        have lt : i < σ.length := by
          rcases Nat.lt_or_ge i σ.length with z | z
          · exact z
          · rw [List.getElem?_eq_none (by simpa using z)] at e4; cases e4
        rw [List.getElem?_set_self lt] at e4
        cases e4
        exact new a la e1 e3
      · rw [List.getElem?_set_ne qb] at e2 ⊢
        exact r.dist a b la lb q ne e1 e2 e3
theorem sd_own {x : Str} {pos' : Pos} (i : Nat) (hN : X.N.Nodup) (hi : X.N[i]? = some x) (h : FD X B S e fun l => E.nx (S.set i (some (.own l)))) (hx : Loc X.env.scope x := by first | exact Or.inl rfl | exact Or.inr rfl)
    (hs : swapsWith e (some (.Name x pos')) pos.line X.env = pure false := by rfl) (hf : X.fn x = true ∨ X.env.scope.names.lookup x = some .local := by first | exact .inl rfl | exact .inr rfl) : SD X B W0 S (.Assign [.Name x pos'] e pos) E := fun σ W H r z D' k =>
  PS.w (ps_set hN hi hx we_pe hs hf) (h σ W H r _ fun l p xs W1 H1 s1 ok1 hp n i1 hl d q1 => k.nx _ _ W1 H1 ((r.step s1 ok1).setOwn (z.free r.ok hp) n i1 hl d fun j m e1 e2 => by
    obtain ⟨v, e3, p2, ys, e4, _, _, _, h4, _⟩ := r.sl j _ e1
    rw [e2] at e3
    cases e3
    cases e4
    rw [hp] at h4
    cases h4) (z.trans r.ok s1) s1.I q1)
/-- x.append(e), x the owner of its list -/
theorem sd_append {x : Str} {px apos cpos : Pos} (i : Nat) (l : List D) (hN : X.N[i]? = some x) (h : S[i]? = some (some (.own l))) (hl : l.length < 100000) (he : ED X B S e fun d => E.nx (S.set i (some (.own (l ++ [d])))))
    (hv : Vis X.env.scope x := by first | exact Or.inl rfl | exact Or.inr (Or.inl rfl) | exact Or.inr (Or.inr rfl)) (hd : (x == ("__debug__" : Str)) = false := by decide) (hcd : (x == ("__classdict__" : Str)) = false := by decide)
    (hps : PE X (.Call (.Attribute (.Name x px) "append" apos) [e] [] cpos) (tBM X.K "list" rAppend (tVar i) (tCons (WE X e) tNil)) := by
      exact pe_bm PySem.F.plainAttrs_list PySem.F.slot_list_append PySem.F.type_list_append mt_append (pe_var (by rfl) (by first | exact Or.inl rfl | exact Or.inr (Or.inl rfl) | exact Or.inr (Or.inr rfl))) (pa_cons DL.we_pe pa_nil))
    (hs : swapsWith (.Call (.Attribute (.Name x px) "append" apos) [e] [] cpos) none pos.line X.env = pure false := by rfl) : SD X B W0 S (.Expr (.Call (.Attribute (.Name x px) "append" apos) [e] [] cpos) pos) E := fun σ W H r z D' k => by
  refine PS.w (ps_expr hps hs) ?_
  obtain ⟨v, e1, p, xs, ev, hB, n, hI, hH, d0⟩ := r.sl i _ h
  subst ev
  refine ⟨_, e1, .inl ⟨rfl, _, SqL.of hH⟩, ?_⟩
  refine he σ W H r _ fun d v W1 H1 s1 ok1 n1 q1 => ?_
  have hH1 : H1 p = some (.lst xs) := s1.keep _ _ hH n
  have nP : ¬ W1.P p := fun q => n (s1.oldP p _ hH q)
  have hI1 : W1.I p = none := s1.old p _ hH hI
  refine ⟨p, xs, v, rfl, rfl, hH1, Nat.lt_of_lt_of_le (d0.length ▸ hl) (by decide), ?_⟩
  have ok2 : Ok (gOf X) W1 (upd H1 p (.lst (xs ++ [v]))) := {
    gd := fun b hb => by
      obtain ⟨n1, n2⟩ := ok1.gd b hb
      refine ⟨n1, ?_⟩
      by_cases q : b = p
      · subst q
        rw [upd_same]
        exact fun z => by cases z
      · rw [upd_ne q]
        exact n2
    ex := fun b o hb => by
      rw [upd_ne (fun y => by rw [y, hI1] at hb; cases hb)]
      exact ok1.ex b o hb
    pot := fun b hb => by
      obtain ⟨nb, y2, w2, h2⟩ := ok1.pot b hb
      have ne : b ≠ p := fun y => nP (y ▸ hb)
      exact ⟨nb, y2, w2, by rw [upd_ne ne]; exact h2⟩ }
  have z1 := z.trans r.ok s1
  have z2 : Stp W0 B W1 (upd H1 p (.lst (xs ++ [v]))) := ⟨z1.I, z1.P, fun b o hb hn => by rw [upd_ne (ne_of_none hb hB)]; exact z1.keep b o hb hn, z1.old, z1.oldP⟩
  have r1 := r.step s1 ok1
  have lt : i < S.length := (List.getElem?_eq_some_iff.mp h).1
  refine k.nx _ σ W1 _ ?_ z2 s1.I q1
  refine ⟨ok2, r.gb, by simpa using r.len, fun j s ej => ?_, fun a b la lb q ne e2 e3 e4 => ?_⟩
  · by_cases q : i = j
    · subst q
      rw [List.getElem?_set_self lt] at ej
      cases ej
      exact ⟨_, e1, p, _, rfl, hB, nP, hI1, upd_same, (d0.mono s1.I).append (.cons n1 .nil)⟩
    · rw [List.getElem?_set_ne q] at ej
      obtain ⟨v2, e2, h2⟩ := r1.sl j s ej
      refine ⟨v2, e2, ?_⟩
      cases s with
      | val d2 => exact h2
      | pot => exact h2
      | own m =>
        obtain ⟨p2, ys, rfl, b1, b2, b3, b4, b5⟩ := h2
        refine ⟨p2, ys, rfl, b1, b2, b3, ?_, b5⟩
        rw [upd_ne (fun y => by
          rw [y] at e2
          exact r.dist i j l m p q h ej e1 e2)]
        exact b4
      | inst C p2 dx fs =>
        obtain ⟨vs, rfl, b1, b2, b3, b4, b5, b6, b7, b8, b9, b10⟩ := h2
        refine ⟨vs, rfl, b1, b2, b3, b4, b5, b6, b7, ?_, ?_, b10⟩
        · rw [upd_ne (fun y => by rw [y, hH1] at b8; cases b8)]
          exact b8
        · rw [upd_ne (fun y => by rw [y, hH1] at b9; cases b9)]
          exact b9
  · have g : ∀ {c : Nat} {m : List D}, (S.set i (some (.own (l ++ [d]))))[c]? = some (some (.own m)) → ∃ m', S[c]? = some (some (.own m')) := fun {c m} ec => by
      by_cases q2 : i = c
      · subst q2
        exact ⟨l, h⟩
      · rw [List.getElem?_set_ne q2] at ec
        exact ⟨m, ec⟩
    obtain ⟨m1, g1⟩ := g e2
    obtain ⟨m2, g2⟩ := g e3
    exact r.dist a b m1 m2 q ne g1 g2 e4
/-- what a name owns is given away: from here on it never changes -/
theorem sds_frz {sts : List Stmt} (i : Nat) (l : List D) (h : S[i]? = some (some (.own l))) (k : SDs X B W0 (S.set i (some (.val (.lst l)))) sts E) : SDs X B W0 S sts E := fun σ W H r z D' q => by
  obtain ⟨v, e1, p, xs, ev, hB, n, hI, hH, d0⟩ := r.sl i _ h
  subst ev
  have st : Stp W0 B (W.new p (.lst xs)) H := z.frz hB hI
  have ok := r.ok.frz hH n fun z => r.gb _ z hB
  have lt : i < S.length := (List.getElem?_eq_some_iff.mp h).1
  refine k σ (W.new p (.lst xs)) H ?_ st D' (q.mono (Ex.new hI))
  refine ⟨ok, r.gb, by simpa using r.len, fun j s ej => ?_, fun a b la lb c ne e2 e3 e4 => ?_⟩
  · by_cases y : i = j
    · subst y
      rw [List.getElem?_set_self lt] at ej
      cases ej
      exact ⟨_, e1, .lst (show upd W.I p _ p = _ from upd_same) (d0.mono (Ex.new hI))⟩
    · rw [List.getElem?_set_ne y] at ej
      obtain ⟨v2, e2, h2⟩ := r.sl j s ej
      refine ⟨v2, e2, ?_⟩
      cases s with
      | val d2 => exact Dn.mono (Ex.new hI) h2
      | pot => exact h2
      | own m =>
        obtain ⟨p2, ys, rfl, b1, b2, b3, b4, b5⟩ := h2
        refine ⟨p2, ys, rfl, b1, b2, ?_, b4, b5.mono (Ex.new hI)⟩
        show upd W.I p _ p2 = none
        rw [upd_ne (fun y2 => by
          rw [y2] at e2
          exact r.dist i j l m p y h ej e1 e2)]
        exact b3
      | inst C p2 dx fs =>
        obtain ⟨vs, rfl, b1, b2, b3, b4, b5, b6, b7, b8, b9, b10⟩ := h2
        refine ⟨vs, rfl, b1, b2, b3, b4, b5, ?_, ?_, b8, b9, b10.mono (Ex.new hI)⟩
        · show upd W.I p _ p2 = none
          rw [upd_ne (fun y => by rw [y, hH] at b8; cases b8)]
          exact b6
        · show upd W.I p _ dx = none
          rw [upd_ne (fun y => by rw [y, hH] at b9; cases b9)]
          exact b7
  · have g : ∀ {c : Nat} {m : List D}, (S.set i (some (.val (.lst l))))[c]? = some (some (.own m)) → S[c]? = some (some (.own m)) := fun {c m} ec => by
      by_cases q2 : i = c
      · subst q2
        rw [List.getElem?_set_self lt] at ec
        cases ec
      · rw [List.getElem?_set_ne q2] at ec
        exact ec
    exact r.dist a b la lb c ne (g e2) (g e3) e4

/-! ### comprehensions -/
/-- the weakest reading over all blocks -/
def WEb (X : Cx) (scope : Scope) (e : Expr) : TE := fun σ H Q => ∀ (s : Shared) (H0 : Hp) (C : Addr) (cl : List (Str × Addr)) (fp : List Addr), WE (X.blk s H0 scope (compEnvC scope cl C X.env) fp) e σ H Q
def WTb (X : Cx) (scope : Scope) (e : Expr) : TT := fun σ H Q => ∀ (s : Shared) (H0 : Hp) (C : Addr) (cl : List (Str × Addr)) (fp : List Addr), WT (X.blk s H0 scope (compEnvC scope cl C X.env) fp) e σ H Q
theorem web_pe {scope : Scope} (s : Shared) (H0 : Hp) (C : Addr) (cl : List (Str × Addr)) (fp : List Addr) : PE (X.blk s H0 scope (compEnvC scope cl C X.env) fp) e (WEb X scope e) := ⟨fun pins s2 _ _ _ I h => h s H0 C cl fp pins s2 I⟩
theorem wtb_pt {scope : Scope} (s : Shared) (H0 : Hp) (C : Addr) (cl : List (Str × Addr)) (fp : List Addr) : PT (X.blk s H0 scope (compEnvC scope cl C X.env) fp) e (WTb X scope e) := ⟨fun pins s2 _ _ _ I h => h s H0 C cl fp pins s2 I⟩
/-- at an address of one's own: the list so far -/
structure Mid (K : PySem.W.Frag) (g : List Code) (W1 : Wd) (H1 : Hp) (p : Addr) (l : List D) (W : Wd) (H : Hp) : Prop where
  st : Stp W1 H1 W H
  ok : Ok g W H
  n : ¬ W.P p
  i : W.I p = none
  h : ∃ xs, H p = some (.lst xs) ∧ Dns K W.I l xs
theorem Mid.step {K : PySem.W.Frag} {g : List Code} {W1 W W2 : Wd} {H1 H H2 : Hp} {p : Addr} {l : List D} (m : Mid K g W1 H1 p l W H) (a : Stp W H W2 H2) (ok : Ok g W2 H2) : Mid K g W1 H1 p l W2 H2 := by
  obtain ⟨xs, hp, d⟩ := m.h
  exact ⟨m.st.trans m.ok a, ok, fun z => m.n (a.oldP p _ hp z), a.old p _ hp m.i, xs, a.keep p _ hp m.n, d.mono a.I⟩
theorem Mid.more {K : PySem.W.Frag} {g : List Code} {W1 W : Wd} {H1 H : Hp} {p : Addr} {l : List D} {d : D} {v : V} (hp0 : H1 p = none) (m : Mid K g W1 H1 p l W H) (hd : Dn K W.I d v) (hl : l.length < 100000) :
    ∃ acc, H p = some (.lst acc) ∧ acc.length < sizeLine ∧ Mid K g W1 H1 p (l ++ [d]) W (upd H p (.lst (acc ++ [v]))) := by
  obtain ⟨xs, hp, ds⟩ := m.h
  refine ⟨xs, hp, Nat.lt_of_lt_of_le (ds.length ▸ hl) (by decide), ?_, ?_, m.n, m.i, _, upd_same, ds.append (.cons hd .nil)⟩
  · exact ⟨m.st.I, m.st.P, fun b o hb hn => by rw [upd_ne (ne_of_none hb hp0)]; exact m.st.keep b o hb hn, m.st.old, m.st.oldP⟩
  · exact {
      gd := fun b hb => by
        obtain ⟨n1, n2⟩ := m.ok.gd b hb
        refine ⟨n1, ?_⟩
        by_cases q : b = p
        · subst q
          rw [upd_same]
          exact fun z => by cases z
        · rw [upd_ne q]
          exact n2
      ex := fun b o hb => by
        rw [upd_ne (fun y => by rw [y, m.i] at hb; cases hb)]
        exact m.ok.ex b o hb
      pot := fun b hb => by
        obtain ⟨nb, y2, w2, h2⟩ := m.ok.pot b hb
        have ne : b ≠ p := fun y => m.n (y ▸ hb)
        exact ⟨nb, y2, w2, by rw [upd_ne ne]; exact h2⟩ }
/-- [elt for g in a list], without a test -/
theorem fd_lcL {elt tg iter : Expr} {scope : Scope} {own : List (Str × Nat)} {g : TG} {l : List D} {Q : List D → Prop} (J : Nat → List D → Prop) (S' : D → En) (hc : X.calm = true) (hN : X.N.Nodup) (ok : BlkOk X.N X.env.scope scope own)
    (hg : ∀ (s : Shared) (H : Hp) (C : Addr) (cl : List (Str × Addr)) (fp : List Addr), PG (X.blk s H scope (compEnvC scope cl C X.env) fp) tg g)
    (h : ED X B S iter fun d => d = .lst l ∧ l.length ≤ 50000 ∧ J 0 []) (hp : ∀ d ∈ l, Pat X.K g (own.map (·.2)) S d (S' d))
    (he : ∀ (i : Nat) d acc, l[i]? = some d → acc.length = i → J i acc → ∀ (s : Shared) (H0 : Hp) (C : Addr) (cl : List (Str × Addr)) (fp : List Addr), ED (X.blk s H0 scope (compEnvC scope cl C X.env) fp) B (S' d) elt fun y => J (i + 1) (acc ++ [y]))
    (hd : ∀ acc, acc.length = l.length → J l.length acc → Q acc) (hs : ∀ x, foldedSetIterable iter X.env x = pure x := by intro _; rfl) : FD X B S (.ListComp elt [⟨tg, iter, [], 0⟩] scope pos) Q := fun σ W H r R k => by
  refine PE.w (pe_lc (te := WEb X scope elt) hc hN (pi_list we_pe) ok hg (fun _ _ _ _ _ => pts_nil) web_pe hs) ?_
  refine h σ W H r _ fun d v W1 H1 s1 ok1 n1 q1 => ?_
  obtain ⟨rfl, hz, j0⟩ := q1
  cases n1 with
  | @lst _ a xs ha m =>
    refine ⟨a, rfl, ⟨xs, SqL.of (ok1.ex _ _ ha)⟩, fun p hp0 => ?_⟩
    have r1 := r.step s1 ok1
    refine lc_list (K := X.K) (a := a) (xs := xs) (fun i H' => ∃ acc W', Mid X.K (gOf X) W1 H1 p acc W' H' ∧ acc.length = i ∧ J i acc) ⟨[], W1, ⟨Stp.own hp0, ok1.own hp0, ok1.notP hp0, ok1.free hp0, [], upd_same, .nil⟩, rfl, j0⟩
      (fun i H' _ ⟨acc, W', mm, _⟩ => SqL.of (mm.ok.ex _ _ (mm.st.I _ _ ha))) ?_ ?_
    · rintro i x H' hx ⟨acc, W', mm, hl, j⟩
      obtain ⟨d, hd', nd⟩ := m.get hx
      have r2 := r1.step mm.st mm.ok
      refine hp d (List.mem_of_getElem? hd') (gOf X) B σ W' H' x r2 (nd.mono mm.st.I) _ fun σ2 e2 r3 => ⟨e2, ?_⟩
      show WEb X scope elt σ2 H' _
      intro s H0 C cl fp
      refine he i d acc hd' hl j s H0 C cl fp σ2 W' H' r3 _ fun y v W2 H2 s2 ok2 n2 q2 => ?_
      have lt : i < l.length := (List.getElem?_eq_some_iff.mp hd').1
      obtain ⟨xs', e1, e3, m3⟩ := (mm.step s2 ok2).more hp0 n2 (by omega)
      exact ⟨xs', e1, e3, _, W2, m3, by simp [hl], q2⟩
    · rintro H' ⟨acc, W', mm, hl, j⟩
      obtain ⟨ys, hH, ds⟩ := mm.h
      rw [← m.length] at hl j
      exact k acc p ys W' H' (s1.trans ok1 mm.st) mm.ok (s1.free ok1 hp0) mm.n mm.i hH ds (hd acc hl j)
/-- .. over a range -/
theorem fd_lcR {elt tg : Expr} {p1 pos1 : Pos} {scope : Scope} {own : List (Str × Nat)} {n : Int} {Q : List D → Prop} (J : Nat → List D → Prop) (S' : D → En) {g : TG} (hc : X.calm = true) (hN : X.N.Nodup) (hm : X.mg "range" = none) (ok : BlkOk X.N X.env.scope scope own)
    (hg : ∀ (s : Shared) (H : Hp) (C : Addr) (cl : List (Str × Addr)) (fp : List Addr), PG (X.blk s H scope (compEnvC scope cl C X.env) fp) tg g)
    (h : AD X B S [e] fun as => as = [.val (.int n)] ∧ -(2 ^ 62) ≤ n ∧ n ≤ 50000 ∧ J 0 []) (hp : ∀ d, Pat X.K g (own.map (·.2)) S d (S' d))
    (he : ∀ (i : Nat) acc, (i : Int) < n → acc.length = i → J i acc → ∀ (s : Shared) (H0 : Hp) (C : Addr) (cl : List (Str × Addr)) (fp : List Addr), ED (X.blk s H0 scope (compEnvC scope cl C X.env) fp) B (S' (.int i)) elt fun y => J (i + 1) (acc ++ [y]))
    (hd : ∀ acc, acc.length = n.toNat → J n.toNat acc → Q acc) (hgl : Gl X "range" := by rfl) (hst : starEach [e] X.env = [(false, eval e X.env)] := by rfl)
    (hs : ∀ x, foldedSetIterable (.Call (.Name "range" p1) [e] [] pos1) X.env x = pure x := by intro _; rfl) : FD X B S (.ListComp elt [⟨tg, .Call (.Name "range" p1) [e] [] pos1, [], 0⟩] scope pos) Q := fun σ W H r R k => by
  refine PE.w (pe_lc (te := WEb X scope elt) hc hN (pi_range1 hgl hm wa_pa hst) ok hg (fun _ _ _ _ _ => pts_nil) web_pe hs) ?_
  refine h σ W H r _ fun as vs W1 H1 s1 ok1 n1 q1 => ?_
  obtain ⟨rfl, hz, hz2, j0⟩ := q1
  obtain ⟨v, rfl, m⟩ := one_arg n1
  cases m
  refine ⟨n, rfl, hz, by omega, fun p hp0 => ?_⟩
  have r1 := r.step s1 ok1
  refine lc_range (lo := 0) (n := n.toNat) (fun i H' => ∃ acc W', Mid X.K (gOf X) W1 H1 p acc W' H' ∧ acc.length = i ∧ J i acc) ⟨[], W1, ⟨Stp.own hp0, ok1.own hp0, ok1.notP hp0, ok1.free hp0, [], upd_same, .nil⟩, rfl, j0⟩ ?_ ?_
  · rintro i H' hi ⟨acc, W', mm, hl, j⟩
    rw [Int.zero_add]
    have r2 := r1.step mm.st mm.ok
    refine hp (.int i) (gOf X) B σ W' H' _ r2 (.int _) _ fun σ2 e2 r3 => ⟨e2, ?_⟩
    show WEb X scope elt σ2 H' _
    intro s H0 C cl fp
    refine he i acc (by omega) hl j s H0 C cl fp σ2 W' H' r3 _ fun y v W2 H2 s2 ok2 n2 q2 => ?_
    obtain ⟨xs', e1, e3, m3⟩ := (mm.step s2 ok2).more hp0 n2 (by omega)
    exact ⟨xs', e1, e3, _, W2, m3, by simp [hl], q2⟩
  · rintro H' ⟨acc, W', mm, hl, j⟩
    obtain ⟨ys, hH, ds⟩ := mm.h
    exact k acc p ys W' H' (s1.trans ok1 mm.st) mm.ok (s1.free ok1 hp0) mm.n mm.i hH ds (hd acc hl j)
end
end DL

set_option Elab.async false
set_option linter.all false
set_option maxRecDepth 100000
set_option maxHeartbeats 4000000
/-! operators of own classes, also with ints on either side -/
namespace OwnOps
open PySem PySem.W PySem.Calls
section
variable {prog : Program} {w : World} {A : Around} {E : Value → Shared → Prop} {s : Shared} {K : Frag} {x C f g : Addr} {ox : Obj} {od : Option Obj} {op : Operator} {i : Int} {t : Tok}
/-- a class stands first in its own order -/
theorem first_of (hc : selfFirst K C = true) : ∃ cd rest, clsIn K C = some cd ∧ cd.mro = .ref C :: rest := by
  unfold selfFirst at hc
  cases q : clsIn K C with
  | none =>
    rw [q] at hc
    exact absurd hc (by simp)
  | some cd =>
    rw [q] at hc
    match e : cd.mro, hc with
    | [], hc => simp [e] at hc
    | a :: r, hc =>
      have z : a = Value.ref C := by simpa [e] using hc
      exact ⟨cd, r, rfl, by rw [z] at e; exact e⟩
theorem slotPy {M : Model} {h : Heap} {nm : String} (X : K.In h) (h1 : findIn K (.ref C) (PySem.dunder nm) = some (some (.ref f))) (h2 : findIn K (.ref C) (dunderR nm) = some (some (.ref g))) : Looks M h (numberSlotInPython (.ref C) nm) true := by
  intro A Q E s k q
  unfold numberSlotInPython
  refine wpAny_bind (looks_findIn X h1 A _ E s k ?_)
  refine wpAny_bind ?_
  show wpAny M A (pure true) _ _ _
  refine wpAny_pure (wpAny_bind (looks_findIn X h2 A _ E s k (wpAny_bind ?_)))
  show wpAny M A (pure true) _ _ _
  refine wpAny_pure ?_
  rw [if_pos (by rfl)]
  exact wpAny_pure q
/-- own + int -/
theorem own_int {Q : Value → Shared → Prop} (X : K.In s.heap) (I : InstAt s.heap x ox C od) (hc : selfFirst K C = true) (hs : findIn K (.ref C) (PySem.dunder op.info.2) = some (some (.ref f))) (hr : findIn K (.ref C) (dunderR op.info.2) = some (some (.ref g)))
    (hf : isFn K (.ref f) = true) (hsub : subIn K (.type "int") (.ref C) = some false) (hint : fillsNumberSlot (.type "int") op.info.2 = pure true) (hl : ∃ r, findIn K (.type "int") (dunderR op.info.2) = some r)
    (h : wpAny (model prog w) A (call (.ref f) [.ref x, .int i t]) (CmpBack Q) E s) : wpAny (model prog w) A (binaryOp op (.ref x) (.int i t)) Q E s := by
  obtain ⟨cd, rest, hcd, hm⟩ := first_of hc
  obtain ⟨r, hl⟩ := hl
  rcases hi : op.info with ⟨sym, nm⟩
  rw [hi] at hs hr hint hl
  have hpy : numberSlotInPython (.type "int") nm = pure false := rfl
  simp only [binaryOp, hi]
  refine wpAny_holding (wpAny_bind ?_)
  unfold binaryOp1
  refine wpAny_bind (I.type.here (wpAny_bind (wpAny_typeOf (typeIs_int _ _ _) (wpAny_bind ((fills_K X hcd hm hs).here ?_)))))
  have hne : (Value.ref C == Value.type "int") = false := rfl
  simp only [hne, Bool.false_eq_true, if_false]
  refine wpAny_bind (wpAny_of_eq hint ?_)
  simp only [Bool.and_self, if_true]
  refine wpAny_bind ((looks_subIn X hsub).here ?_)
  simp only [Bool.false_eq_true, if_false, Bool.not_false, Bool.and_self, if_true, pure_bind]
  refine wpAny_bind ((slotPy X hs hr).here ?_)
  simp only [if_true, hpy, pure_bind, Bool.not_false]
  refine wpAny_bind ((looks_findIn X hl).here ?_)
  refine wpAny_bind (m := tryMethod (.ref x) _ _) ?_
  unfold tryMethod
  refine wpAny_bind (special_fn X I hs (beq_iff_eq.mp hf) (wpAny_mono h (fun v s' hv => ?_) fun _ _ e => e))
  cases v <;> first | exact hv.elim | exact wpAny_pure (wpAny_pure (wpAny_pure hv))
/-- int + own -/
theorem int_own {B : Builtin} {idl : String} {Q : Value → Shared → Prop} (X : K.In s.heap) (I : InstAt s.heap x ox C od) (hc : selfFirst K C = true) (hs : findIn K (.ref C) (PySem.dunder op.info.2) = some (some (.ref f))) (hr : findIn K (.ref C) (dunderR op.info.2) = some (some (.ref g)))
    (hg : isFn K (.ref g) = true) (hsub : subIn K (.ref C) (.type "int") = some false) (hint : fillsNumberSlot (.type "int") op.info.2 = pure true)
    (slot : Slot "int" (PySem.dunder op.info.2) idl) (entry : entryFor table idl = some B) (args : argsOk idl ⟨[.int i t, .ref x], []⟩)
    (dec : ∀ (A : Around) (Q : Fin → Shared → Prop) (E : Value → Shared → Prop), Q (.done (.ret .notImplemented)) s → wpAny (model prog w) A (B ⟨[.int i t, .ref x], []⟩) Q E s)
    (h : wpAny (model prog w) A (call (.ref g) [.ref x, .int i t]) (CmpBack Q) E s) : wpAny (model prog w) A (binaryOp op (.int i t) (.ref x)) Q E s := by
  obtain ⟨cd, rest, hcd, hm⟩ := first_of hc
  rcases hi : op.info with ⟨sym, nm⟩
  rw [hi] at hs hr hint slot
  have hpy : numberSlotInPython (.type "int") nm = pure false := rfl
  simp only [binaryOp, hi]
  refine wpAny_holding (wpAny_bind ?_)
  unfold binaryOp1
  refine wpAny_bind (wpAny_typeOf (typeIs_int _ _ _) (wpAny_bind (I.type.here (wpAny_bind (wpAny_of_eq hint ?_)))))
  have hne : (Value.type "int" == Value.ref C) = false := rfl
  simp only [hne, Bool.false_eq_true, if_false]
  refine wpAny_bind ((fills_K X hcd hm hs).here ?_)
  simp only [Bool.and_self, if_true]
  refine wpAny_bind ((looks_subIn X hsub).here ?_)
  simp only [Bool.false_eq_true, if_false, Bool.not_false, Bool.and_self, if_true, pure_bind, hpy]
  refine wpAny_bind (m := tryMethod _ _ _) ?_
  refine wpAny_tryMethod_declines (typeIs_int _ _ _) slot (wpAny_call (codeAny_call_builtin slot.plain entry (slot.check _ _ _ _ _ _ _ _ (typeIs_int _ _ _) args ?_)))
  refine dec _ _ _ ⟨rfl, ?_⟩
  refine wpAny_bind (m := tryMethod (.ref x) _ _) ?_
  unfold tryMethod
  refine wpAny_bind (special_fn X I hr (beq_iff_eq.mp hg) (wpAny_mono h (fun v s' hv => ?_) fun _ _ e => e))
  cases v <;> first | exact hv.elim | exact wpAny_pure (wpAny_bind (wpAny_rule (wpAny_pure (wpAny_pure hv))))
end
end OwnOps
namespace OwnOps
open PySem PySem.W PySem.Calls
section
variable {prog : Program} {w : World} {A : Around} {E : Value → Shared → Prop} {s : Shared} {K : Frag} {x C f g L : Addr} {ox : Obj} {od : Option Obj} {i : Int} {t : Tok} {h₀ : Heap} {m : Str → Option Value} {b tb : Value}
/-- where the right one need not be asked first, the left one's answer is the comparison's -/
theorem one_way {op : CmpOp} {Q : Value → Shared → Prop} (hu : A.units < cLine) (X : K.In s.heap) (I : InstAt s.heap x ox C od) (hb : Looks (model prog w) s.heap (typeOf b) tb) (hn : notFirst K C tb = true)
    (one : wpAny (model prog w) A (tryCompare (.ref x) (cmpInfo op).2.1 b) (fun r s' => ∃ v, r = some v ∧ Q v s') E s) : wpAny (model prog w) A (richCompare op (.ref x) b) Q E s := by
  unfold richCompare
  rw [show oneThing? op (.ref x) b = none from oneThing_ref ..]
  refine wpAny_holding (wpAny_bind (wpAny_cRoomFor hu (wpAny_bind (I.type.here (wpAny_bind (hb.here ?_))))))
  by_cases q : (Value.ref C != tb) = true
  · have e : subIn K tb (.ref C) = some false := (Bool.or_eq_true_iff.mp hn).elim (fun e => absurd q (by rw [beq_iff_eq.mp e]; simp)) fun e => beq_iff_eq.mp e
    rw [if_pos q]
    refine wpAny_bind ((looks_subIn X e).here ?_)
    dsimp only
    rw [if_neg Bool.false_ne_true]
    exact wpAny_bind (wpAny_mono one (fun _ _ ⟨_, e, q⟩ => e ▸ wpAny_pure q) fun _ _ h => h)
  · rw [if_neg q]
    refine wpAny_bind (wpAny_pure ?_)
    dsimp only
    rw [if_neg Bool.false_ne_true]
    exact wpAny_bind (wpAny_mono one (fun _ _ ⟨_, e, q⟩ => e ▸ wpAny_pure q) fun _ _ h => h)
theorem ne_bind (self : Value) : bindSpecial (.builtin "object.__ne__") self = pure (.builtin "object.__ne__", [self]) := by kernel_rfl
theorem ne_plain : plainId "object.__ne__" = true := by decide +kernel
/-- a != b by an own __eq__ -/
theorem ne_K {Q : Value → Shared → Prop} (hu : A.units + 1 < cLine) (X : K.In s.heap) (I : InstAt s.heap x ox C od) (hb : Looks (model prog w) s.heap (typeOf b) tb) (hn : notFirst K C tb = true)
    (hne : findIn K (.ref C) "__ne__" = some (some (.builtin "object.__ne__"))) (hs : findIn K (.ref C) "__eq__" = some (some (.ref f))) (hf : isFn K (.ref f) = true) (hob : subIn K (.ref C) (.type "object") = some true)
    (h : wpAny (model prog w) A.in1 (call (.ref f) [.ref x, b]) (fun v s' => ∃ k, v = .bool k ∧ Q (.bool (!k)) s') E s) : wpAny (model prog w) A (richCompare .NotEq (.ref x) b) Q E s := by
  have one : wpAny (model prog w) A (tryCompare (.ref x) "__ne__" b) (fun r s' => ∃ v, r = some v ∧ Q v s') E s := by
    unfold tryCompare
    refine wpAny_bind ?_
    simp only [callSpecialIfBound?, bindSpecialIfBound?]
    refine wpAny_holding (wpAny_bind (wpAny_bind (wpAny_bind (I.type.here ((looks_findIn X hne).here ?_)))))
    have fin : wpAny (model prog w) A (call (.builtin "object.__ne__") ([.ref x] ++ [b]) >>= fun v => pure (some v)) (fun r s' => wpAny (model prog w) A (match r with | some .notImplemented | none => pure none | some v => pure (some v)) (fun r s' => ∃ v, r = some v ∧ Q v s') E s') E s := by
      refine wpAny_bind (wpAny_call (codeAny_call_builtin ne_plain PySem.F.cmpEntry_ne (check_slot PySem.F.cmpKind_ne PySem.F.cmpSplit_ne (I.type.andThen (looks_subIn X hob)) (PySem.F.cmpArgs_ne _ _) ?_)))
      unfold Builtin.«object.__ne__»
      refine wpAny_bind (wpAny_of_eq rfl ?_)
      refine wpAny_bind (wpAny_cRoomFor hu ?_)
      refine wpAny_bind (ifBound_K X I hs hf (wpAny_mono h (fun v s' hv => ?_) fun _ _ e => e))
      obtain ⟨k, rfl, q⟩ := hv
      refine wpAny_bind (wpAny_truthy_bool ?_)
      refine wpAny_pure ?_
      exact wpAny_pure (wpAny_pure ⟨_, rfl, q⟩)
    refine wpAny_bind (wpAny_askSetting (wpAny_ite ?_))
    split
    · exact wpAny_bind ((Looks.of_pure (ne_bind _)).here (wpAny_pure (by exact fin)))
    · exact wpAny_tryCatch (wpAny_bind ((Looks.of_pure (ne_bind _)).here (wpAny_pure (by exact fin))))
  exact one_way (Nat.lt_of_succ_lt hu) X I hb hn one
end
end OwnOps

set_option Elab.async false
set_option linter.all false
set_option maxRecDepth 100000
set_option maxHeartbeats 2000000
namespace DL
open PySem L2

/-! ### objects -/
/-- a method of the class at C -/
structure Mt (P : Program) (w : World) (K : PySem.W.Frag) (mg : Str → Option Value) (base : Heap) (C : Addr) (m : Str) (k : Nat) (sp : SpD) : Prop where
  ex : ∃ f fd ps, GnOk P w K mg base k f fd ps (lift K sp) ∧ Meth K C m f ∧ Binds K fd ps []
/-- a property of the class at C -/
structure Pr (P : Program) (w : World) (K : PySem.W.Frag) (mg : Str → Option Value) (base : Heap) (C : Addr) (m : Str) (k : Nat) (sp : SpD) : Prop where
  ex : ∃ p f fd ps, GnOk P w K mg base k f fd ps (lift K sp) ∧ PropOf K C m p f ∧ Binds K fd ps []
section
variable {X : Cx} {B : Hp} {S : En} {pos p apos : Pos} {Q : D → Prop} {e o : Expr} {es : List Expr} {x m f : Str} {k n : Nat} {sp : SpD} {C : Addr}
theorem ed_fld (c : Cls X.K C) (na : NoAttr X.K C f) (h : ED X B S o fun x => ∃ fs d, x = .obj C fs ∧ fs.lookup f = some d ∧ Q d) (hb : attributeBase o f X.env (eval o X.env) = eval o X.env := by rfl) : ED X B S (.Attribute o f pos) Q := fun σ W H r R k => by
  refine PE.w (pe_fld we_pe hb) ?_
  refine h σ W H r _ fun d v W1 H1 s1 ok1 n1 q1 => ?_
  obtain ⟨fs, d', rfl, l, q1⟩ := q1
  cases n1 with
  | obj ha m =>
    obtain ⟨v', e1, n2⟩ := m.look l
    exact ⟨_, C, _, _, v', rfl, ok1.ex _ _ ha, c, na, e1, (k.step s1 ok1).now ok1 n2 q1⟩
theorem ed_prop (c : Cls X.K C) (F : Pr X.prog X.w X.K X.mg X.base C f k sp) (hr : Room (k + 1) X.A) (hG : X.A.guards = some (gOf X)) (h : ED X B S o fun x => ∃ fs, x = .obj C fs ∧ sp [.val x] Q) (hb : attributeBase o f X.env (eval o X.env) = eval o X.env := by rfl) : ED X B S (.Attribute o f pos) Q := fun σ W H r R c' => by
  obtain ⟨pp, g, fd, ps, F, hp, bb⟩ := F.ex
  refine we_prop c hp F hr hG bb .nil ?_ hb
  refine h σ W H r _ fun d v W1 H1 s1 ok1 n1 q1 => ?_
  obtain ⟨fs, rfl, q1⟩ := q1
  cases id n1 with
  | obj ha m => exact ⟨_, _, _, rfl, ok1.ex _ _ ha, [.val (.obj C fs)], W1, Q, ok1, .cons n1 .nil, q1, c'.step s1 ok1⟩
theorem ed_meth {pl : Sem Bool} (c : Cls X.K C) (F : Mt X.prog X.w X.K X.mg X.base C m k sp) (hr : Room k X.A) (hG : X.A.guards = some (gOf X)) (h : ED X B S o fun x => ∃ fs, x = .obj C fs ∧ fs.lookup m = none ∧ AD X B S (e :: es) fun as => sp (.val x :: as) Q)
    (hst : starEach (e :: es) X.env = (false, eval e X.env) :: starEach es X.env := by rfl) (hpl : (backTo pos (starEach es X.env)).any (·.1) = false := by rfl)
    (ht : eval (.Call (.Attribute o m apos) (e :: es) [] pos) X.env = (do
      let ov ← eval o X.env
      standAt apos.atName
      let (f, first) ← holding [ov] (getMethod ov m pl)
      callWith pos f first (backTo pos (starEach (e :: es) X.env)) (backToKw pos (keywordEach [] X.env))) := by rfl) : ED X B S (.Call (.Attribute o m apos) (e :: es) [] pos) Q := fun σ W H r R c' => by
  obtain ⟨f, fd, ps, F, M, bb⟩ := F.ex
  refine we_meth c M F hr hG bb .nil ?_ hst hpl ht
  refine h σ W H r _ fun d v W1 H1 s1 ok1 n1 q1 => ?_
  obtain ⟨fs, rfl, l, q1⟩ := q1
  cases id n1 with
  | obj ha mm =>
    refine ⟨_, _, _, rfl, ok1.ex _ _ ha, mm.nolook l, ?_⟩
    refine q1 σ W1 H1 (r.step s1 ok1) _ fun as vs W2 H2 s2 ok2 n2 q2 => ?_
    rw [List.append_nil]
    exact ⟨.val (.obj C fs) :: as, W2, Q, ok2, .cons (show Arg X.K W2 (.val (.obj C fs)) _ from n1.mono s2.I) n2, q2, (c'.step s1 ok1).step s2 ok2⟩
theorem ed_meth0 {pl : Sem Bool} (c : Cls X.K C) (F : Mt X.prog X.w X.K X.mg X.base C m k sp) (hr : Room k X.A) (hG : X.A.guards = some (gOf X)) (h : ED X B S o fun x => ∃ fs, x = .obj C fs ∧ fs.lookup m = none ∧ sp [.val x] Q)
    (ht : eval (.Call (.Attribute o m apos) [] [] pos) X.env = (do
      let ov ← eval o X.env
      standAt apos.atName
      let (f, first) ← holding [ov] (getMethod ov m pl)
      callWith pos f first (backTo pos (starEach [] X.env)) (backToKw pos (keywordEach [] X.env))) := by rfl) : ED X B S (.Call (.Attribute o m apos) [] [] pos) Q := fun σ W H r R c' => by
  obtain ⟨f, fd, ps, F, M, bb⟩ := F.ex
  refine we_meth0 c M F hr hG bb .nil ?_ ht
  refine h σ W H r _ fun d v W1 H1 s1 ok1 n1 q1 => ?_
  obtain ⟨fs, rfl, l, q1⟩ := q1
  cases id n1 with
  | obj ha mm =>
    refine ⟨_, _, _, rfl, ok1.ex _ _ ha, mm.nolook l, ?_⟩
    show lift X.K sp (gOf X) (V.ref _ :: []) H1 R
    exact ⟨[.val (.obj C fs)], W1, Q, ok1, .cons n1 .nil, q1, c'.step s1 ok1⟩
end

/-! ### objects made -/
abbrev SpI := List Sl → (List (Str × D) → Prop) → Prop
def liftI (K : PySem.W.Frag) (C : Addr) (sp : SpI) : SpG := fun g vs H R => ∃ (p dx : Addr) (us : List V) (H1 : Hp) (W : Wd) (as : List Sl) (Q : List (Str × D) → Prop), vs = .ref p :: us ∧ H = upd (upd H1 dx (.own p)) p (.ins C dx []) ∧ H1 p = none ∧ H1 dx = none ∧ dx ≠ p ∧
  Ok g W H1 ∧ Args K W as us ∧ sp as Q ∧ ∀ fs vs2 W' H', Stp W H1 W' H' → Ok g W' H' → ¬ W'.P p → W'.I p = none → H' p = some (.ins C dx vs2) → Dnf K W'.I fs vs2 → Q fs → R .non H'
/-- the class that the module calls x, at C; ds: what its last parameters are without arguments -/
structure Kl (P : Program) (w : World) (K : PySem.W.Frag) (mg : Str → Option Value) (base : Heap) (x : Str) (C : Addr) (k : Nat) (dds : List D) (sp : SpI) : Prop where
  ex : ∃ f fd ps dvs ds, GnOk P w K mg base k f fd ps (liftI K C sp) ∧ Mk K C f ∧ mg x = some (.ref C) ∧ Binds K fd ps ds ∧ Vals dvs ds ∧ ∀ I, Dns K I dds dvs
section
variable {X : Cx} {B : Hp} {S : En} {pos p apos : Pos} {Q : D → Prop} {e o : Expr} {es : List Expr} {x m f : Str} {k n : Nat} {sp : SpI} {C : Addr} {dds : List D}
theorem Args.data {K : PySem.W.Frag} {W : Wd} : ∀ {ds : List D} {vs : List V}, Dns K W.I ds vs → Args K W (ds.map Sl.val) vs
  | _, _, .nil => .nil
  | _, _, .cons h r => .cons h (Args.data r)
theorem Args.append {K : PySem.W.Frag} {W : Wd} : ∀ {as bs : List Sl} {vs us : List V}, Args K W as vs → Args K W bs us → Args K W (as ++ bs) (vs ++ us)
  | _, _, _, _, .nil, s => s
  | _, _, _, _, .cons h r, s => .cons h (Args.append r s)
theorem cont_make {K : PySem.W.Frag} {g : List Code} {W : Wd} {H : Hp} {R : VK} (c : Cont K g W H Q R) {as : List Sl} {vs : List V} (ok : Ok g W H) (n : Args K W as vs) (q : sp as fun fs => Q (.obj C fs)) : ∀ x dx, H x = none → H dx = none → dx ≠ x → liftI K C sp g (.ref x :: vs) (upd (upd H dx (.own x)) x (.ins C dx [])) (fun v H2 => v = .non ∧ R (.ref x) H2) := fun x dx hx hdx ne =>
  ⟨x, dx, vs, H, W, as, _, rfl, rfl, hx, hdx, ne, ok, n, q, fun fs vs2 W' H' st ok' nP i hp d q2 => ⟨rfl, c (.obj C fs) (.ref x) _ H' (st.frz hx i) (ok'.frz hp nP fun z => (ok.gd _ z).2 hx) (.obj (show upd W'.I x _ x = _ from upd_same) (d.mono (Ex.new i))) q2⟩⟩
/-- C(e, ..), the rest of its parameters as they are without arguments -/
theorem ed_make (F : Kl X.prog X.w X.K X.mg X.base x C k dds sp) (hr : Room (k + 1) X.A) (hG : X.A.guards = some (gOf X)) (h : AD X B S (e :: es) fun as => sp (as ++ dds.map Sl.val) fun fs => Q (.obj C fs)) (hg : Gl X x := by rfl) (hdb : (x == ("__debug__" : Str)) = false := by decide)
    (he : starEach (e :: es) X.env = (false, eval e X.env) :: starEach es X.env := by rfl) (hpl : (backTo pos (starEach es X.env)).any (·.1) = false := by rfl) : ED X B S (.Call (.Name x p) (e :: es) [] pos) Q := fun σ W H r R c => by
  obtain ⟨f, fd, ps, dvs, ds, F, M, hm, hb, hd, hD⟩ := F.ex
  refine we_make M F hr hG hg hm hb hd ?_ hdb he hpl
  refine h σ W H r _ fun as vs W1 H1 s1 ok1 n1 q1 => ?_
  intro y dy hy hdy ne
  exact cont_make (c.step s1 ok1) ok1 (n1.append (Args.data (hD W1.I))) q1 y dy hy hdy ne
/-- C(e, ..), all parameters given -/
theorem ed_makeA {sp : SpI} (F : Kl X.prog X.w X.K X.mg X.base x C k [] sp) (hr : Room (k + 1) X.A) (hG : X.A.guards = some (gOf X)) (h : AD X B S (e :: es) fun as => sp as fun fs => Q (.obj C fs)) (hg : Gl X x := by rfl) (hdb : (x == ("__debug__" : Str)) = false := by decide)
    (he : starEach (e :: es) X.env = (false, eval e X.env) :: starEach es X.env := by rfl) (hpl : (backTo pos (starEach es X.env)).any (·.1) = false := by rfl) : ED X B S (.Call (.Name x p) (e :: es) [] pos) Q :=
  ed_make F hr hG (by simpa using h) hg hdb he hpl
end
/-! __init__ -/
def putD (f : Str) (d : D) : List (Str × D) → List (Str × D)
  | [] => [(f, d)]
  | (g, e) :: r => if g = f then (g, d) :: r else (g, e) :: putD f d r
theorem Dnf.put {K : PySem.W.Frag} {I : Hp} {f : Str} {d : D} {v : V} (h : Dn K I d v) : ∀ {fs : List (Str × D)} {vs : List (Str × V)}, Dnf K I fs vs → Dnf K I (putD f d fs) (putF f v vs)
  | _, _, .nil => .cons h .nil
  | _, _, .cons (f := g) q r => by
    unfold putD putF
    by_cases e : g = f
    · rw [if_pos e, if_pos e]
      exact .cons h r
    · rw [if_neg e, if_neg e]
      exact .cons q (Dnf.put h r)
theorem Dnf.length {K : PySem.W.Frag} {I : Hp} : ∀ {fs : List (Str × D)} {vs : List (Str × V)}, Dnf K I fs vs → fs.length = vs.length
  | _, _, .nil => rfl
  | _, _, .cons _ r => congrArg (· + 1) (Dnf.length r)
def notInst : Option Sl → Bool
  | some (.inst _ _ _ _) => false
  | _ => true
section
variable {X : Cx} {B : Hp} {W0 : Wd} {S : En} {e : Expr} {pos p p1 : Pos} {E : Ends'} {x f : Str} {C : Addr}
/-- self.f = e, self the object that is being made -/
theorem sd_fld {q dx : Addr} (i : Nat) (fs : List (Str × D)) (c : Cls X.K C) (na : NoAttr X.K C f) (hN : X.N[i]? = some x) (h : S[i]? = some (some (.inst C q dx fs))) (hl : fs.length < 1000) (one : (S.set i none).all notInst = true) (he : ED X B S e fun d => E.nx (S.set i (some (.inst C q dx (putD f d fs)))))
    (hv : Vis X.env.scope x := by first | exact Or.inl rfl | exact Or.inr (Or.inl rfl) | exact Or.inr (Or.inr rfl)) (hd : (x == ("__debug__" : Str)) = false := by decide) (hcd : (x == ("__classdict__" : Str)) = false := by decide)
    (hs : swapsWith e (some (.Attribute (.Name x p) f p1)) pos.line X.env = pure false := by rfl) : SD X B W0 S (.Assign [.Attribute (.Name x p) f p1] e pos) E := fun σ W H r z D' k => by
  refine PS.w (ps_fld (pe_var hN hv hd hcd) we_pe hs) ?_
  refine he σ W H r _ fun d v W1 H1 s1 ok1 n1 q1 => ?_
  have r1 := r.step s1 ok1
  obtain ⟨v0, e1, vs, ev, b1, b2, ne, n, n2, i1, i2, hp, hdx, dn⟩ := r1.sl i _ h
  subst ev
  refine ⟨_, e1, q, C, dx, vs, rfl, hp, c, na, dn.length ▸ hl, ?_⟩
  have ok2 : Ok (gOf X) W1 (upd H1 q (.ins C dx (putF f v vs))) := {
    gd := fun b hb => by
      obtain ⟨n1, n2⟩ := ok1.gd b hb
      refine ⟨n1, ?_⟩
      by_cases y : b = q
      · subst y
        rw [upd_same]
        exact fun z => by cases z
      · rw [upd_ne y]
        exact n2
    ex := fun b o hb => by
      rw [upd_ne (fun y => by rw [y, i1] at hb; cases hb)]
      exact ok1.ex b o hb
    pot := fun b hb => by
      obtain ⟨nb, y2, w2, h2⟩ := ok1.pot b hb
      have ne : b ≠ q := fun y => n (y ▸ hb)
      exact ⟨nb, y2, w2, by rw [upd_ne ne]; exact h2⟩ }
  have z1 := z.trans r.ok s1
  have z2 : Stp W0 B W1 (upd H1 q (.ins C dx (putF f v vs))) := ⟨z1.I, z1.P, fun b o hb hn => by rw [upd_ne (ne_of_none hb b1)]; exact z1.keep b o hb hn, z1.old, z1.oldP⟩
  have lt : i < S.length := (List.getElem?_eq_some_iff.mp h).1
  refine k.nx _ σ W1 _ ?_ z2 s1.I q1
  refine ⟨ok2, r.gb, by simpa using r.len, fun j s ej => ?_, fun a b la lb c ne e2 e3 e4 => ?_⟩
  · by_cases y : i = j
    · subst y
      rw [List.getElem?_set_self lt] at ej
      cases ej
      exact ⟨_, e1, _, rfl, b1, b2, ne, n, n2, i1, i2, upd_same, by rw [upd_ne ne]; exact hdx, dn.put n1⟩
    · rw [List.getElem?_set_ne y] at ej
      obtain ⟨v2, e2, h2⟩ := r1.sl j s ej
      refine ⟨v2, e2, ?_⟩
      cases s with
      | val d2 => exact h2
      | pot => exact h2
      | own m =>
        obtain ⟨p2, ys, rfl, c1, c2, c3, c4, c5⟩ := h2
        refine ⟨p2, ys, rfl, c1, c2, c3, ?_, c5⟩
        rw [upd_ne (fun y => by rw [y, hp] at c4; cases c4)]
        exact c4
      | inst C' q' dx' fs' =>
        exfalso
        have e5 : (S.set i none)[j]? = some (some (.inst C' q' dx' fs')) := by rw [List.getElem?_set_ne y]; exact ej
        have := List.all_eq_true.mp one _ (List.mem_of_getElem? e5)
        cases this
  · have g : ∀ {c : Nat} {m : List D}, (S.set i (some (.inst C q dx (putD f d fs))))[c]? = some (some (.own m)) → S[c]? = some (some (.own m)) := fun {c m} ec => by
      by_cases q2 : i = c
      · subst q2
        rw [List.getElem?_set_self lt] at ec
        cases ec
      · rw [List.getElem?_set_ne q2] at ec
        exact ec
    exact r1.dist a b la lb c ne (g e2) (g e3) e4
end
section
variable {P : Program} {w : World} {K : PySem.W.Frag} {mg : Str → Option Value} {base : Heap}
/-- an __init__ by its body: self is slot 0 -/
theorem init_dl {x qual : Str} {st : Stmt} {f C : Addr} {fd : FuncData} {N ps : List Str} {k : Nat} {sp : SpI} (F : FunS K x qual st f fd) (hS : FnScope N ps (defScope st)) (len : ∀ as Q, sp as Q → as.length + 1 = ps.length)
    (body : ∀ cdv A outer s H, Room k (A.deeper (PyProof.Rows.envOfC qual (defScope st) s.heap.objs.size f cdv)) → (Bx P w K mg base N qual st f cdv A outer s H).A.guards = some (gOf (Bx P w K mg base N qual st f cdv A outer s H)) → ∀ W B as Q p dx, sp as Q → SDs (Bx P w K mg base N qual st f cdv A outer s H) B W (startE N (.inst C p dx [] :: as)) (defBody st) { nx := fun S' => ∃ fs, S'[0]? = some (some (.inst C p dx fs)) ∧ Q fs, rt := fun _ => False }) :
    GnOk P w K mg base (k + 1) f fd ps (liftI K C sp) := by
  refine gn_of F hS (fun g vs H Q h => ?_) (fun cdv A outer s H g vs R hr hG h => ?_)
  · obtain ⟨p, dx, us, H1, W, as, Qd, rfl, _, _, _, _, _, ha, hsp, _⟩ := h
    rw [← len _ _ hsp, List.length_cons, Paired.length ha]
  · obtain ⟨p, dx, us, H1, W, as, Qd, rfl, eH, hp, hdx, ne, ok, ha, hsp, c⟩ := h
    refine ⟨WSs _ (defBody st), wss_pss, ?_⟩
    obtain ⟨g1, g2⟩ := gOf_bx (P := P) (w := w) (K := K) (mg := mg) (base := base) (N := N) (qual := qual) (st := st) (f := f) (cdv := cdv) (outer := outer) (s := s) (H := H) hG
    have st1 : Stp W H1 W H := by
      rw [eH]
      exact (Stp.own hdx).trans (ok.own hdx) (Stp.own (by rw [upd_ne (Ne.symm ne)]; exact hp))
    have ok1 : Ok g W H := by
      rw [eH]
      exact (ok.own hdx).own (by rw [upd_ne (Ne.symm ne)]; exact hp)
    have rep : Rep K g H1 (startE N (.inst C p dx [] :: as)) (L2.start N (.ref p :: us)) W H := by
      have r0 := rep_start (N := N.tail) ok1 (ha.step st1)
      have hN : N.length = N.tail.length + 1 := by
        have h1 := hS.pre
        have h2 := len _ _ hsp
        have h3 : ps.length ≤ N.length := by
          have := congrArg List.length h1
          rw [List.length_take] at this
          omega
        rw [List.length_tail]
        omega
      have e1 : startE N (.inst C p dx [] :: as) = some (.inst C p dx []) :: startE N.tail as := by
        unfold startE
        rw [hN]
        simp [Nat.add_sub_add_right]
      have e2 : L2.start N (.ref p :: us) = some (.ref p) :: L2.start N.tail us := by
        unfold L2.start
        rw [hN]
        simp [Nat.add_sub_add_right]
      rw [e1, e2]
      refine ⟨ok1, fun b hb => (ok.gd b hb).2, by simp [r0.len], fun i s e => ?_, fun i j l m q n a1 a2 a3 => ?_⟩
      · cases i with
        | zero =>
          cases e
          refine ⟨_, rfl, [], rfl, hp, hdx, ne, ok.notP hp, ok.notP hdx, ok.free hp, ok.free hdx, ?_, ?_, .nil⟩
          · rw [eH]; exact upd_same
          · rw [eH, upd_ne ne]; exact upd_same
        | succ i =>
          obtain ⟨v, a1, a2⟩ := r0.sl i s e
          refine ⟨v, a1, ?_⟩
          cases s with
          | val d => exact a2
          | pot => exact a2
          | own l =>
            exfalso
            have key : ∀ {as : List Sl} {vs : List V} {n : Nat} {i : Nat}, Args K W as vs → (as.map some ++ List.replicate n none)[i]? = some (some (.own l)) → False := by
              intro as vs n i h
              induction h generalizing i with
              | nil =>
                intro e
                simp only [List.map_nil, List.nil_append, List.getElem?_replicate] at e
                split at e <;> cases e
              | @cons a v as vs h1 _ ih =>
                intro e
                cases i with
                | zero =>
                  simp only [List.map_cons, List.cons_append, List.getElem?_cons_zero, Option.some.injEq] at e
                  subst e
                  exact h1
                | succ i =>
                  simp only [List.map_cons, List.cons_append, List.getElem?_cons_succ] at e
                  exact ih e
            exact key ha e
          | inst C' q' dx' fs =>
            exfalso
            have key : ∀ {as : List Sl} {vs : List V} {n : Nat} {i : Nat}, Args K W as vs → (as.map some ++ List.replicate n none)[i]? = some (some (.inst C' q' dx' fs)) → False := by
              intro as vs n i h
              induction h generalizing i with
              | nil =>
                intro e
                simp only [List.map_nil, List.nil_append, List.getElem?_replicate] at e
                split at e <;> cases e
              | @cons a v as vs h1 _ ih =>
                intro e
                cases i with
                | zero =>
                  simp only [List.map_cons, List.cons_append, List.getElem?_cons_zero, Option.some.injEq] at e
                  subst e
                  exact h1
                | succ i =>
                  simp only [List.map_cons, List.cons_append, List.getElem?_cons_succ] at e
                  exact ih e
            exact key ha e
      · cases i with
        | zero => cases a1
        | succ i => cases j with
          | zero => cases a2
          | succ j => exact r0.dist i j l m q (fun z => n (congrArg (· + 1) z)) a1 a2 a3
    refine body cdv A outer s H hr (by rw [g2]; exact g1) W H1 as Qd p dx hsp (L2.start N (.ref p :: us)) W H (by rw [g2]; exact rep) st1 _ ?_
    rw [g2]
    refine ⟨fun S σ W' H' r z _ q => ?_, fun d v W' H' ok' z _ n q => q.elim, fun _ _ _ _ _ _ _ q => q.elim, fun _ _ _ _ _ _ _ q => q.elim⟩
    obtain ⟨fs, e, q⟩ := q
    obtain ⟨v, _, vs2, _, _, _, _, n1, _, i1, _, hp', _, dn⟩ := r.sl 0 _ e
    exact c fs vs2 W' H' z r.ok n1 i1 hp' dn q
end
end DL

set_option Elab.async false
set_option linter.all false
set_option maxRecDepth 100000
set_option maxHeartbeats 4000000
namespace DL
open PySem L2

/-! ### isinstance -/
/-- the class at C, as isinstance asks -/
structure Isi (K : PySem.W.Frag) (C : Addr) : Prop where
  cl : Cls K C
  ca : PySem.W.findIn K (.ref C) "__class__" = some (some (.builtin "object.__class__"))
  cn : PySem.W.specialIn K (.builtin "object.__class__") "__get__" = some (some (.builtin "getset_descriptor.__get__"))
  ct : PySem.W.takesIn K (.builtin "object.__class__") = some true
  cm : PySem.W.mroIn K C (.type "object") = some true
/-- the type of a datum -/
inductive TyD (K : PySem.W.Frag) : D → Value → Prop
  | non : TyD K .non (.type "NoneType")
  | bl (b) : TyD K (.bl b) (.type "bool")
  | int (i) : TyD K (.int i) (.type "int")
  | str (s) : TyD K (.str s) (.type "str")
  | tup (l) : TyD K (.tup l) (.type "tuple")
  | lst (l) : TyD K (.lst l) (.type "list")
  | obj {C} (fs) (h : Isi K C) : TyD K (.obj C fs) (.ref C)
  | dct : TyD K .dct (.type "dict")
theorem TyD.x {K : PySem.W.Frag} {W : Wd} {H : Hp} {d : D} {v : V} {t : Value} (h : TyD K d t) (ok : Ok g W H) (n : Dn K W.I d v) : TyX K H v t := by
  cases h with
  | non => cases n; exact .base .non
  | bl b => cases n; exact .base (.bl b)
  | int i => cases n; exact .base (.int i)
  | str s => cases n; exact .base (.str s)
  | tup l => cases n with | tup h _ => exact .base (.tup (ok.ex _ _ h))
  | lst l => cases n with | lst h _ => exact .base (.lst (ok.ex _ _ h))
  | obj fs i => cases n with | obj h _ => exact .base (.ins (ok.ex _ _ h) i.cl i.ca i.cn i.ct i.cm)
  | dct => cases n with | dct h => exact .base (.dK (ok.ex _ _ h))
/-- a class as a datum -/
inductive ClD : D → Value → Prop
  | ty (n) : ClD (.ty n) (.type n)
  | cls (C) : ClD (.cls C) (.ref C)
theorem ClD.v {K : PySem.W.Frag} {I : Hp} {d : D} {v : V} {u : Value} (h : ClD d u) (n : Dn K I d v) : ClsV v u := by
  cases h with
  | ty m => cases n; exact .ty m
  | cls C => cases n; exact .own C
section
variable {X : Cx} {B : Hp} {S : En} {pos p apos : Pos} {Q : D → Prop} {e o a b : Expr} {es : List Expr} {x m f : Str}
theorem ed_ty {n : String} (hm : X.mg x = none) (q : Q (.ty n)) (hv : bootBuiltins x = some (.type n) := by first | rfl | decide +kernel) (hg : Gl X x := by rfl) (hn : x ≠ "__name__" := by decide) (hd : (x == ("__debug__" : Str)) = false := by decide) : ED X B S (.Name x pos) Q := fun σ W H r R k =>
  PE.w (pe_bltn (v := .ty n) hg hm hv rfl hn hd) (k.now r.ok (.ty n) q)
theorem ed_cls {C : Addr} (hm : X.mg x = some (.ref C)) (q : Q (.cls C)) (hg : Gl X x := by rfl) (hd : (x == ("__debug__" : Str)) = false := by decide) : ED X B S (.Name x pos) Q := fun σ W H r R k =>
  PE.w (pe_glob (v := .ref C) hg hm rfl hd) (k.now r.ok (.cls C) q)
theorem ed_gint {i : Int} {t : Tok} (hm : X.mg x = some (.int i t)) (q : Q (.int i)) (hg : Gl X x := by rfl) (hd : (x == ("__debug__" : Str)) = false := by decide) : ED X B S (.Name x pos) Q := fun σ W H r R k =>
  PE.w (pe_glob (v := .int i) hg hm ⟨t, rfl⟩ hd) (k.now r.ok (.int i) q)
theorem cd_isi {d c : D} {t u : Value} {k : Bool} (ht : TyD X.K d t) (hc : ClD c u) (hk : PySem.W.kitOne X.K t u = some k) (q : Q (.bl k)) : CD X (.builtin "isinstance") [.val d, .val c] Q := cd_of call_isi fun vs W H ok ha R cc => by
  obtain ⟨v, w, rfl, h, h'⟩ := two_args ha
  exact ⟨v, w, t, u, k, rfl, hc.v h', ht.x ok h, hk, cc.now ok (.bl k) q⟩
theorem cd_isi2 {d c c' : D} {t u u' : Value} {k : Bool} (ht : TyD X.K d t) (hc : ClD c u) (hc' : ClD c' u') (hk : PySem.W.kitAny X.K t [u, u'] = some k) (q : Q (.bl k)) : CD X (.builtin "isinstance") [.val d, .val (.tup [c, c'])] Q := cd_of call_isiT fun vs W H ok ha R cc => by
  obtain ⟨v, w, rfl, h, h'⟩ := two_args ha
  cases h' with
  | tup hp m =>
    cases m with
    | cons h1 m => cases m with
      | cons h2 m =>
        cases m
        exact ⟨v, _, _, t, [u, u'], k, rfl, ok.ex _ _ hp, .cons (hc.v h1) (.cons (hc'.v h2) .nil), ht.x ok h, hk, cc.now ok (.bl k) q⟩
theorem cd_gcd {i j : Int} (q : Q (.int ((Nat.gcd i.natAbs j.natAbs : Nat) : Int))) : CD X (.builtin "math.gcd") [.val (.int i), .val (.int j)] Q := cd_of cr_gcd fun vs W H ok ha R c => by
  obtain ⟨v, u, rfl, h, h'⟩ := two_args ha
  cases h; cases h'
  exact ⟨i, j, rfl, c.now ok (.int _) q⟩
/-- a built-in function that the module imported -/
theorem ed_callM {id : String} (hm : X.mg x = some (.builtin id)) (h : AD X B S (e :: es) fun as => CD X (.builtin id) as Q) (hg : Gl X x := by rfl) (hdb : (x == ("__debug__" : Str)) = false := by decide)
    (he : starEach (e :: es) X.env = (false, eval e X.env) :: starEach es X.env := by rfl) (hpl : (backTo pos (starEach es X.env)).any (·.1) = false := by rfl) : ED X B S (.Call (.Name x p) (e :: es) [] pos) Q := fun σ W H r R c => by
  refine PE.w (pe_callBfun wc_call hg hm wa_pa hdb he hpl) ?_
  refine h σ W H r _ fun as vs W1 H1 s1 ok1 n1 q1 => ?_
  exact q1 vs W1 H1 ok1 n1 R (c.step s1 ok1)

/-! ### numbers of any size, texts -/
def CDivG (i j : Int) : Prop := j ≠ 0 ∧ j.natAbs.log2 < 9000
theorem op_fdivG : OpR X (binaryOp .FloorDiv) (rI CDivG fun i j => .int (i.fdiv j)) := opI fun i j _ _ _ _ _ hc q => PyProof.Rows.floordiv_int hc.1 q (.inl (PyProof.noPylong_of_log2 hc.2))
theorem od_fdiv {i j : Int} (hc : CDivG i j) (q : Q (.int (i.fdiv j))) : OD X (binaryOp .FloorDiv) (.int i) (.int j) Q := od_I op_fdivG hc (fun _ _ => .int _) q
theorem od_mul {i j : Int} (hc : CMulX i j) (q : Q (.int (i * j))) : OD X (binaryOp .Mult) (.int i) (.int j) Q := od_I op_mulX hc (fun _ _ => .int _) q
theorem od_mulS {i j : Int} (hc : (-(2 ^ 64) < i ∧ i < 2 ^ 64) ∨ (-(2 ^ 64) < j ∧ j < 2 ^ 64)) (q : Q (.int (i * j))) : OD X (binaryOp .Mult) (.int i) (.int j) Q := od_I op_mul hc (fun _ _ => .int _) q
theorem od_mod {i j : Int} (hc : 0 < j) (q : Q (.int (i % j))) : OD X (binaryOp .Mod) (.int i) (.int j) Q := od_I op_mod hc (fun _ _ => .int _) q
theorem od_pow {i j : Int} (hc : CPow i j) (q : Q (.int (i ^ j.toNat))) : OD X (binaryOp .Pow) (.int i) (.int j) Q := od_I op_pow hc (fun _ _ => .int _) q
theorem od_adds {s t : Str} (hl : s.length + t.length ≤ sizeLine) (q : Q (.str (s ++ t))) : OD X (binaryOp .Add) (.str s) (.str t) Q := by
  refine od_of op_add_str fun v u W H ok h1 h2 R c => ?_
  cases h1; cases h2
  exact ⟨s, t, rfl, rfl, hl, c.now ok (.str _) q⟩
/-- == and != of ints, of texts, of bools, of None -/
def scD : D → D → Bool
  | .int _, .int _ => true
  | .str _, .str _ => true
  | .bl _, .bl _ => true
  | _, _ => false
theorem od_eqi {i j : Int} (q : Q (.bl (decide (i = j)))) : OD X (compareOp .Eq) (.int i) (.int j) Q := by
  refine od_of op_eq fun v u W H ok h1 h2 R c => ?_
  cases h1; cases h2
  refine ⟨rfl, c.now ok (.bl _) ?_⟩
  have e : decide (V.int i = V.int j) = decide (i = j) := by by_cases z : i = j <;> simp [z]
  rw [e]
  exact q
theorem od_nei {i j : Int} (q : Q (.bl (!decide (i = j)))) : OD X (compareOp .NotEq) (.int i) (.int j) Q := by
  refine od_of op_ne fun v u W H ok h1 h2 R c => ?_
  cases h1; cases h2
  refine ⟨rfl, c.now ok (.bl _) ?_⟩
  have e : decide (V.int i = V.int j) = decide (i = j) := by by_cases z : i = j <;> simp [z]
  rw [e]
  exact q
theorem od_eqs {i j : Str} (q : Q (.bl (decide (i = j)))) : OD X (compareOp .Eq) (.str i) (.str j) Q := by
  refine od_of op_eq fun v u W H ok h1 h2 R c => ?_
  cases h1; cases h2
  refine ⟨rfl, c.now ok (.bl _) ?_⟩
  have e : decide (V.str i = V.str j) = decide (i = j) := by by_cases z : i = j <;> simp [z]
  rw [e]
  exact q
theorem od_nes {i j : Str} (q : Q (.bl (!decide (i = j)))) : OD X (compareOp .NotEq) (.str i) (.str j) Q := by
  refine od_of op_ne fun v u W H ok h1 h2 R c => ?_
  cases h1; cases h2
  refine ⟨rfl, c.now ok (.bl _) ?_⟩
  have e : decide (V.str i = V.str j) = decide (i = j) := by by_cases z : i = j <;> simp [z]
  rw [e]
  exact q
theorem od_eqb {i j : Bool} (q : Q (.bl (decide (i = j)))) : OD X (compareOp .Eq) (.bl i) (.bl j) Q := by
  refine od_of op_eq fun v u W H ok h1 h2 R c => ?_
  cases h1; cases h2
  refine ⟨rfl, c.now ok (.bl _) ?_⟩
  have e : decide (V.bl i = V.bl j) = decide (i = j) := by by_cases z : i = j <;> simp [z]
  rw [e]
  exact q
theorem od_isN {x : D} (q : Q (.bl (match x with | .non => true | _ => false))) : OD X (compareOp .Is) x .non Q := by
  refine od_of op_isN fun v u W H ok h1 h2 R c => ?_
  cases h2
  refine ⟨rfl, c.now ok (.bl _) ?_⟩
  cases h1 <;> exact q
theorem od_notN {x : D} (q : Q (.bl (match x with | .non => false | _ => true))) : OD X (compareOp .IsNot) x .non Q := by
  refine od_of op_notN fun v u W H ok h1 h2 R c => ?_
  cases h2
  refine ⟨rfl, c.now ok (.bl _) ?_⟩
  cases h1 <;> exact q
/-- lists joined, repeated -/
theorem od_catL {l m : List D} (hl : l.length + m.length ≤ 100000) (q : Q (.lst (l ++ m))) : OD X (binaryOp .Add) (.lst l) (.lst m) Q := by
  refine od_of op_cat fun v u W H ok h1 h2 R c => ?_
  cases h1 with
  | @lst _ _ xs a1 d1 => cases h2 with
    | @lst _ _ ys a2 d2 =>
      refine ⟨_, _, _, _, rfl, rfl, ok.ex _ _ a1, ok.ex _ _ a2, Nat.le_trans (by rw [← d1.length, ← d2.length]; exact hl) (by decide), fun p hp => ?_⟩
      have st := Stp.new (o := .lst (xs ++ ys)) ok hp
      exact c (.lst (l ++ m)) (.ref p) _ _ st (ok.new hp) (.lst (show upd W.I p _ p = _ from upd_same) ((d1.append d2).mono st.I)) q
theorem od_repL {l : List D} {k : Int} (hk : 0 ≤ k) (hl : l.length * k.toNat ≤ 100000) (hk2 : k < 2 ^ 63) (q : Q (.lst (List.replicate k.toNat l).flatten)) : OD X (binaryOp .Mult) (.lst l) (.int k) Q := by
  refine od_of op_rep fun v u W H ok h1 h2 R c => ?_
  cases h2
  cases h1 with
  | @lst _ _ xs a1 d1 =>
    refine ⟨_, k, _, rfl, rfl, ok.ex _ _ a1, by omega, hk2, Nat.le_trans (by rw [← d1.length]; exact hl) (by decide), fun p hp => ?_⟩
    have st := Stp.new (o := .lst (List.replicate k.toNat xs).flatten) ok hp
    exact c (.lst (List.replicate k.toNat l).flatten) (.ref p) _ _ st (ok.new hp) (.lst (show upd W.I p _ p = _ from upd_same) ((d1.rep k.toNat).mono st.I)) q
end
end DL

set_option Elab.async false
set_option linter.all false
set_option maxRecDepth 100000
set_option maxHeartbeats 4000000
namespace DL
open PySem L2

/-! ### == and != of plain data -/
mutual
inductive PyD : D → PyData → Prop
  | non : PyD .non .none
  | bl (b) : PyD (.bl b) (.bool b)
  | int (i) : PyD (.int i) (.int i)
  | str (s) : PyD (.str s) (.str s)
  | lst {l ds} : PyDs l ds → PyD (.lst l) (.list ds)
  | tup {l ds} : PyDs l ds → PyD (.tup l) (.tuple ds)
inductive PyDs : List D → List PyData → Prop
  | nil : PyDs [] []
  | cons {d l p ps} : PyD d p → PyDs l ps → PyDs (d :: l) (p :: ps)
end
section
variable {K : PySem.W.Frag} {g : List Code} {W : Wd} {H : Hp}
mutual
theorem PyD.dp (ok : Ok g W H) : ∀ {d : D} {p : PyData} {v : V}, PyD d p → Dn K W.I d v → Dp K H v p
  | _, _, _, .non, .non => .non
  | _, _, _, .bl b, .bl _ => .bl b
  | _, _, _, .int i, .int _ => .int i
  | _, _, _, .str s, .str _ => .str s
  | _, _, _, .lst h, .lst a n => .lst (SqL.of (ok.ex _ _ a)) (PyDs.dp ok h n)
  | _, _, _, .tup h, .tup a n => .tup (SqT.of (ok.ex _ _ a)) (PyDs.dp ok h n)
theorem PyDs.dp (ok : Ok g W H) : ∀ {l : List D} {ps : List PyData} {xs : List V}, PyDs l ps → Dns K W.I l xs → DpAll K H xs ps
  | _, _, _, .nil, .nil => .nil
  | _, _, _, .cons h r, .cons n m => .cons (PyD.dp ok h n) (PyDs.dp ok r m)
end
end
section
variable {X : Cx} {B : Hp} {S : En} {pos p apos : Pos} {Q : D → Prop} {x y : D} {d e : PyData}
theorem od_eqd (hu : X.A.units + 64 < cLine) (h1 : PyD x d) (h2 : PyD y e) (s1 : SeqAt.shaped d = true) (s2 : SeqAt.shaped e = true) (q : Q (.bl (PyData.eqv d e))) : OD X (compareOp .Eq) x y Q :=
  od_of (op_eqD hu) fun v u W H ok n1 n2 R c => ⟨d, e, h1.dp ok n1, h2.dp ok n2, s1, s2, c.now ok (.bl _) q⟩
theorem od_ned (hu : X.A.units + 64 < cLine) (h1 : PyD x d) (h2 : PyD y e) (s1 : SeqAt.shaped d = true) (s2 : SeqAt.shaped e = true) (q : Q (.bl (!PyData.eqv d e))) : OD X (compareOp .NotEq) x y Q :=
  od_of (op_neD hu) fun v u W H ok n1 n2 R c => ⟨d, e, h1.dp ok n1, h2.dp ok n2, s1, s2, c.now ok (.bl _) q⟩
end

/-! ### operators of own classes -/
theorem back {X : Cx} {pins : List (Addr × Obj)} {σ : L2.St} {R : VK} {v : Value} {s : Shared} (h : EP X pins σ R v s) : PySem.W.CmpBack (EP X pins σ R) v s := by
  obtain ⟨z, H, I, r, q⟩ := id h
  cases z with
  | non => cases (show v = Value.none from r); exact h
  | bl b => cases (show v = Value.bool b from r); exact h
  | int i => obtain ⟨t, e⟩ := (show ∃ t, v = Value.int i t from r); cases e; exact h
  | str x => obtain ⟨t, e⟩ := (show ∃ t, v = Value.str x t from r); cases e; exact h
  | byt b => obtain ⟨t, e⟩ := (show ∃ t, v = Value.bytes b t from r); cases e; exact h
  | flt b => obtain ⟨t, e⟩ := (show ∃ t, v = Value.float b t from r); cases e; exact h
  | ref a => cases (show v = Value.ref a from r); exact h
  | ty n => cases (show v = Value.type n from r); exact h
/-- a class whose instances stand beside ints -/
structure Num (K : PySem.W.Frag) (C : Addr) : Prop where
  cl : Cls K C
  sf : PySem.W.selfFirst K C = true
  nf : PySem.W.notFirst K C (.ref C) = true
  ni : PySem.W.notFirst K C (.type "int") = true
  si : PySem.W.subIn K (.type "int") (.ref C) = some false
  is : PySem.W.subIn K (.ref C) (.type "int") = some false
  ob : PySem.W.subIn K (.ref C) (.type "object") = some true
/-- a special method of the class at C -/
structure Sm (P : Program) (w : World) (K : PySem.W.Frag) (mg : Str → Option Value) (base : Heap) (C : Addr) (m : Str) (k : Nat) (sp : SpD) : Prop where
  ex : ∃ f fd ps, GnOk P w K mg base k f fd ps (lift K sp) ∧ PySem.W.findIn K (.ref C) m = some (some (.ref f)) ∧ PySem.W.isFn K (.ref f) = true ∧ Binds K fd ps []
section
variable {X : Cx} {B : Hp} {S : En} {pos p apos : Pos} {Q : D → Prop} {C : Addr} {k k' : Nat} {sp sp' : SpD} {fs gs : List (Str × D)}
theorem inst_at {pins : List (Addr × Obj)} {σ : L2.St} {H : Hp} {s : Shared} {a dx : Addr} {vs : List (Str × V)} (I : Inv X pins σ H s) (ha : H a = some (.ins C dx vs)) : ∃ ox od, PySem.W.InstAt s.heap a ox C (some od) := by
  obtain ⟨mA, O, _⟩ := ins_get I.hok ha
  obtain ⟨od, J, _⟩ := O.look
  exact ⟨_, od, J⟩
theorem args2 {K : PySem.W.Frag} {W : Wd} {d d' : D} {v u : V} (h : Dn K W.I d v) (h' : Dn K W.I d' u) : Args K W [.val d, .val d'] [v, u] := .cons h (.cons h' .nil)
theorem vals2 {v u : V} {v' u' : Value} (h : RelV v v') (h' : RelV u u') : Vals [v, u] [v', u'] := .cons h (.cons h' .nil)
/-- the def of a special method runs -/
theorem run_sm {m : Str} (F : Sm X.prog X.w X.K X.mg X.base C m k sp) (hr : Room k X.A) (hG : X.A.guards = some (gOf X)) {as : List Sl} {W : Wd} {H : Hp} (ok : Ok (gOf X) W H) {vs : List V} {us : List Value} (n : Args X.K W as vs) (q : sp as Q) {R : VK} (c : Cont X.K (gOf X) W H Q R)
    {pins : List (Addr × Obj)} {σ : L2.St} {s : Shared} (I : Inv X pins σ H s) (r : Vals vs us) : ∃ f, PySem.W.findIn X.K (.ref C) m = some (some (.ref f)) ∧ PySem.W.isFn X.K (.ref f) = true ∧ wpAny (model X.prog X.w) X.A (call (.ref f) us) (EP X pins σ R) X.xe s := by
  obtain ⟨f, fd, ps, F, hf, hi, hb⟩ := F.ex
  refine ⟨f, hf, hi, call_gn F hr hG hb .nil I r ?_⟩
  rw [List.append_nil]
  exact ⟨as, W, Q, ok, n, q, c⟩
/-- both of the class -/
theorem od_oo {op : Operator} (N : Num X.K C) (F : Sm X.prog X.w X.K X.mg X.base C (PySem.dunder op.info.2) k sp) (hr : Room k X.A) (hG : X.A.guards = some (gOf X)) (q : sp [.val (.obj C fs), .val (.obj C gs)] Q) : OD X (binaryOp op) (.obj C fs) (.obj C gs) Q := fun v u W H ok h1 h2 R c pins s σ v' u' I r1 r2 => by
  have aa := args2 h1 h2
  have rr := vals2 r1 r2
  cases id h1 with
  | obj a1 _ => cases id h2 with
    | obj a2 _ =>
      cases (show v' = Value.ref _ from r1)
      cases (show u' = Value.ref _ from r2)
      obtain ⟨ox, od, J⟩ := inst_at I (ok.ex _ _ a1)
      obtain ⟨oy, oe, J2⟩ := inst_at I (ok.ex _ _ a2)
      obtain ⟨f, hf, hi, hw⟩ := run_sm F hr hG ok aa q c I rr
      obtain ⟨mm, hF⟩ := I.fr
      exact PySem.W.binop_K hF I.ok.mod.kin J J2.type N.sf hf hi (wpAny_mono hw (fun _ _ h => back h) fun _ _ h => h)
/-- an int on the right -/
theorem od_oi {op : Operator} {i : Int} (N : Num X.K C) (F : Sm X.prog X.w X.K X.mg X.base C (PySem.dunder op.info.2) k sp) (G : Sm X.prog X.w X.K X.mg X.base C (dunderR op.info.2) k' sp') (hr : Room k X.A) (hG : X.A.guards = some (gOf X)) (q : sp [.val (.obj C fs), .val (.int i)] Q)
    (hint : fillsNumberSlot (.type "int") op.info.2 = pure true) (hl : ∃ r, PySem.W.findIn X.K (.type "int") (dunderR op.info.2) = some r) : OD X (binaryOp op) (.obj C fs) (.int i) Q := fun v u W H ok h1 h2 R c pins s σ v' u' I r1 r2 => by
  have aa := args2 h1 h2
  have rr := vals2 r1 r2
  cases id h1 with
  | obj a1 _ =>
    cases id h2
    cases (show v' = Value.ref _ from r1)
    obtain ⟨t, rfl⟩ := (show ∃ t, u' = Value.int i t from r2)
    obtain ⟨ox, od, J⟩ := inst_at I (ok.ex _ _ a1)
    obtain ⟨f, hf, hi, hw⟩ := run_sm F hr hG ok aa q c I rr
    obtain ⟨g, gd, ps, _, hg, _⟩ := G.ex
    exact OwnOps.own_int I.kIn J N.sf hf hg hi N.si hint hl (wpAny_mono hw (fun _ _ h => back h) fun _ _ h => h)
/-- int's own op declines an instance -/
theorem dec_bin {X : Cx} {name : String} {f : Int → Int → Sem Fin} {i : Int} {t : Tok} {x : Addr} {s : Shared} {A : Around} {Qf : Fin → Shared → Prop} {E : Value → Shared → Prop} {ox : Obj} (hx : s.heap.get? x = some ox) (hd : ∀ j u, ox.data ≠ .prim (.int j u))
    (q : Qf (.done (.ret .notImplemented)) s) : wpAny (model X.prog X.w) A (Builtin.Int.intBinary name f false ⟨[.int i t, .ref x], []⟩) Qf E s := by
  unfold Builtin.Int.intBinary
  refine wpAny_bind (wpAny_of_eq rfl ?_)
  refine wpAny_bind (wpAny_of_eq rfl ?_)
  refine wpAny_bind ?_
  show wpAny _ A (asInt? (.ref x)) _ E s
  unfold asInt?
  refine wpAny_bind (wpAny_load hx ?_)
  cases hdat : ox.data with
  | prim v =>
    cases v with
    | int j u => exact absurd hdat (hd j u)
    | _ => exact wpAny_pure (wpAny_bind (wpAny_rule (wpAny_pure q)))
  | _ => exact wpAny_pure (wpAny_bind (wpAny_rule (wpAny_pure q)))
end
end DL

set_option Elab.async false
set_option linter.all false
set_option maxRecDepth 100000
set_option maxHeartbeats 4000000
namespace DL
open PySem L2
section
variable {X : Cx} {B : Hp} {S : En} {pos p apos : Pos} {Q : D → Prop} {C : Addr} {k k' : Nat} {sp sp' : SpD} {fs gs : List (Str × D)} {e a : Expr} {es : List Expr} {x m : Str}
theorem obj_data {pins : List (Addr × Obj)} {σ : L2.St} {H : Hp} {s : Shared} {a dx : Addr} {vs : List (Str × V)} (I : Inv X pins σ H s) (ha : H a = some (.ins C dx vs)) : ∃ ox, s.heap.get? a = some ox ∧ ∀ j u, ox.data ≠ .prim (.int j u) := by
  obtain ⟨_, _, _, e, _⟩ := I.hok a _ ha
  exact ⟨_, e, fun j u z => nomatch z⟩
/-- an int on the left -/
theorem od_io {op : Operator} {i : Int} {name : String} {f : Int → Int → Sem Fin} {idl : String} (N : Num X.K C) (F : Sm X.prog X.w X.K X.mg X.base C (PySem.dunder op.info.2) k sp) (G : Sm X.prog X.w X.K X.mg X.base C (dunderR op.info.2) k' sp') (hr : Room k' X.A) (hG : X.A.guards = some (gOf X)) (q : sp' [.val (.obj C fs), .val (.int i)] Q)
    (hint : fillsNumberSlot (.type "int") op.info.2 = pure true) (slot : Slot "int" (PySem.dunder op.info.2) idl) (entry : entryFor table idl = some (Builtin.Int.intBinary name f false)) (args : ∀ a b, argsOk idl ⟨[a, b], []⟩) : OD X (binaryOp op) (.int i) (.obj C fs) Q := fun v u W H ok h1 h2 R c pins s σ v' u' I r1 r2 => by
  have aa := args2 h2 h1
  have rr := vals2 r2 r1
  cases id h2 with
  | obj a1 _ =>
    cases id h1
    cases (show u' = Value.ref _ from r2)
    obtain ⟨t, rfl⟩ := (show ∃ t, v' = Value.int i t from r1)
    obtain ⟨ox, od, J⟩ := inst_at I (ok.ex _ _ a1)
    obtain ⟨oy, hy, hd⟩ := obj_data I (ok.ex _ _ a1)
    obtain ⟨g, hg, hi, hw⟩ := run_sm G hr hG ok aa q c I rr
    obtain ⟨f', fd, ps, _, hf, _⟩ := F.ex
    exact OwnOps.int_own I.kIn J N.sf hf hg hi N.is hint slot entry (args _ _) (fun A Q E q => dec_bin hy hd q) (wpAny_mono hw (fun _ _ h => back h) fun _ _ h => h)
theorem od_addO {i : Int} (N : Num X.K C) (F : Sm X.prog X.w X.K X.mg X.base C "__add__" k sp) (G : Sm X.prog X.w X.K X.mg X.base C "__radd__" k' sp') (hr : Room k' X.A) (hG : X.A.guards = some (gOf X)) (q : sp' [.val (.obj C fs), .val (.int i)] Q) : OD X (binaryOp .Add) (.int i) (.obj C fs) Q :=
  od_io (op := .Add) N F G hr hG q PySem.F.fills_int_add PySem.F.slot_int_add PySem.F.entry_int_add PySem.F.args_int_add_2
theorem od_subO {i : Int} (N : Num X.K C) (F : Sm X.prog X.w X.K X.mg X.base C "__sub__" k sp) (G : Sm X.prog X.w X.K X.mg X.base C "__rsub__" k' sp') (hr : Room k' X.A) (hG : X.A.guards = some (gOf X)) (q : sp' [.val (.obj C fs), .val (.int i)] Q) : OD X (binaryOp .Sub) (.int i) (.obj C fs) Q :=
  od_io (op := .Sub) N F G hr hG q PySem.F.fills_int_sub PySem.F.slot_int_sub PySem.F.entry_int_sub PySem.F.args_int_sub_2
theorem od_mulO {i : Int} (N : Num X.K C) (F : Sm X.prog X.w X.K X.mg X.base C "__mul__" k sp) (G : Sm X.prog X.w X.K X.mg X.base C "__rmul__" k' sp') (hr : Room k' X.A) (hG : X.A.guards = some (gOf X)) (q : sp' [.val (.obj C fs), .val (.int i)] Q) : OD X (binaryOp .Mult) (.int i) (.obj C fs) Q :=
  od_io (op := .Mult) N F G hr hG q PySem.F.fills_int_mul PySem.F.slot_int_mul PySem.F.entry_int_mul PySem.F.args_int_mul_2
/-- - of an object -/
theorem ed_negO (N : Cls X.K C) (F : Sm X.prog X.w X.K X.mg X.base C "__neg__" k sp) (hr : Room k X.A) (hG : X.A.guards = some (gOf X)) (h : ED X B S a fun x => ∃ fs, x = .obj C fs ∧ sp [.val x] Q) : ED X B S (.UnaryOp .USub a pos) Q := fun σ W H r R c => by
  have un : UnR X (unaryOp .USub) (fun x H1 R1 => ∃ W1 fs, Ok (gOf X) W1 H1 ∧ Dn X.K W1.I (.obj C fs) x ∧ sp [.val (.obj C fs)] Q ∧ Cont X.K (gOf X) W1 H1 Q R1) := by
    intro pins s σ H x v R I rv h
    obtain ⟨W1, fs, ok, n, q, c⟩ := h
    have aa : Args X.K W1 [.val (.obj C fs)] [x] := .cons n .nil
    cases n with
    | obj a1 _ =>
      have rr : Vals [V.ref _] [v] := .cons rv .nil
      cases (show v = Value.ref _ from rv)
      obtain ⟨ox, od, J⟩ := inst_at I (ok.ex _ _ a1)
      obtain ⟨f, hf, hi, hw⟩ := run_sm F hr hG ok aa q c I rr
      unfold unaryOp
      refine wpAny_holding ?_
      show wpAny _ _ (do match ← callSpecial? (.ref _) "__neg__" with | some r => pure r | none => _) _ _ _
      exact wpAny_bind (PySem.W.special_fn I.kIn J hf (beq_iff_eq.mp hi) (wpAny_mono hw (fun _ _ h => wpAny_pure h) fun _ _ h => h))
  refine PE.w (pe_un un we_pe) ?_
  refine h σ W H r _ fun d v W1 H1 s1 ok1 n1 q1 => ?_
  obtain ⟨fs, rfl, q1⟩ := q1
  exact ⟨W1, fs, ok1, n1, q1, c.step s1 ok1⟩
/-- what typeOf tells of a datum -/
theorem ty_int {M : Model} {h : Heap} {i : Int} {t : Tok} : PySem.W.Looks M h (typeOf (.int i t)) (.type "int") := fun A Q E s k q => wpAny_typeOf (typeIs_int s _ _) q
/-- == by an own __eq__ -/
theorem od_eqO (N : Num X.K C) (F : Sm X.prog X.w X.K X.mg X.base C "__eq__" k sp) (hr : Room k X.A) (hG : X.A.guards = some (gOf X)) (q : sp [.val (.obj C fs), .val (.obj C gs)] Q) : OD X (compareOp .Eq) (.obj C fs) (.obj C gs) Q := fun v u W H ok h1 h2 R c pins s σ v' u' I r1 r2 => by
  have aa := args2 h1 h2
  have rr := vals2 r1 r2
  cases id h1 with
  | obj a1 _ => cases id h2 with
    | obj a2 _ =>
      cases (show v' = Value.ref _ from r1)
      cases (show u' = Value.ref _ from r2)
      obtain ⟨ox, od, J⟩ := inst_at I (ok.ex _ _ a1)
      obtain ⟨oy, oe, J2⟩ := inst_at I (ok.ex _ _ a2)
      obtain ⟨f, hf, hi, hw⟩ := run_sm F hr hG ok aa q c I rr
      obtain ⟨mm, hF⟩ := I.fr
      show wpAny _ _ (richCompare .Eq _ _) _ _ _
      exact PySem.W.cmp_K hr.units0 hF I.ok.mod.kin J J2.type N.nf hf hi (wpAny_mono hw (fun _ _ h => back h) fun _ _ h => h)
theorem od_eqOI {i : Int} (N : Num X.K C) (F : Sm X.prog X.w X.K X.mg X.base C "__eq__" k sp) (hr : Room k X.A) (hG : X.A.guards = some (gOf X)) (q : sp [.val (.obj C fs), .val (.int i)] Q) : OD X (compareOp .Eq) (.obj C fs) (.int i) Q := fun v u W H ok h1 h2 R c pins s σ v' u' I r1 r2 => by
  have aa := args2 h1 h2
  have rr := vals2 r1 r2
  cases id h1 with
  | obj a1 _ =>
    cases id h2
    cases (show v' = Value.ref _ from r1)
    obtain ⟨t, rfl⟩ := (show ∃ t, u' = Value.int i t from r2)
    obtain ⟨ox, od, J⟩ := inst_at I (ok.ex _ _ a1)
    obtain ⟨f, hf, hi, hw⟩ := run_sm F hr hG ok aa q c I rr
    obtain ⟨mm, hF⟩ := I.fr
    show wpAny _ _ (richCompare .Eq _ _) _ _ _
    exact PySem.W.cmp_K hr.units0 hF I.ok.mod.kin J ty_int N.ni hf hi (wpAny_mono hw (fun _ _ h => back h) fun _ _ h => h)
/-- != by an own __eq__ -/
theorem od_neO (N : Num X.K C) (hne : PySem.W.findIn X.K (.ref C) "__ne__" = some (some (.builtin "object.__ne__"))) (F : Sm X.prog X.w X.K X.mg X.base C "__eq__" k sp) (hr : Room (k + 1) X.A) (hG : X.A.guards = some (gOf X)) (q : sp [.val (.obj C fs), .val (.obj C gs)] fun d => ∃ b, d = .bl b ∧ Q (.bl (!b))) : OD X (compareOp .NotEq) (.obj C fs) (.obj C gs) Q := fun v u W H ok h1 h2 R c pins s σ v' u' I r1 r2 => by
  have aa := args2 h1 h2
  have rr := vals2 r1 r2
  cases id h1 with
  | @obj _ _ p1 _ _ a1 _ => cases id h2 with
    | @obj _ _ p2 _ _ a2 _ =>
      cases (show v' = Value.ref _ from r1)
      cases (show u' = Value.ref _ from r2)
      obtain ⟨ox, od, J⟩ := inst_at I (ok.ex _ _ a1)
      obtain ⟨oy, oe, J2⟩ := inst_at I (ok.ex _ _ a2)
      obtain ⟨f, fd, ps, F, hf, hi, hb⟩ := F.ex
      have hsp : lift X.K sp (gOf X) [.ref p1, .ref p2] H (fun z H' => ∃ b, z = .bl b ∧ R (.bl (!b)) H') := by
        refine ⟨_, W, _, ok, aa, q, fun d v2 W' H' st ok' n' q' => ?_⟩
        obtain ⟨b, rfl, q'⟩ := q'
        cases n'
        exact ⟨b, rfl, c (.bl (!b)) _ W' H' st ok' (.bl _) q'⟩
      show wpAny _ _ (richCompare .NotEq _ _) _ _ _
      refine OwnOps.ne_K (by have := hr.un; omega) I.kIn J J2.type N.nf hne hf hi N.ob ?_
      have hl : [Value.ref p1, Value.ref p2].length = ps.length := by rw [← F.len _ _ _ _ hsp]; rfl
      refine wpAny_call (run_gn (A := X.A.in1) F hr.in1 hG I.env0.in1 hb .nil I rr (by rw [List.append_nil]; exact hsp) fun u s' hv => ?_)
      obtain ⟨z, H', I3, rv, b, e, q3⟩ := hv
      subst e
      cases (show u = Value.bool b from rv)
      exact ⟨b, rfl, .bl (!b), H', I3, rfl, q3⟩
/-- an int == an object -/
theorem od_eqIO {i : Int} (N : Num X.K C) (F : Sm X.prog X.w X.K X.mg X.base C "__eq__" k sp) (hr : Room k X.A) (hG : X.A.guards = some (gOf X)) (q : sp [.val (.obj C fs), .val (.int i)] Q) : OD X (compareOp .Eq) (.int i) (.obj C fs) Q := fun v u W H ok h1 h2 R c pins s σ v' u' I r1 r2 => by
  have aa := args2 h2 h1
  have rr := vals2 r2 r1
  cases id h2 with
  | @obj _ _ p1 _ _ a1 _ =>
    cases id h1
    cases (show u' = Value.ref _ from r2)
    obtain ⟨t, rfl⟩ := (show ∃ t, v' = Value.int i t from r1)
    obtain ⟨ox, od, J⟩ := inst_at I (ok.ex _ _ a1)
    obtain ⟨oy, hy, hd⟩ := obj_data I (ok.ex _ _ a1)
    obtain ⟨f, hf, hi, hw⟩ := run_sm F hr hG ok aa q c I rr
    have one : wpAny (model X.prog X.w) X.A (tryCompare (.ref p1) "__eq__" (.int i t)) (fun r s' => ∃ v, r = some v ∧ EP X pins σ R v s') X.xe s := by
      unfold tryCompare
      refine wpAny_bind (PySem.W.ifBound_K I.kIn J hf hi (wpAny_mono hw (fun v s' hv => ?_) fun _ _ e => e))
      have hv := back hv
      cases v <;> first | exact hv.elim | exact wpAny_pure ⟨_, rfl, hv⟩
    show wpAny _ _ (richCompare .Eq _ _) _ _ _
    unfold richCompare
    refine wpAny_holding (wpAny_bind (wpAny_cRoomFor hr.units0 ?_))
    rw [show oneThing? .Eq (Value.int i t) (Value.ref p1) = none from rfl]
    dsimp only
    refine wpAny_bind (wpAny_typeOf (typeIs_int s _ _) (wpAny_bind (J.type.here ?_)))
    rw [if_pos (by rfl)]
    refine wpAny_bind ((PySem.W.looks_subIn I.kIn N.is).here ?_)
    simp only [Bool.false_eq_true, if_false]
    refine wpAny_bind (m := tryCompare _ _ _) (wpAny_tryCompare_declines (typeIs_int s _ _) PySem.F.slot_int_eq (wpAny_call (codeAny_call_builtin PySem.F.slot_int_eq.plain PySem.F.entry_int_eq (PySem.F.slot_int_eq.check _ _ _ _ _ _ _ _ (typeIs_int s _ _) (PySem.F.args_int_eq_2 _ _) (dec_bin hy hd ⟨rfl, ?_⟩)))))
    simp only [Bool.not_false, if_true]
    refine wpAny_bind (wpAny_mono one (fun r s' z => ?_) fun _ _ e => e)
    obtain ⟨v, rfl, hq⟩ := z
    exact wpAny_pure hq
end
end DL

set_option Elab.async false
set_option linter.all false
set_option maxRecDepth 100000
set_option maxHeartbeats 4000000
namespace DL
open PySem L2

/-! ### keywords -/
def KD (X : Cx) (B : Hp) (S : En) (kws : List Keyword) (Q : List Sl → Prop) : Prop := ∀ σ W H, Rep X.K (gOf X) B S σ W H → ∀ R, ContA X.K (gOf X) W H Q R → WK X kws σ H R
/-- C's __init__ by keywords ks alone: mid brings their values, and the defaults, into the parameters' order -/
structure KlK (P : Program) (w : World) (K : PySem.W.Frag) (mg : Str → Option Value) (base : Heap) (x : Str) (C : Addr) (k : Nat) (ks : List Str) (midD : List Sl → List Sl) (sp : SpI) : Prop where
  ex : ∃ f fd ps gf, ∃ mid : List V → List V, GnOk P w K mg base k f fd ps (liftI K C sp) ∧ Mk K C f ∧ mg x = some (.ref C) ∧ KBn K fd ps 1 ks gf (fun vs zs => vs ++ mid zs) ∧ ∀ W bs zs, Args K W bs zs → Args K W (midD bs) (mid zs)
structure MtK (P : Program) (w : World) (K : PySem.W.Frag) (mg : Str → Option Value) (base : Heap) (C : Addr) (m : Str) (k : Nat) (ks : List Str) (midD : List Sl → List Sl) (sp : SpD) : Prop where
  ex : ∃ f fd ps gf, ∃ mid : List V → List V, GnOk P w K mg base k f fd ps (lift K sp) ∧ Meth K C m f ∧ KBn K fd ps 1 ks gf (fun vs zs => vs ++ mid zs) ∧ ∀ W bs zs, Args K W bs zs → Args K W (midD bs) (mid zs)
/-- a class method -/
structure Cm (P : Program) (w : World) (K : PySem.W.Frag) (mg : Str → Option Value) (base : Heap) (C : Addr) (m : Str) (k : Nat) (sp : SpD) : Prop where
  ex : ∃ f fd ps p0 mc, GnOk P w K mg base k f fd ps (lift K sp) ∧ ClX.CRead K C mc ∧ ClX.CMet K C mc m p0 f ∧ Binds K fd ps []
structure CmK (P : Program) (w : World) (K : PySem.W.Frag) (mg : Str → Option Value) (base : Heap) (C : Addr) (m : Str) (k : Nat) (ks : List Str) (midD : List Sl → List Sl) (sp : SpD) : Prop where
  ex : ∃ f fd ps p0 mc gf, ∃ mid : List V → List V, GnOk P w K mg base k f fd ps (lift K sp) ∧ ClX.CRead K C mc ∧ ClX.CMet K C mc m p0 f ∧ KBn K fd ps 1 ks gf (fun vs zs => vs ++ mid zs) ∧ ∀ W bs zs, Args K W bs zs → Args K W (midD bs) (mid zs)
section
variable {X : Cx} {B : Hp} {S : En} {pos p apos kpos : Pos} {Q : D → Prop} {e o : Expr} {es : List Expr} {kws : List Keyword} {x m : Str} {nm : Option Str} {k : Nat} {C : Addr} {ks : List Str} {midD : List Sl → List Sl}
theorem kd_nil {Q : List Sl → Prop} (q : Q []) : KD X B S [] Q := fun σ W H r R c => PK.w pk_nil (c [] [] W H Stp.refl r.ok .nil q)
theorem kd_cons {Q : List Sl → Prop} (h : ED X B S e fun d => KD X B S kws fun as => Q (.val d :: as)) : KD X B S (⟨nm, e, kpos⟩ :: kws) Q := fun σ W H r R c => by
  refine PK.w (pk_cons we_pe wk_pk) ?_
  refine h σ W H r _ fun d v W1 H1 s1 ok1 n1 q1 => ?_
  refine q1 σ W1 H1 (r.step s1 ok1) _ fun as vs W2 H2 s2 ok2 n2 q2 => ?_
  exact c (.val d :: as) (v :: vs) W2 H2 (s1.trans ok1 s2) ok2 (.cons (show Arg X.K W2 (.val d) v from n1.mono s2.I) n2) q2
theorem ed_makeK0 {sp : SpI} (F : KlK X.prog X.w X.K X.mg X.base x C k ks midD sp) (hr : Room (k + 1) X.A) (hG : X.A.guards = some (gOf X)) (h : KD X B S kws fun bs => bs.length = ks.length ∧ sp (midD bs) fun fs => Q (.obj C fs)) (hg : Gl X x := by rfl)
    (hall : (backToKw pos (keywordEach kws X.env)).all (·.1.isSome) = true := by rfl) (hks : (backToKw pos (keywordEach kws X.env)).filterMap (·.1) = ks := by rfl) (hdb : (x == ("__debug__" : Str)) = false := by decide)
    (hpl : ((backTo pos (starEach [] X.env)).any (·.1) || (backToKw pos (keywordEach kws X.env)).any (·.1.isNone)) = false := by rfl) : ED X B S (.Call (.Name x p) [] kws pos) Q := fun σ W H r R c => by
  obtain ⟨f, fd, ps, gf, mid, F, M, hm, hb, hc⟩ := F.ex
  refine we_makeK0 M F hr hG hg hm hb ?_ hall hks hdb hpl
  refine h σ W H r _ fun bs zs W1 H1 s1 ok1 n1 q1 => ?_
  obtain ⟨l, q1⟩ := q1
  refine ⟨by rw [← l]; exact (Paired.length n1).symm, fun y dy hy hdy ne => ?_⟩
  exact cont_make (c.step s1 ok1) ok1 (hc _ _ _ n1) q1 y dy hy hdy ne
theorem ed_methK0 {sp : SpD} {pl : Sem Bool} (c : Cls X.K C) (F : MtK X.prog X.w X.K X.mg X.base C m k ks midD sp) (hr : Room k X.A) (hG : X.A.guards = some (gOf X)) (h : ED X B S o fun x => ∃ fs, x = .obj C fs ∧ fs.lookup m = none ∧ KD X B S kws fun bs => bs.length = ks.length ∧ sp (.val x :: midD bs) Q)
    (hall : (backToKw pos (keywordEach kws X.env)).all (·.1.isSome) = true := by rfl) (hks : (backToKw pos (keywordEach kws X.env)).filterMap (·.1) = ks := by rfl)
    (hpl : ((backTo pos (starEach [] X.env)).any (·.1) || (backToKw pos (keywordEach kws X.env)).any (·.1.isNone)) = false := by rfl)
    (ht : eval (.Call (.Attribute o m apos) [] kws pos) X.env = (do
      let ov ← eval o X.env
      standAt apos.atName
      let (f, first) ← holding [ov] (getMethod ov m pl)
      callWith pos f first (backTo pos (starEach [] X.env)) (backToKw pos (keywordEach kws X.env))) := by rfl) : ED X B S (.Call (.Attribute o m apos) [] kws pos) Q := fun σ W H r R c' => by
  obtain ⟨f, fd, ps, gf, mid, F, M, bb, hc⟩ := F.ex
  refine we_methK0 c M F hr hG bb ?_ hall hks hpl ht
  refine h σ W H r _ fun d v W1 H1 s1 ok1 n1 q1 => ?_
  obtain ⟨fs, rfl, l, q1⟩ := q1
  cases id n1 with
  | obj ha mm =>
    refine ⟨_, _, _, rfl, ok1.ex _ _ ha, mm.nolook l, ?_⟩
    refine q1 σ W1 H1 (r.step s1 ok1) _ fun bs zs W2 H2 s2 ok2 n2 q2 => ?_
    obtain ⟨l2, q2⟩ := q2
    exact ⟨by rw [← l2]; exact (Paired.length n2).symm, .val (.obj C fs) :: midD bs, W2, Q, ok2, .cons (show Arg X.K W2 (.val (.obj C fs)) _ from n1.mono s2.I) (hc _ _ _ n2), q2, (c'.step s1 ok1).step s2 ok2⟩
theorem ed_cmeth {sp : SpD} {pl : Sem Bool} (F : Cm X.prog X.w X.K X.mg X.base C m k sp) (hr : Room k X.A) (hG : X.A.guards = some (gOf X)) (h : ED X B S o fun x => x = .cls C ∧ AD X B S (e :: es) fun as => sp (.val x :: as) Q)
    (hst : starEach (e :: es) X.env = (false, eval e X.env) :: starEach es X.env := by rfl) (hpl : (backTo pos (starEach es X.env)).any (·.1) = false := by rfl)
    (ht : eval (.Call (.Attribute o m apos) (e :: es) [] pos) X.env = (do
      let ov ← eval o X.env
      standAt apos.atName
      let (f, first) ← holding [ov] (getMethod ov m pl)
      callWith pos f first (backTo pos (starEach (e :: es) X.env)) (backToKw pos (keywordEach [] X.env))) := by rfl) : ED X B S (.Call (.Attribute o m apos) (e :: es) [] pos) Q := fun σ W H r R c' => by
  obtain ⟨f, fd, ps, p0, mc, F, rd, cm, bb⟩ := F.ex
  refine we_cmeth rd cm F hr hG bb ?_ hst hpl ht
  refine h σ W H r _ fun d v W1 H1 s1 ok1 n1 q1 => ?_
  obtain ⟨rfl, q1⟩ := q1
  cases id n1
  refine ⟨rfl, ?_⟩
  refine q1 σ W1 H1 (r.step s1 ok1) _ fun as vs W2 H2 s2 ok2 n2 q2 => ?_
  exact ⟨.val (.cls C) :: as, W2, Q, ok2, .cons (show Arg X.K W2 (.val (.cls C)) _ from Dn.cls C) n2, q2, (c'.step s1 ok1).step s2 ok2⟩
theorem ed_cmethK0 {sp : SpD} {pl : Sem Bool} (F : CmK X.prog X.w X.K X.mg X.base C m k ks midD sp) (hr : Room k X.A) (hG : X.A.guards = some (gOf X)) (h : ED X B S o fun x => x = .cls C ∧ KD X B S kws fun bs => bs.length = ks.length ∧ sp (.val x :: midD bs) Q)
    (hall : (backToKw pos (keywordEach kws X.env)).all (·.1.isSome) = true := by rfl) (hks : (backToKw pos (keywordEach kws X.env)).filterMap (·.1) = ks := by rfl)
    (hpl : ((backTo pos (starEach [] X.env)).any (·.1) || (backToKw pos (keywordEach kws X.env)).any (·.1.isNone)) = false := by rfl)
    (ht : eval (.Call (.Attribute o m apos) [] kws pos) X.env = (do
      let ov ← eval o X.env
      standAt apos.atName
      let (f, first) ← holding [ov] (getMethod ov m pl)
      callWith pos f first (backTo pos (starEach [] X.env)) (backToKw pos (keywordEach kws X.env))) := by rfl) : ED X B S (.Call (.Attribute o m apos) [] kws pos) Q := fun σ W H r R c' => by
  obtain ⟨f, fd, ps, p0, mc, gf, mid, F, rd, cm, bb, hc⟩ := F.ex
  refine we_cmethK0 rd cm F hr hG bb ?_ hall hks hpl ht
  refine h σ W H r _ fun d v W1 H1 s1 ok1 n1 q1 => ?_
  obtain ⟨rfl, q1⟩ := q1
  cases id n1
  refine ⟨rfl, ?_⟩
  refine q1 σ W1 H1 (r.step s1 ok1) _ fun bs zs W2 H2 s2 ok2 n2 q2 => ?_
  obtain ⟨l2, q2⟩ := q2
  exact ⟨by rw [← l2]; exact (Paired.length n2).symm, .val (.cls C) :: midD bs, W2, Q, ok2, .cons (show Arg X.K W2 (.val (.cls C)) _ from Dn.cls C) (hc _ _ _ n2), q2, (c'.step s1 ok1).step s2 ok2⟩
/-- c(e, ..), c a local name that holds the class -/
theorem ed_makeL {sp : SpI} {dds : List D} (i : Nat) (F : Kl X.prog X.w X.K X.mg X.base m C k dds sp) (hr : Room (k + 1) X.A) (hG : X.A.guards = some (gOf X)) (hN : X.N[i]? = some x) (hS : S[i]? = some (some (.val (.cls C)))) (h : AD X B S (e :: es) fun as => sp (as ++ dds.map Sl.val) fun fs => Q (.obj C fs))
    (hv : Vis X.env.scope x := by first | exact Or.inl rfl | exact Or.inr (Or.inl rfl) | exact Or.inr (Or.inr rfl)) (hdb : (x == ("__debug__" : Str)) = false := by decide) (hcd : (x == ("__classdict__" : Str)) = false := by decide)
    (he : starEach (e :: es) X.env = (false, eval e X.env) :: starEach es X.env := by rfl) (hpl : (backTo pos (starEach es X.env)).any (·.1) = false := by rfl) : ED X B S (.Call (.Name x p) (e :: es) [] pos) Q := fun σ W H r R c => by
  obtain ⟨f, fd, ps, dvs, ds, F, M, hm, hb, hd, hD⟩ := F.ex
  obtain ⟨v, e1, n⟩ := r.sl i _ hS
  cases (show Dn X.K W.I (.cls C) v from n)
  refine we_makeL M F hr hG hN hv e1 hb hd ?_ hdb hcd he hpl
  refine h σ W H r _ fun as vs W1 H1 s1 ok1 n1 q1 => ?_
  intro y dy hy hdy ne
  exact cont_make (c.step s1 ok1) ok1 (n1.append (Args.data (hD W1.I))) q1 y dy hy hdy ne
end

/-! ### texts of data -/
open Classical in
/-- the heap cut down to what never changes -/
noncomputable def cut (I : Hp) (h : Heap) : Heap := { h with objs := h.objs.mapIdx fun i o => if I i = none then { o with data := .freed } else o }
theorem cut_get {I : Hp} {h : Heap} {b : Addr} (n : I b ≠ none) : (cut I h).get? b = h.get? b := by
  unfold cut Heap.get?
  simp only [Array.getElem?_mapIdx]
  cases h.objs[b]? with
  | none => rfl
  | some o => simp only [Option.map_some, if_neg n]
theorem cut_in {I : Hp} {h : Heap} {b : Addr} {o : Obj} (e : (cut I h).get? b = some o) : h.get? b = some o ∧ I b ≠ none := by
  by_cases n : I b = none
  · exfalso
    unfold cut Heap.get? at e
    simp only [Array.getElem?_mapIdx] at e
    cases q : h.objs[b]? with
    | none => rw [q] at e; cases e
    | some o => rw [q] at e; simp only [Option.map_some, if_pos n] at e; cases e
  · exact ⟨by rw [← cut_get n]; exact e, n⟩
section
variable {X : Cx} {pins : List (Addr × Obj)} {σ : L2.St} {W : Wd} {H : Hp} {s : Shared} {g : List Code}
mutual
theorem PyD.reads (I : Inv X pins σ H s) (ok : Ok g W H) : ∀ {d : D} {p : PyData} {v : V} {u : Value}, PyD d p → Dn X.K W.I d v → RelV v u → ∃ as, Reads (cut W.I s.heap) u p as
  | _, _, _, _, .non, .non, r => by cases r; exact ⟨_, .none⟩
  | _, _, _, _, .bl b, .bl _, r => by cases r; exact ⟨_, .bool b⟩
  | _, _, _, _, .int i, .int _, r => by obtain ⟨t, rfl⟩ := r; exact ⟨_, .int i t⟩
  | _, _, _, _, .str x, .str _, r => by obtain ⟨t, rfl⟩ := r; exact ⟨_, .str x t⟩
  | _, _, _, _, .lst h, .lst (a := a) e m, r => by
    cases r
    obtain ⟨its, rv, ⟨o, n, ho, hc, _, hd⟩, _⟩ := I.list (SqL.of (ok.ex _ _ e))
    obtain ⟨as, q⟩ := PyDs.reads I ok h m rv
    exact ⟨_, Reads.list (by rw [cut_get (by rw [e]; exact fun z => by cases z)]; exact ho) hc hd q⟩
  | _, _, _, _, .tup h, .tup (a := a) e m, r => by
    cases r
    obtain ⟨its, rv, ⟨o, ho, hc, n, hd⟩, _⟩ := I.tuple (SqT.of (ok.ex _ _ e))
    obtain ⟨as, q⟩ := PyDs.reads I ok h m rv
    exact ⟨_, Reads.tuple (by rw [cut_get (by rw [e]; exact fun z => by cases z)]; exact ho) hc hd q⟩
theorem PyDs.reads (I : Inv X pins σ H s) (ok : Ok g W H) : ∀ {l : List D} {ps : List PyData} {xs : List V} {us : List Value}, PyDs l ps → Dns X.K W.I l xs → Vals xs us → ∃ as, ReadsAll (cut W.I s.heap) us ps as
  | _, _, _, _, .nil, .nil, r => by cases r; exact ⟨_, .nil⟩
  | _, _, _, _, .cons h t, .cons n m, r => by
    cases r with
    | cons r1 r2 =>
      obtain ⟨as, q1⟩ := PyD.reads I ok h n r1
      obtain ⟨bs, q2⟩ := PyDs.reads I ok t m r2
      exact ⟨_, .cons q1 q2⟩
end
mutual
theorem PyD.nodict : ∀ {d : D} {p : PyData}, PyD d p → p.hasDict = false
  | _, _, .non => rfl
  | _, _, .bl _ => rfl
  | _, _, .int _ => rfl
  | _, _, .str _ => rfl
  | _, _, .lst h => by simp only [PyData.hasDict]; exact PyDs.nodict h
  | _, _, .tup h => by simp only [PyData.hasDict]; exact PyDs.nodict h
theorem PyDs.nodict : ∀ {l : List D} {ps : List PyData}, PyDs l ps → PyData.hasDictAll ps = false
  | _, _, .nil => rfl
  | _, _, .cons h r => by simp only [PyData.hasDictAll, PyD.nodict h, PyDs.nodict r, Bool.or_self]
end
/-- what stands in the cut heap is no guard -/
theorem clears (ok : Ok g W H) {n : Nat} {bs : List Addr} (h : ReadAtMost (cut W.I s.heap) n bs) : ∀ b ∈ bs, Clear g b := fun b hb => by
  obtain ⟨d, as, r, _⟩ := h b hb
  refine clear_of fun z => ?_
  have n0 := (ok.gd b z).1
  cases r with
  | list e => exact (cut_in e).2 n0
  | tuple e => exact (cut_in e).2 n0
  | dict e => exact (cut_in e).2 n0
/-- repr of plain data -/
theorem repr_pl {A : Around} {E : Value → Shared → Prop} {Q : Value → Shared → Prop} {d : D} {p : PyData} {v : V} {u : Value} (I : Inv X pins σ H s) (ok : Ok g W H) (hG : A.guards = some g) (hu : A.units + (p.depth + 3) < cLine) (hp : PyD d p) (n : Dn X.K W.I d v) (r : RelV v u) (hs : p.showable = true) (hz : p.shown.length ≤ sizeLine)
    (q : ∀ h' t tk, (∀ b o, s.heap.get? b = some o → h'.get? b = some o) → Q (.str p.shown t) { s with heap := h', toks := tk }) : wpAny (model X.prog X.w) A (call (.builtin "repr") [u]) Q E s := by
  have kp : ∀ b o, (cut W.I s.heap).get? b = some o → s.heap.get? b = some o := fun b o e => (cut_in e).1
  obtain ⟨as, rd⟩ := hp.reads I ok n r
  have nd := hp.nodict
  cases rd with
  | none => exact PySem.P.repr_of_none (by simpa only [PyData.shown] using q s.heap _ _ fun _ _ e => e)
  | bool b => exact PySem.P.repr_of_bool (by simpa only [PyData.shown] using q s.heap _ _ fun _ _ e => e)
  | int i t => exact PySem.P.repr_of_int (by simpa [PyData.showable] using hs) (by simpa only [PyData.shown] using q s.heap _ _ fun _ _ e => e)
  | str x t => exact PySem.P.repr_of_str (by simpa only [PyData.shown] using q s.heap _ _ fun _ _ e => e) (by simpa only [PyData.shown] using hz)
  | @list a o vs n xs as h1 h2 h3 h4 =>
    simp only [PyData.shown] at hz q
    simp only [PyData.depth] at hu
    obtain ⟨bs, hb, hk⟩ := ReprAllK.of_readsAll (prog := X.prog) (w := X.w) h4 (by simpa [PyData.showable] using hs) (fun z => absurd z (by rw [show PyData.hasDictAll xs = false by simpa [PyData.hasDict] using nd]; exact Bool.false_ne_true)) (fun t ht => Nat.le_trans (listText_mem_le ht) hz)
    have rl : Reads (cut W.I s.heap) (.ref a) (.list xs) (a :: as) := .list h1 h2 h3 h4
    have hna : a ∉ bs := not_mem_of_deeper rl (by simp only [PyData.depth]; omega) hb
    have ca := clears ok (ReadAtMost.cons rl (by simp only [PyData.depth]; omega) hb)
    refine call_repr_slot (by omega) ⟨o, kp _ _ h1, h2⟩ F.slot_list_repr.toG ?_
    obtain ⟨l⟩ := vs
    cases l with
    | nil =>
      have h4' : ReadsAll (cut W.I s.heap) [] xs as := h4
      cases h4'
      simp only [PyData.shownAll, listText_nil] at q
      exact call_list_repr_empty ⟨o, kp _ _ h1, h2⟩ (kp _ _ h1) h3 ⟨_, _, rfl, q s.heap _ _ fun _ _ e => e⟩
    | cons y l =>
      exact call_list_reprK (A := A.in1) h1 h2 h3 hna (by simpa using hk.length_eq) (fun i y e => hk.item i y (by simpa using e)) hG ca (by show A.units + 1 + _ < cLine; omega) kp (fun h' u tk hk => ⟨_, _, rfl, q h' u tk hk⟩) hz
  | @tuple a o vs n xs as h1 h2 h3 h4 =>
    simp only [PyData.shown] at hz q
    simp only [PyData.depth] at hu
    obtain ⟨bs, hb, hk⟩ := ReprAllK.of_readsAll (prog := X.prog) (w := X.w) h4 (by simpa [PyData.showable] using hs) (fun z => absurd z (by rw [show PyData.hasDictAll xs = false by simpa [PyData.hasDict] using nd]; exact Bool.false_ne_true)) (fun t ht => Nat.le_trans (tupleText_mem_le ht) hz)
    have rl : Reads (cut W.I s.heap) (.ref a) (.tuple xs) as := .tuple h1 h2 h3 h4
    have hna : a ∉ bs := not_mem_of_deeper rl (by simp only [PyData.depth]; omega) hb
    have ca := clears ok (ReadAtMost.cons rl (by simp only [PyData.depth]; omega) hb)
    refine call_repr_slot (by omega) ⟨o, kp _ _ h1, h2⟩ F.slot_tuple_repr ?_
    exact call_tuple_reprK (A := A.in1) h1 h2 h3 hna hk hG ca (by show A.units + 1 + _ < cLine; omega) kp (fun h' u tk hk => ⟨_, _, rfl, q h' u tk hk⟩) hz
  | dict _ _ _ _ _ => simp [PyData.hasDict] at nd
end
section
variable {X : Cx} {B : Hp} {S : En} {pos p apos : Pos} {Q : D → Prop} {e o : Expr} {es : List Expr} {C : Addr} {k : Nat} {sp : SpD} {fs : List (Str × D)}
theorem cd_repr {d : D} {p : PyData} (hG : X.A.guards = some (gOf X)) (hu : X.A.units + (p.depth + 3) < cLine) (hp : PyD d p) (hs : p.showable = true) (hz : p.shown.length ≤ sizeLine) (q : Q (.str p.shown)) : CD X (.builtin "repr") [.val d] Q := fun vs W H ok ha R c pins s σ us I rv => by
  obtain ⟨v, rfl, n⟩ := one_arg ha
  cases rv with
  | cons r1 r2 =>
    cases r2
    exact repr_pl I ok hG hu hp n r1 hs hz fun h' t tk kp => ⟨.str _, H, I.kept kp, ⟨t, rfl⟩, c.now ok (.str _) q⟩
/-- repr of an object by its own __repr__ -/
theorem cd_reprO (F : Sm X.prog X.w X.K X.mg X.base C "__repr__" k sp) (hr : Room (k + 1) X.A) (hG : X.A.guards = some (gOf X)) (q : sp [.val (.obj C fs)] fun d => ∃ t, d = .str t ∧ Q d) : CD X (.builtin "repr") [.val (.obj C fs)] Q := fun vs W H ok ha R c pins s σ us I rv => by
  obtain ⟨v, rfl, n⟩ := one_arg ha
  obtain ⟨f, fd, ps, F, hf, hi, hb⟩ := F.ex
  cases id n with
  | @obj _ _ p1 _ _ a1 _ =>
    cases rv with
    | cons r1 r2 =>
      cases r2
      have r1' := r1
      cases (show _ = Value.ref p1 from r1)
      obtain ⟨ox, od, J⟩ := inst_at I (ok.ex _ _ a1)
      obtain ⟨mm, hF⟩ := I.fr
      have hsp : lift X.K sp (gOf X) [.ref p1] H (fun z H' => ∃ t, z = .str t ∧ R (.str t) H') := by
        refine ⟨_, W, _, ok, ha, q, fun d v2 W' H' st ok' n' q' => ?_⟩
        obtain ⟨t, rfl, q'⟩ := q'
        cases n'
        exact ⟨t, rfl, c (.str t) _ W' H' st ok' (.str _) q'⟩
      refine PySem.W.repr_K hr.in1.units0 hF I.ok.mod.kin J hf hi ?_
      refine wpAny_call (run_gn (A := X.A.in1) (us := [.ref p1]) (vs := [.ref p1]) F hr.in1 hG I.env0.in1 hb .nil I (.cons r1' .nil) hsp fun u s' hv => ?_)
      obtain ⟨z, H', I3, rz, t, e, q3⟩ := hv
      subst e
      obtain ⟨tk, rfl⟩ := (show ∃ tk, u = Value.str t tk from rz)
      exact ⟨.str t, H', I3, ⟨tk, rfl⟩, q3⟩
end
end DL

set_option Elab.async false
set_option linter.all false
set_option maxRecDepth 100000
set_option maxHeartbeats 4000000
namespace DL
open PySem L2
section
variable {X : Cx} {B : Hp} {S : En} {pos p apos : Pos} {Q : D → Prop} {e o : Expr} {es : List Expr} {C : Addr} {k : Nat} {sp : SpD} {fs : List (Str × D)}
open Builtin Builtin.Str in
/-- str(x) where x's class writes its own __str__ -/
theorem str_own {prog : Program} {w : World} {A : Around} {E : Value → Shared → Prop} {s : Shared} {K : PySem.W.Frag} {x C f : Addr} {ox : Obj} {od : Option Obj} {Q : Value → Shared → Prop} (u2 : A.in1.in1.units < cLine) (kin : K.In s.heap) (J : PySem.W.InstAt s.heap x ox C od)
    (hs : PySem.W.findIn K (.ref C) "__str__" = some (some (.ref f))) (hf : PySem.W.isFn K (.ref f) = true) (h : wpAny (model prog w) A.in1.in1 (call (.ref f) [.ref x]) (fun v s' => ∃ y t, v = .str y t ∧ Q v s') E s) : wpAny (model prog w) A (call (.type "str") [.ref x]) Q E s := by
  have text : wpAny (model prog w) A.in1.in1 (PySem.Builtin.Str.strOf (.ref x)) (fun r s1 => ∃ y t, r = .str y t ∧ Q r s1) E s := by
    unfold PySem.Builtin.Str.strOf
    have ne : isExactStr (.ref x) = false := rfl
    rw [ne]
    refine wpAny_bind (m := cRoomFor _ _) (wpAny_cRoomFor u2 ?_)
    exact wpAny_bind (m := callSpecial? (.ref x) (Str.ofString "__str__")) (PySem.W.special_fn kin J hs (beq_iff_eq.mp hf) (wpAny_mono h (fun r s' ⟨y, t, er, q⟩ => by subst er; exact wpAny_pure ⟨y, t, rfl, q⟩) fun _ _ z => z))
  have sub := isSubtype_str_str
  refine callType_codes (T := "str") (Bi := Builtin.«object.__init__») (Q₁ := fun r s1 => ∃ y t, r = .str y t ∧ Q r s1) PySem.F.called_str (PySem.F.typeCall_str_1 _) PySem.F.entry_object_init (codeAny_of_tree ?_) ?_
  · have new := PySem.F.newCall_str_1 (.ref x)
    refine wpAny_bind (m := checkBuiltinCall "str.__new__" _) (wpAny_of_eq new (wpAny_pure ⟨plainId_quiet (by decide +kernel) _, codeAny_builtin PySem.F.entry_str_new ?_⟩))
    have plain := Around.under_plainId (A := A.in1) (id := "str.__new__") (by decide +kernel) ⟨[.type "str", .ref x], []⟩
    rw [plain, str_new_tree]
    refine wpAny_bind (wpAny_pure (wpAny_bind (wpAny_of_eq sub ?_)))
    refine wpAny_bind (wpAny_mono text (fun r s1 z => ?_) fun _ _ z => z)
    exact wpAny_pure z
  · intro obj s1 z
    obtain ⟨y, t, eo, q⟩ := z
    subst eo
    have ty := typeIs_str s1 y t
    exact ⟨ty, PySem.F.args_object_init_2 _ _, object_init_meets PySem.F.called_str.init.lookup PySem.F.called_str.made (by decide) prog w A.in1 _ s1 ⟨ty, rfl, q⟩⟩
/-- str of an object by its own __str__ -/
theorem cd_strO (F : Sm X.prog X.w X.K X.mg X.base C "__str__" k sp) (hr : Room (k + 2) X.A) (hG : X.A.guards = some (gOf X)) (q : sp [.val (.obj C fs)] fun d => ∃ t, d = .str t ∧ Q d) : CD X (.type "str") [.val (.obj C fs)] Q := fun vs W H ok ha R c pins s σ us I rv => by
  obtain ⟨v, rfl, n⟩ := one_arg ha
  obtain ⟨f, fd, ps, F, hf, hi, hb⟩ := F.ex
  cases id n with
  | @obj _ _ p1 _ _ a1 _ =>
    cases rv with
    | cons r1 r2 =>
      cases r2
      have r1' := r1
      cases (show _ = Value.ref p1 from r1)
      obtain ⟨ox, od, J⟩ := inst_at I (ok.ex _ _ a1)
      have hsp : lift X.K sp (gOf X) [.ref p1] H (fun z H' => ∃ t, z = .str t ∧ R (.str t) H') := by
        refine ⟨_, W, _, ok, ha, q, fun d v2 W' H' st ok' n' q' => ?_⟩
        obtain ⟨t, rfl, q'⟩ := q'
        cases n'
        exact ⟨t, rfl, c (.str t) _ W' H' st ok' (.str _) q'⟩
      refine str_own hr.in1.in1.units0 I.kIn J hf hi ?_
      refine wpAny_call (run_gn (A := X.A.in1.in1) (us := [.ref p1]) (vs := [.ref p1]) F hr.in1.in1 hG I.env0.in1.in1 hb .nil I (.cons r1' .nil) hsp fun u s' hv => ?_)
      obtain ⟨z, H', I3, rz, t, e, q3⟩ := hv
      subst e
      obtain ⟨tk, rfl⟩ := (show ∃ tk, u = Value.str t tk from rz)
      exact ⟨t, tk, rfl, .str t, H', I3, ⟨tk, rfl⟩, q3⟩
/-- f'..' -/
theorem ed_fmt (h : ED X B S e fun d => (∃ y, d = .str y ∧ y.length ≤ sizeLine ∧ Q (.str y)) ∨ ∃ i : Int, d = .int i ∧ i.natAbs.log2 < 1920 ∧ Q (.str (toString i))) : ED X B S (.FormattedValue e (-1) none pos) Q := fun σ W H r R c => by
  refine PE.w (pe_fmt we_pe) ?_
  refine h σ W H r _ fun d v W1 H1 s1 ok1 n1 q1 => ?_
  have c1 := c.step s1 ok1
  rcases q1 with ⟨y, rfl, l, q⟩ | ⟨i, rfl, l, q⟩
  · cases n1
    exact .inl ⟨y, rfl, l, c1.now ok1 (.str _) q⟩
  · cases n1
    exact .inr ⟨i, rfl, l, c1.now ok1 (.str _) q⟩
def JD (X : Cx) (B : Hp) (S : En) : List Expr → Str → (D → Prop) → Prop
  | [], acc, Q => Q (.str acc)
  | e :: es, acc, Q => ED X B S e fun d => ∃ y, d = .str y ∧ (acc ++ y).length ≤ sizeLine ∧ JD X B S es (acc ++ y) Q
theorem pj_all : ∀ es : List Expr, PJ X es (es.map (WE X))
  | [] => .nil
  | _ :: es => .cons we_pe (pj_all es)
theorem jd_run {σ : L2.St} {R : VK} : ∀ (es : List Expr) (acc : Str) (W : Wd) (H : Hp), JD X B S es acc Q → Rep X.K (gOf X) B S σ W H → Cont X.K (gOf X) W H Q R → tJs (es.map (WE X)) acc σ H fun out H1 => R (.str out) H1
  | [], acc, W, H, h, r, c => c.now r.ok (.str acc) h
  | e :: es, acc, W, H, h, r, c => by
    show WE X e σ H _
    refine h σ W H r _ fun d v W1 H1 s1 ok1 n1 q1 => ?_
    obtain ⟨y, rfl, l, q1⟩ := q1
    cases n1
    exact ⟨y, rfl, l, jd_run es (acc ++ y) W1 H1 q1 (r.step s1 ok1) (c.step s1 ok1)⟩
theorem ed_join {e1 e2 : Expr} (h : JD X B S (e1 :: e2 :: es) Str.empty Q) : ED X B S (.JoinedStr (e1 :: e2 :: es) pos) Q := fun σ W H r R c =>
  PE.w (pe_joined (pj_all _)) (jd_run _ _ W H h r c)
/-- tuple(x) of a list, of a tuple -/
theorem cd_tuple {l : List D} (q : Q (.tup l)) : CD X (.type "tuple") [.val (.lst l)] Q := cd_of call_tuple_of fun vs W H ok ha R c => by
  obtain ⟨v, rfl, h⟩ := one_arg ha
  cases h with
  | @lst _ a xs h m =>
    refine ⟨_, _, rfl, .inl ⟨SqL.of (ok.ex _ _ h), fun p hp => ?_⟩⟩
    have st := Stp.new (o := .tup xs) ok hp
    exact c (.tup l) (.ref p) _ _ st (ok.new hp) (.tup (show upd W.I p _ p = _ from upd_same) (m.mono st.I)) q
end

/-! ### a new list handed back; pots -/
abbrev SpN := List Sl → (List D → Prop) → Prop
def liftN (K : PySem.W.Frag) (sp : SpN) : SpG := fun g vs H R => ∃ as W Q, Ok g W H ∧ Args K W as vs ∧ sp as Q ∧ ContF K g W H Q R
structure Nf (P : Program) (w : World) (K : PySem.W.Frag) (mg : Str → Option Value) (base : Heap) (x : Str) (k : Nat) (sp : SpN) : Prop where
  ex : ∃ f fd ps, GnOk P w K mg base k f fd ps (liftN K sp) ∧ mg x = some (.ref f) ∧ PySem.W.keepIn K (.ref f) = true ∧ Binds K fd ps []
section
variable {X : Cx} {B : Hp} {W0 : Wd} {S : En} {pos p apos : Pos} {e o : Expr} {es : List Expr} {x : Str} {k : Nat}
theorem ContF.step {K : PySem.W.Frag} {g : List Code} {W W1 : Wd} {H H1 : Hp} {Q : List D → Prop} {R : VK} (c : ContF K g W H Q R) (a : Stp W H W1 H1) (ok : Ok g W1 H1) : ContF K g W1 H1 Q R := fun l p xs W' H' s ok' hp n i hl d q => c l p xs W' H' (a.trans ok s) ok' (a.free ok hp) n i hl d q
theorem fd_callN {sp : SpN} {Q : List D → Prop} (F : Nf X.prog X.w X.K X.mg X.base x k sp) (hr : Room k X.A) (hG : X.A.guards = some (gOf X)) (h : AD X B S (e :: es) fun as => sp as Q) (hg : Gl X x := by rfl) (hdb : (x == ("__debug__" : Str)) = false := by decide)
    (he : starEach (e :: es) X.env = (false, eval e X.env) :: starEach es X.env := by rfl) (hpl : (backTo pos (starEach es X.env)).any (·.1) = false := by rfl) : FD X B S (.Call (.Name x p) (e :: es) [] pos) Q := fun σ W H r R c => by
  obtain ⟨f, fd, ps, F, hm, hk, hb⟩ := F.ex
  refine we_call F hr hG hg hm hk hb .nil ?_ hdb he hpl
  refine h σ W H r _ fun as vs W1 H1 s1 ok1 n1 q1 => ?_
  rw [List.append_nil]
  exact ⟨as, W1, Q, ok1, n1, q1, c.step s1 ok1⟩
/-- two ints in a list of one's own: a pot -/
theorem Ok.pot2 {g : List Code} {W : Wd} {H : Hp} {q : Addr} {x y : Int} (ok : Ok g W H) (i : W.I q = none) (h : H q = some (.lst [.int x, .int y])) (hy : 0 ≤ y ∧ y < 2 ^ 31) : Ok g ⟨W.I, fun b => W.P b ∨ b = q⟩ H :=
  ⟨ok.gd, ok.ex, fun a pa => pa.elim (ok.pot a) fun z => by subst z; exact ⟨i, x, y, h, hy⟩⟩
theorem Stp.pot2 {W W1 : Wd} {H H1 : Hp} {q : Addr} (a : Stp W H W1 H1) (hq : H q = none) : Stp W H ⟨W1.I, fun b => W1.P b ∨ b = q⟩ H1 :=
  ⟨a.I, fun b h => .inl (a.P b h), a.keep, a.old, fun b o hb z => z.elim (a.oldP b o hb) fun e => by rw [e, hq] at hb; cases hb⟩
theorem dns_two {K : PySem.W.Frag} {I : Hp} {a b : Int} {xs : List V} (h : Dns K I [.int a, .int b] xs) : xs = [.int a, .int b] := by
  cases h with
  | cons h r => cases h; cases r with
    | cons h r => cases h; cases r; rfl
theorem ad_newpot {Q : List Sl → Prop} (h : FD X B S e fun l => ∃ a b : Int, l = [.int a, .int b] ∧ (0 ≤ b ∧ b < 2 ^ 31) ∧ AD X B S es fun as => Q (.pot :: as)) (hs : starEach (e :: es) X.env = (false, eval e X.env) :: starEach es X.env := by rfl) : AD X B S (e :: es) Q := fun σ W H r R k => by
  refine PA.w (pa_cons we_pe wa_pa hs) ?_
  refine h σ W H r _ fun l q xs W1 H1 s1 ok1 hp n i hl d q1 => ?_
  obtain ⟨a, b, rfl, hab, q1⟩ := q1
  rw [dns_two d] at hl
  have ok2 := ok1.pot2 i hl hab
  have st2 := s1.pot2 hp
  refine q1 σ _ H1 (r.step st2 ok2) _ fun as vs W3 H3 s3 ok3 n3 q3 => ?_
  exact k (.pot :: as) (.ref q :: vs) W3 H3 (st2.trans ok2 s3) ok3 (.cons ⟨q, rfl, s3.P q (.inr rfl)⟩ n3) q3
end
/-- a block that ends by handing a new list back -/
def SN (X : Cx) (B : Hp) (W0 : Wd) (S : En) (sts : List Stmt) (Q : List D → Prop) : Prop := ∀ σ W H, Rep X.K (gOf X) B S σ W H → Stp W0 B W H → ∀ R, ContF X.K (gOf X) W0 B Q R → WSs X sts { nx := fun _ H' => R .non H', rt := R } σ H
section
variable {X : Cx} {B : Hp} {W0 : Wd} {S : En} {pos : Pos} {e : Expr} {st : Stmt} {sts : List Stmt} {Q : List D → Prop}
theorem sn_ret (h : FD X B S e Q) : SN X B W0 S [.Return (some e) pos] Q := fun σ W H r z R c => by
  refine PSs.w (pss_cons (ps_ret we_pe) pss_nil) ?_
  exact h σ W H r R fun l p xs W2 H2 s2 ok2 hp n i hl d q2 => c l p xs W2 H2 (z.trans r.ok s2) ok2 (z.free r.ok hp) n i hl d q2
theorem sn_cons (h : SD X B W0 S st { nx := fun S' => SN X B W0 S' sts Q, rt := fun _ => False }) : SN X B W0 S (st :: sts) Q := fun σ W H r z R c => by
  refine PSs.w (pss_cons ws_ps wss_pss) ?_
  exact h σ W H r z _ ⟨fun S' σ' W' H' r' z' _ q => q σ' W' H' r' z' R c, fun _ _ _ _ _ _ _ _ q => q.elim, fun _ _ _ _ _ _ _ q => q.elim, fun _ _ _ _ _ _ _ q => q.elim⟩
end
section
variable {P : Program} {w : World} {K : PySem.W.Frag} {mg : Str → Option Value} {base : Heap}
/-- a def that ends by handing a new list back -/
theorem gn_new {x qual : Str} {st : Stmt} {f : Addr} {fd : FuncData} {N ps : List Str} {k : Nat} {sp : SpN} (F : FunS K x qual st f fd) (hS : FnScope N ps (defScope st)) (len : ∀ as Q, sp as Q → as.length = ps.length)
    (body : ∀ cdv A outer s H, Room k (A.deeper (PyProof.Rows.envOfC qual (defScope st) s.heap.objs.size f cdv)) → (Bx P w K mg base N qual st f cdv A outer s H).A.guards = some (gOf (Bx P w K mg base N qual st f cdv A outer s H)) → ∀ W as Q, sp as Q →
      SN (Bx P w K mg base N qual st f cdv A outer s H) H W (startE N as) (defBody st) Q) : GnOk P w K mg base (k + 1) f fd ps (liftN K sp) := by
  refine gn_of F hS (fun g vs H Q h => ?_) (fun cdv A outer s H g vs R hr hG h => ?_)
  · obtain ⟨as, W, Qd, _, ha, hsp, _⟩ := h
    rw [← len _ _ hsp]
    exact (Paired.length ha).symm
  · obtain ⟨as, W, Qd, ok, ha, hsp, c⟩ := h
    obtain ⟨e1, e2⟩ := gOf_bx (P := P) (w := w) (K := K) (mg := mg) (base := base) (N := N) (qual := qual) (st := st) (f := f) (cdv := cdv) (outer := outer) (s := s) (H := H) hG
    refine ⟨WSs _ _, wss_pss, body cdv A outer s H hr (by rw [e2]; exact e1) W as Qd hsp (L2.start N vs) W H (by rw [e2]; exact rep_start ok ha) Stp.refl R ?_⟩
    rw [e2]
    exact c
end
section
variable {X : Cx} {B : Hp} {W0 : Wd} {S : En} {e a b : Expr} {es : List Expr} {pos : Pos} {E : Ends'}
/-- x.extend(e), e a new list -/
theorem sd_extend {x : Str} {px apos cpos : Pos} (i : Nat) (l : List D) (hN : X.N[i]? = some x) (h : S[i]? = some (some (.own l))) (he : FD X B S e fun m => l.length + m.length ≤ 100000 ∧ E.nx (S.set i (some (.own (l ++ m)))))
    (hv : Vis X.env.scope x := by first | exact Or.inl rfl | exact Or.inr (Or.inl rfl) | exact Or.inr (Or.inr rfl)) (hd : (x == ("__debug__" : Str)) = false := by decide) (hcd : (x == ("__classdict__" : Str)) = false := by decide)
    (hps : PE X (.Call (.Attribute (.Name x px) "extend" apos) [e] [] cpos) (tBM X.K "list" rExtend (tVar i) (tCons (WE X e) tNil)) := by
      exact pe_bm PySem.F.plainAttrs_list PySem.F.slot_list_extend PySem.F.type_list_extend mt_extend (pe_var (by rfl) (by first | exact Or.inl rfl | exact Or.inr (Or.inl rfl) | exact Or.inr (Or.inr rfl))) (pa_cons DL.we_pe pa_nil))
    (hs : swapsWith (.Call (.Attribute (.Name x px) "extend" apos) [e] [] cpos) none pos.line X.env = pure false := by rfl) : SD X B W0 S (.Expr (.Call (.Attribute (.Name x px) "extend" apos) [e] [] cpos) pos) E := fun σ W H r z D' k => by
  refine PS.w (ps_expr hps hs) ?_
  obtain ⟨v, e1, p, xs, ev, hB, n, hI, hH, d0⟩ := r.sl i _ h
  subst ev
  refine ⟨_, e1, .inl ⟨rfl, _, SqL.of hH⟩, ?_⟩
  refine he σ W H r _ fun m p1 zs W1 H1 s1 ok1 hp1 nP1 i1 hl1 n1 q1 => ?_
  obtain ⟨hl, q1⟩ := q1
  have hH1 : H1 p = some (.lst xs) := s1.keep _ _ hH n
  have nP : ¬ W1.P p := fun q => n (s1.oldP p _ hH q)
  have hI1 : W1.I p = none := s1.old p _ hH hI
  refine ⟨p, p1, xs, zs, rfl, rfl, hH1, hl1, Nat.le_trans (by rw [← d0.length, ← n1.length]; exact hl) (by decide), ?_⟩
  have ok2 : Ok (gOf X) W1 (upd H1 p (.lst (xs ++ zs))) := {
    gd := fun b hb => by
      obtain ⟨n1, n2⟩ := ok1.gd b hb
      refine ⟨n1, ?_⟩
      by_cases q : b = p
      · subst q
        rw [upd_same]
        exact fun z => by cases z
      · rw [upd_ne q]
        exact n2
    ex := fun b o hb => by
      rw [upd_ne (fun y => by rw [y, hI1] at hb; cases hb)]
      exact ok1.ex b o hb
    pot := fun b hb => by
      obtain ⟨nb, y2, w2, h2⟩ := ok1.pot b hb
      have ne : b ≠ p := fun y => nP (y ▸ hb)
      exact ⟨nb, y2, w2, by rw [upd_ne ne]; exact h2⟩ }
  have z1 := z.trans r.ok s1
  have z2 : Stp W0 B W1 (upd H1 p (.lst (xs ++ zs))) := ⟨z1.I, z1.P, fun b o hb hn => by rw [upd_ne (ne_of_none hb hB)]; exact z1.keep b o hb hn, z1.old, z1.oldP⟩
  have r1 := r.step s1 ok1
  have lt : i < S.length := (List.getElem?_eq_some_iff.mp h).1
  refine k.nx _ σ W1 _ ?_ z2 s1.I q1
  refine ⟨ok2, r.gb, by simpa using r.len, fun j s ej => ?_, fun a b la lb q ne e2 e3 e4 => ?_⟩
  · by_cases q : i = j
    · subst q
      rw [List.getElem?_set_self lt] at ej
      cases ej
      exact ⟨_, e1, p, _, rfl, hB, nP, hI1, upd_same, (d0.mono s1.I).append n1⟩
    · rw [List.getElem?_set_ne q] at ej
      obtain ⟨v2, e2, h2⟩ := r1.sl j s ej
      refine ⟨v2, e2, ?_⟩
      cases s with
      | val d2 => exact h2
      | pot => exact h2
      | own m =>
        obtain ⟨p2, ys, rfl, b1, b2, b3, b4, b5⟩ := h2
        refine ⟨p2, ys, rfl, b1, b2, b3, ?_, b5⟩
        rw [upd_ne (fun y => by
          rw [y] at e2
          exact r.dist i j l m p q h ej e1 e2)]
        exact b4
      | inst C p2 dx fs =>
        obtain ⟨vs, rfl, b1, b2, b3, b4, b5, b6, b7, b8, b9, b10⟩ := h2
        refine ⟨vs, rfl, b1, b2, b3, b4, b5, b6, b7, ?_, ?_, b10⟩
        · rw [upd_ne (fun y => by rw [y, hH1] at b8; cases b8)]
          exact b8
        · rw [upd_ne (fun y => by rw [y, hH1] at b9; cases b9)]
          exact b9
  · have g : ∀ {c : Nat} {m0 : List D}, (S.set i (some (.own (l ++ m))))[c]? = some (some (.own m0)) → ∃ m', S[c]? = some (some (.own m')) := fun {c m0} ec => by
      by_cases q2 : i = c
      · subst q2
        exact ⟨l, h⟩
      · rw [List.getElem?_set_ne q2] at ec
        exact ⟨m0, ec⟩
    obtain ⟨m1, g1⟩ := g e2
    obtain ⟨m2, g2⟩ := g e3
    exact r.dist a b m1 m2 q ne g1 g2 e4
end
/-- x[j], x the script -/
theorem ed_ixF {X : Cx} {B : Hp} {S : En} {a b : Expr} {pos : Pos} {Q : D → Prop} (h : ED X B S a fun x => ED X B S b fun y => ∃ (l : List Int) (j : Nat) (z : Int), x = .frl l ∧ y = .int (j : Int) ∧ l[j]? = some z ∧ Q (.int z)) (hs : PlainIx b := by exact fun _ _ => rfl) : ED X B S (.Subscript a b pos) Q := fun σ W H r R k => by
  refine PE.w (pe_ix ix_list we_pe we_pe hs) ?_
  refine h σ W H r _ fun d v W1 H1 s1 ok1 n1 q1 => ?_
  refine q1 σ W1 H1 (r.step s1 ok1) _ fun d2 u W2 H2 s2 ok2 n2 q2 => ?_
  obtain ⟨l, j, z, rfl, rfl, e, q⟩ := q2
  have k2 := (k.step s1 ok1).step s2 ok2
  cases n2
  cases n1 with
  | frl h => exact ⟨_, _, (j : Int), .int z, rfl, rfl, ok2.ex.l (s2.I.l h), atI_nat (by rw [List.getElem?_map, e]; rfl), k2.now ok2 (.int z) q⟩
end DL

set_option Elab.async false
set_option linter.all false
set_option maxRecDepth 100000
set_option maxHeartbeats 4000000
/-! a comprehension whose list goes to a name at once -/
namespace DL
open PySem L2
def LC (X : Cx) (B : Hp) (S : En) (t : TE) (Q : List D → Prop) : Prop := ∀ σ W H, Rep X.K (gOf X) B S σ W H → ∀ R, ContF X.K (gOf X) W H Q R → t σ H R
section
variable {X : Cx} {B : Hp} {W0 : Wd} {S : En} {e a b : Expr} {es : List Expr} {pos : Pos} {E : Ends'}
/-- [elt for g in a list], without a test -/
theorem lc_L {elt iter : Expr} {scope : Scope} {own : List (Str × Nat)} {g : TG} {l : List D} {Q : List D → Prop} (J : Nat → List D → Prop) (S' : D → En) 
    (h : ED X B S iter fun d => d = .lst l ∧ l.length ≤ 50000 ∧ J 0 []) (hp : ∀ d ∈ l, Pat X.K g (own.map (·.2)) S d (S' d))
    (he : ∀ (i : Nat) d acc, l[i]? = some d → acc.length = i → J i acc → ∀ (s : Shared) (H0 : Hp) (C : Addr) (cl : List (Str × Addr)) (fp : List Addr), ED (X.blk s H0 scope (compEnvC scope cl C X.env) fp) B (S' d) elt fun y => J (i + 1) (acc ++ [y]))
    (hd : ∀ acc, acc.length = l.length → J l.length acc → Q acc) : LC X B S (tLc (iList X.K (WE X iter)) g tYes (WEb X scope elt) (own.map (·.2))) Q := fun σ W H r R k => by
  refine h σ W H r _ fun d v W1 H1 s1 ok1 n1 q1 => ?_
  obtain ⟨rfl, hz, j0⟩ := q1
  cases n1 with
  | @lst _ a xs ha m =>
    refine ⟨a, rfl, ⟨xs, SqL.of (ok1.ex _ _ ha)⟩, fun p hp0 => ?_⟩
    have r1 := r.step s1 ok1
    refine lc_list (K := X.K) (a := a) (xs := xs) (fun i H' => ∃ acc W', Mid X.K (gOf X) W1 H1 p acc W' H' ∧ acc.length = i ∧ J i acc) ⟨[], W1, ⟨Stp.own hp0, ok1.own hp0, ok1.notP hp0, ok1.free hp0, [], upd_same, .nil⟩, rfl, j0⟩
      (fun i H' _ ⟨acc, W', mm, _⟩ => SqL.of (mm.ok.ex _ _ (mm.st.I _ _ ha))) ?_ ?_
    · rintro i x H' hx ⟨acc, W', mm, hl, j⟩
      obtain ⟨d, hd', nd⟩ := m.get hx
      have r2 := r1.step mm.st mm.ok
      refine hp d (List.mem_of_getElem? hd') (gOf X) B σ W' H' x r2 (nd.mono mm.st.I) _ fun σ2 e2 r3 => ⟨e2, ?_⟩
      show WEb X scope elt σ2 H' _
      intro s H0 C cl fp
      refine he i d acc hd' hl j s H0 C cl fp σ2 W' H' r3 _ fun y v W2 H2 s2 ok2 n2 q2 => ?_
      have lt : i < l.length := (List.getElem?_eq_some_iff.mp hd').1
      obtain ⟨xs', e1, e3, m3⟩ := (mm.step s2 ok2).more hp0 n2 (by omega)
      exact ⟨xs', e1, e3, _, W2, m3, by simp [hl], q2⟩
    · rintro H' ⟨acc, W', mm, hl, j⟩
      obtain ⟨ys, hH, ds⟩ := mm.h
      rw [← m.length] at hl j
      exact k acc p ys W' H' (s1.trans ok1 mm.st) mm.ok (s1.free ok1 hp0) mm.n mm.i hH ds (hd acc hl j)
/-- .. over a range -/
theorem lc_R {elt : Expr} {scope : Scope} {own : List (Str × Nat)} {n : Int} {Q : List D → Prop} (J : Nat → List D → Prop) (S' : D → En) {g : TG} 
    (h : AD X B S [e] fun as => as = [.val (.int n)] ∧ -(2 ^ 62) ≤ n ∧ n ≤ 50000 ∧ J 0 []) (hp : ∀ d, Pat X.K g (own.map (·.2)) S d (S' d))
    (he : ∀ (i : Nat) acc, (i : Int) < n → acc.length = i → J i acc → ∀ (s : Shared) (H0 : Hp) (C : Addr) (cl : List (Str × Addr)) (fp : List Addr), ED (X.blk s H0 scope (compEnvC scope cl C X.env) fp) B (S' (.int i)) elt fun y => J (i + 1) (acc ++ [y]))
    (hd : ∀ acc, acc.length = n.toNat → J n.toNat acc → Q acc) : LC X B S (tLc (iRng1 (WA X [e])) g tYes (WEb X scope elt) (own.map (·.2))) Q := fun σ W H r R k => by
  refine h σ W H r _ fun as vs W1 H1 s1 ok1 n1 q1 => ?_
  obtain ⟨rfl, hz, hz2, j0⟩ := q1
  obtain ⟨v, rfl, m⟩ := one_arg n1
  cases m
  refine ⟨n, rfl, hz, by omega, fun p hp0 => ?_⟩
  have r1 := r.step s1 ok1
  refine lc_range (lo := 0) (n := n.toNat) (fun i H' => ∃ acc W', Mid X.K (gOf X) W1 H1 p acc W' H' ∧ acc.length = i ∧ J i acc) ⟨[], W1, ⟨Stp.own hp0, ok1.own hp0, ok1.notP hp0, ok1.free hp0, [], upd_same, .nil⟩, rfl, j0⟩ ?_ ?_
  · rintro i H' hi ⟨acc, W', mm, hl, j⟩
    rw [Int.zero_add]
    have r2 := r1.step mm.st mm.ok
    refine hp (.int i) (gOf X) B σ W' H' _ r2 (.int _) _ fun σ2 e2 r3 => ⟨e2, ?_⟩
    show WEb X scope elt σ2 H' _
    intro s H0 C cl fp
    refine he i acc (by omega) hl j s H0 C cl fp σ2 W' H' r3 _ fun y v W2 H2 s2 ok2 n2 q2 => ?_
    obtain ⟨xs', e1, e3, m3⟩ := (mm.step s2 ok2).more hp0 n2 (by omega)
    exact ⟨xs', e1, e3, _, W2, m3, by simp [hl], q2⟩
  · rintro H' ⟨acc, W', mm, hl, j⟩
    obtain ⟨ys, hH, ds⟩ := mm.h
    exact k acc p ys W' H' (s1.trans ok1 mm.st) mm.ok (s1.free ok1 hp0) mm.n mm.i hH ds (hd acc hl j)
theorem sd_ownLc {i : Nat} {y : Str} {py spos : Pos} {elt tg iter : Expr} {scope : Scope} {own : List (Str × Nat)} {wi : TI} {g : TG} (hc : X.calm = true) (hN : X.N.Nodup) (hy : X.N[i]? = some y) (hyl : X.env.scope.names.lookup y = some .local) (hi : PI X tg iter wi) (ok : BlkOk X.N X.env.scope scope own)
    (hg : ∀ (s : Shared) (H : Hp) (C : Addr) (cl : List (Str × Addr)) (fp : List Addr), PG (X.blk s H scope (compEnvC scope cl C X.env) fp) tg g)
    (h : LC X B S (tLc wi g tYes (WEb X scope elt) (own.map (·.2))) fun l => E.nx (S.set i (some (.own l))))
    (hsw : swapsWith (.ListComp elt [⟨tg, iter, [], 0⟩] scope pos) (some (.Name y py)) spos.line X.env = pure true := by exact sw_true rfl rfl rfl rfl) (hs : ∀ x, foldedSetIterable iter X.env x = pure x := by intro _; rfl) :
    SD X B W0 S (.Assign [.Name y py] (.ListComp elt [⟨tg, iter, [], 0⟩] scope pos) spos) E := fun σ W H r z D' k => by
  refine PS.w (ps_setLc (i := i) hc hN hy hyl hsw hi ok hg (fun _ _ _ _ _ => pts_nil) web_pe hs) ?_
  exact h σ W H r _ fun l p xs W1 H1 s1 ok1 hp n i1 hl d q1 => k.nx _ _ W1 H1 ((r.step s1 ok1).setOwn (z.free r.ok hp) n i1 hl d fun j m e1 e2 => by
    obtain ⟨v, e3, p2, ys, e4, _, _, _, h4, _⟩ := r.sl j _ e1
    rw [e2] at e3
    cases e3
    cases e4
    rw [hp] at h4
    cases h4) (z.trans r.ok s1) s1.I q1
end
end DL

set_option Elab.async false
set_option linter.all false
set_option maxRecDepth 100000
set_option maxHeartbeats 4000000
/-! all, any; defs called by keywords; comprehensions with a test, with two ranges -/
namespace DL
open PySem PySem.Spec PyProof.Rows L2
theorem Dns.bls {K : PySem.W.Frag} {I : Hp} : ∀ {bs : List Bool} {xs : List V}, Dns K I (bs.map D.bl) xs → xs = bs.map V.bl
  | [], _, .nil => rfl
  | b :: bs, _, .cons (.bl _) r => by rw [List.map_cons, Dns.bls r]
theorem Dns.ints {K : PySem.W.Frag} {I : Hp} : ∀ {bs : List Int} {xs : List V}, Dns K I (bs.map D.int) xs → xs = bs.map V.int
  | [], _, .nil => rfl
  | b :: bs, _, .cons (.int _) r => by rw [List.map_cons, Dns.ints r]
section
variable {X : Cx} {B : Hp} {S : En} {pos p : Pos} {Q : D → Prop} {e : Expr} {es : List Expr} {x : Str} {k n : Nat} {kws : List Keyword}
theorem cd_all {bs : List Bool} (hc : X.calm = true) (q : Q (.bl (bs.all id))) : CD X (.builtin "all") [.val (.lst (bs.map D.bl))] Q := cd_of (cr_all hc) fun vs W H ok ha R c => by
  obtain ⟨v, rfl, h⟩ := one_arg ha
  cases h with
  | lst h z => exact ⟨_, bs, rfl, by rw [← z.bls]; exact SqL.of (ok.ex _ _ h), c.now ok (.bl _) q⟩
theorem cd_any {bs : List Bool} (hc : X.calm = true) (q : Q (.bl (bs.any id))) : CD X (.builtin "any") [.val (.lst (bs.map D.bl))] Q := cd_of (cr_any hc) fun vs W H ok ha R c => by
  obtain ⟨v, rfl, h⟩ := one_arg ha
  cases h with
  | lst h z => exact ⟨_, bs, rfl, by rw [← z.bls]; exact SqL.of (ok.ex _ _ h), c.now ok (.bl _) q⟩
/-! a def called by keywords alone -/
theorem we_callK0 {f : Addr} {fd : FuncData} {ps ks : List Str} {sp : SpG} {g : List Code} {gf : List Value → List Value → List Value} {gV : List V → List V → List V} {σ : L2.St} {H : Hp} {Q : VK}
    (F : GnOk X.prog X.w X.K X.mg X.base k f fd ps sp) (hr : Room k X.A) (hG : X.A.guards = some g) (hg : Gl X x) (hm : X.mg x = some (.ref f)) (hk : PySem.W.keepIn X.K (.ref f) = true) (hb : KBn X.K fd ps 0 ks gf gV)
    (h : WK X kws σ H fun zs H1 => zs.length = ks.length ∧ sp g (gV [] zs) H1 Q)
    (hall : (backToKw pos (keywordEach kws X.env)).all (·.1.isSome) = true) (hks : (backToKw pos (keywordEach kws X.env)).filterMap (·.1) = ks) (hdb : (x == ("__debug__" : Str)) = false)
    (hpl : ((backTo pos (starEach [] X.env)).any (·.1) || (backToKw pos (keywordEach kws X.env)).any (·.1.isNone)) = false) : WE X (.Call (.Name x p) [] kws pos) σ H Q := fun pins s I => by
  refine wpAny_Call_Name_kw (ld_glob I hg hm ?_ hdb)
  refine PySem.W.callWith_KW0 (h₀ := X.base) I.ok.mod.kin hk hall (thn (h pos pins s I) fun ws s2 ⟨zs, H2, I2, rz, l2, q2⟩ => ⟨I2.kIn, ?_⟩) hpl
  rw [hks]
  have n2 : ws.length = ks.length := by rw [← rz.length, l2]
  exact wpAny_call (run_gb F hr hG I2.env0 (hb.to _ [] ws I2.kIn rfl n2) I2 (hb.rel (vs := []) (us := []) .nil rz) q2 fun _ _ z => z)
structure DfK (P : Program) (w : World) (K : PySem.W.Frag) (mg : Str → Option Value) (base : Heap) (x : Str) (k : Nat) (ks : List Str) (midD : List Sl → List Sl) (sp : SpD) : Prop where
  ex : ∃ f fd ps gf, ∃ mid : List V → List V, GnOk P w K mg base k f fd ps (lift K sp) ∧ mg x = some (.ref f) ∧ PySem.W.keepIn K (.ref f) = true ∧ KBn K fd ps 0 ks gf (fun vs zs => vs ++ mid zs) ∧ ∀ W bs zs, Args K W bs zs → Args K W (midD bs) (mid zs)
theorem ed_callK0 {ks : List Str} {midD : List Sl → List Sl} {sp : SpD} (F : DfK X.prog X.w X.K X.mg X.base x k ks midD sp) (hr : Room k X.A) (hG : X.A.guards = some (gOf X)) (h : KD X B S kws fun bs => bs.length = ks.length ∧ sp (midD bs) Q) (hg : Gl X x := by rfl)
    (hall : (backToKw pos (keywordEach kws X.env)).all (·.1.isSome) = true := by rfl) (hks : (backToKw pos (keywordEach kws X.env)).filterMap (·.1) = ks := by rfl) (hdb : (x == ("__debug__" : Str)) = false := by decide)
    (hpl : ((backTo pos (starEach [] X.env)).any (·.1) || (backToKw pos (keywordEach kws X.env)).any (·.1.isNone)) = false := by rfl) : ED X B S (.Call (.Name x p) [] kws pos) Q := fun σ W H r R c => by
  obtain ⟨f, fd, ps, gf, mid, F, hm, hk, hb, hc⟩ := F.ex
  refine we_callK0 F hr hG hg hm hk hb ?_ hall hks hdb hpl
  refine h σ W H r _ fun bs zs W1 H1 s1 ok1 n1 q1 => ?_
  obtain ⟨l, q1⟩ := q1
  exact ⟨by rw [← l]; exact (Paired.length n1).symm, midD bs, W1, Q, ok1, hc _ _ _ n1, q1, c.step s1 ok1⟩
/-! comprehensions with a test -/
theorem Mid.same {K : PySem.W.Frag} {g : List Code} {W1 W W2 : Wd} {H1 H H2 : Hp} {p : Addr} {l : List D} (m : Mid K g W1 H1 p l W H) (a : Stp W H W2 H2) (ok : Ok g W2 H2) : Mid K g W1 H1 p l W2 H2 := m.step a ok
/-- [elt for g in a list if c] -/
theorem fd_lcLI {elt tg iter c : Expr} {scope : Scope} {own : List (Str × Nat)} {g : TG} {l : List D} {Q : List D → Prop} (J : Nat → List D → Prop) (S' : D → En) (hc : X.calm = true) (hN : X.N.Nodup) (ok : BlkOk X.N X.env.scope scope own)
    (hg : ∀ (s : Shared) (H : Hp) (C : Addr) (cl : List (Str × Addr)) (fp : List Addr), PG (X.blk s H scope (compEnvC scope cl C X.env) fp) tg g)
    (h : ED X B S iter fun d => d = .lst l ∧ l.length ≤ 50000 ∧ J 0 []) (hp : ∀ d ∈ l, Pat X.K g (own.map (·.2)) S d (S' d))
    (he : ∀ (i : Nat) d acc, l[i]? = some d → acc.length ≤ i → J i acc → ∀ (s : Shared) (H0 : Hp) (C : Addr) (cl : List (Str × Addr)) (fp : List Addr), TD (X.blk s H0 scope (compEnvC scope cl C X.env) fp) B (S' d) c fun b =>
      if b = true then ∀ (s : Shared) (H0 : Hp) (C : Addr) (cl : List (Str × Addr)) (fp : List Addr), ED (X.blk s H0 scope (compEnvC scope cl C X.env) fp) B (S' d) elt fun y => J (i + 1) (acc ++ [y]) else J (i + 1) acc)
    (hd : ∀ acc, acc.length ≤ l.length → J l.length acc → Q acc) (hs : ∀ x, foldedSetIterable iter X.env x = pure x := by intro _; rfl) : FD X B S (.ListComp elt [⟨tg, iter, [c], 0⟩] scope pos) Q := fun σ W H r R k => by
  refine PE.w (pe_lc (te := WEb X scope elt) (tt := WTb X scope c) hc hN (pi_list we_pe) ok hg (fun s H C cl fp => pts_one (wtb_pt s H C cl fp)) web_pe hs) ?_
  refine h σ W H r _ fun d v W1 H1 s1 ok1 n1 q1 => ?_
  obtain ⟨rfl, hz, j0⟩ := q1
  cases n1 with
  | @lst _ a xs ha m =>
    refine ⟨a, rfl, ⟨xs, SqL.of (ok1.ex _ _ ha)⟩, fun p hp0 => ?_⟩
    have r1 := r.step s1 ok1
    refine lc_list (K := X.K) (a := a) (xs := xs) (fun i H' => ∃ acc W', Mid X.K (gOf X) W1 H1 p acc W' H' ∧ acc.length ≤ i ∧ J i acc) ⟨[], W1, ⟨Stp.own hp0, ok1.own hp0, ok1.notP hp0, ok1.free hp0, [], upd_same, .nil⟩, Nat.le_refl _, j0⟩
      (fun i H' _ ⟨acc, W', mm, _⟩ => SqL.of (mm.ok.ex _ _ (mm.st.I _ _ ha))) ?_ ?_
    · rintro i x H' hx ⟨acc, W', mm, hl, j⟩
      obtain ⟨d, hd', nd⟩ := m.get hx
      have r2 := r1.step mm.st mm.ok
      refine hp d (List.mem_of_getElem? hd') (gOf X) B σ W' H' x r2 (nd.mono mm.st.I) _ fun σ2 e2 r3 => ?_
      refine ⟨e2, ?_⟩
      show WTb X scope c σ2 H' _
      intro s H0 C cl fp
      have lt : i < l.length := (List.getElem?_eq_some_iff.mp hd').1
      refine he i d acc hd' hl j s H0 C cl fp σ2 W' H' r3 _ fun b W2 H2 s2 ok2 q2 => ?_
      cases b with
      | false => exact iteF ⟨acc, W2, mm.step s2 ok2, Nat.le_succ_of_le hl, by simpa using q2⟩
      | true =>
        refine iteT ?_
        show WEb X scope elt σ2 H2 _
        intro s H0 C cl fp
        refine (show ∀ (s : Shared) (H0 : Hp) (C : Addr) (cl : List (Str × Addr)) (fp : List Addr), ED (X.blk s H0 scope (compEnvC scope cl C X.env) fp) B (S' d) elt fun y => J (i + 1) (acc ++ [y]) by simpa using q2) s H0 C cl fp σ2 W2 H2 (r3.step s2 ok2) _ fun y v W3 H3 s3 ok3 n3 q3 => ?_
        obtain ⟨xs', e1, e3, m3⟩ := ((mm.step s2 ok2).step s3 ok3).more hp0 n3 (by omega)
        exact ⟨xs', e1, e3, _, W3, m3, by simp only [List.length_append, List.length_singleton]; omega, q3⟩
    · rintro H' ⟨acc, W', mm, hl, j⟩
      obtain ⟨ys, hH, ds⟩ := mm.h
      rw [← m.length] at hl j
      exact k acc p ys W' H' (s1.trans ok1 mm.st) mm.ok (s1.free ok1 hp0) mm.n mm.i hH ds (hd acc hl j)
/-- .. of a tuple -/
theorem fd_lcTI {elt tg iter c : Expr} {scope : Scope} {own : List (Str × Nat)} {g : TG} {l : List D} {Q : List D → Prop} (J : Nat → List D → Prop) (S' : D → En) (hc : X.calm = true) (hN : X.N.Nodup) (ok : BlkOk X.N X.env.scope scope own)
    (hg : ∀ (s : Shared) (H : Hp) (C : Addr) (cl : List (Str × Addr)) (fp : List Addr), PG (X.blk s H scope (compEnvC scope cl C X.env) fp) tg g)
    (h : ED X B S iter fun d => d = .tup l ∧ l.length ≤ 50000 ∧ J 0 []) (hp : ∀ d ∈ l, Pat X.K g (own.map (·.2)) S d (S' d))
    (he : ∀ (i : Nat) d acc, l[i]? = some d → acc.length ≤ i → J i acc → ∀ (s : Shared) (H0 : Hp) (C : Addr) (cl : List (Str × Addr)) (fp : List Addr), TD (X.blk s H0 scope (compEnvC scope cl C X.env) fp) B (S' d) c fun b =>
      if b = true then ∀ (s : Shared) (H0 : Hp) (C : Addr) (cl : List (Str × Addr)) (fp : List Addr), ED (X.blk s H0 scope (compEnvC scope cl C X.env) fp) B (S' d) elt fun y => J (i + 1) (acc ++ [y]) else J (i + 1) acc)
    (hd : ∀ acc, acc.length ≤ l.length → J l.length acc → Q acc) (hs : ∀ x, foldedSetIterable iter X.env x = pure x := by intro _; rfl) : FD X B S (.ListComp elt [⟨tg, iter, [c], 0⟩] scope pos) Q := fun σ W H r R k => by
  refine PE.w (pe_lc (te := WEb X scope elt) (tt := WTb X scope c) hc hN (pi_tup we_pe) ok hg (fun s H C cl fp => pts_one (wtb_pt s H C cl fp)) web_pe hs) ?_
  refine h σ W H r _ fun d v W1 H1 s1 ok1 n1 q1 => ?_
  obtain ⟨rfl, hz, j0⟩ := q1
  cases n1 with
  | @tup _ a xs ha m =>
    refine ⟨a, rfl, ⟨xs, SqT.of (ok1.ex _ _ ha)⟩, fun p hp0 => ?_⟩
    have r1 := r.step s1 ok1
    refine lc_tup (K := X.K) (a := a) (xs := xs) (fun i H' => ∃ acc W', Mid X.K (gOf X) W1 H1 p acc W' H' ∧ acc.length ≤ i ∧ J i acc) ⟨[], W1, ⟨Stp.own hp0, ok1.own hp0, ok1.notP hp0, ok1.free hp0, [], upd_same, .nil⟩, Nat.le_refl _, j0⟩
      (fun i H' _ ⟨acc, W', mm, _⟩ => SqT.of (mm.ok.ex _ _ (mm.st.I _ _ ha))) ?_ ?_
    · rintro i x H' hx ⟨acc, W', mm, hl, j⟩
      obtain ⟨d, hd', nd⟩ := m.get hx
      have r2 := r1.step mm.st mm.ok
      refine hp d (List.mem_of_getElem? hd') (gOf X) B σ W' H' x r2 (nd.mono mm.st.I) _ fun σ2 e2 r3 => ?_
      refine ⟨e2, ?_⟩
      show WTb X scope c σ2 H' _
      intro s H0 C cl fp
      have lt : i < l.length := (List.getElem?_eq_some_iff.mp hd').1
      refine he i d acc hd' hl j s H0 C cl fp σ2 W' H' r3 _ fun b W2 H2 s2 ok2 q2 => ?_
      cases b with
      | false => exact iteF ⟨acc, W2, mm.step s2 ok2, Nat.le_succ_of_le hl, by simpa using q2⟩
      | true =>
        refine iteT ?_
        show WEb X scope elt σ2 H2 _
        intro s H0 C cl fp
        refine (show ∀ (s : Shared) (H0 : Hp) (C : Addr) (cl : List (Str × Addr)) (fp : List Addr), ED (X.blk s H0 scope (compEnvC scope cl C X.env) fp) B (S' d) elt fun y => J (i + 1) (acc ++ [y]) by simpa using q2) s H0 C cl fp σ2 W2 H2 (r3.step s2 ok2) _ fun y v W3 H3 s3 ok3 n3 q3 => ?_
        obtain ⟨xs', e1, e3, m3⟩ := ((mm.step s2 ok2).step s3 ok3).more hp0 n3 (by omega)
        exact ⟨xs', e1, e3, _, W3, m3, by simp only [List.length_append, List.length_singleton]; omega, q3⟩
    · rintro H' ⟨acc, W', mm, hl, j⟩
      obtain ⟨ys, hH, ds⟩ := mm.h
      rw [← m.length] at hl j
      exact k acc p ys W' H' (s1.trans ok1 mm.st) mm.ok (s1.free ok1 hp0) mm.n mm.i hH ds (hd acc hl j)
/-- [elt for g in a tuple] -/
theorem fd_lcT {elt tg iter : Expr} {scope : Scope} {own : List (Str × Nat)} {g : TG} {l : List D} {Q : List D → Prop} (J : Nat → List D → Prop) (S' : D → En) (hc : X.calm = true) (hN : X.N.Nodup) (ok : BlkOk X.N X.env.scope scope own)
    (hg : ∀ (s : Shared) (H : Hp) (C : Addr) (cl : List (Str × Addr)) (fp : List Addr), PG (X.blk s H scope (compEnvC scope cl C X.env) fp) tg g)
    (h : ED X B S iter fun d => d = .tup l ∧ l.length ≤ 50000 ∧ J 0 []) (hp : ∀ d ∈ l, Pat X.K g (own.map (·.2)) S d (S' d))
    (he : ∀ (i : Nat) d acc, l[i]? = some d → acc.length = i → J i acc → ∀ (s : Shared) (H0 : Hp) (C : Addr) (cl : List (Str × Addr)) (fp : List Addr), ED (X.blk s H0 scope (compEnvC scope cl C X.env) fp) B (S' d) elt fun y => J (i + 1) (acc ++ [y]))
    (hd : ∀ acc, acc.length = l.length → J l.length acc → Q acc) (hs : ∀ x, foldedSetIterable iter X.env x = pure x := by intro _; rfl) : FD X B S (.ListComp elt [⟨tg, iter, [], 0⟩] scope pos) Q := fun σ W H r R k => by
  refine PE.w (pe_lc (te := WEb X scope elt) hc hN (pi_tup we_pe) ok hg (fun _ _ _ _ _ => pts_nil) web_pe hs) ?_
  refine h σ W H r _ fun d v W1 H1 s1 ok1 n1 q1 => ?_
  obtain ⟨rfl, hz, j0⟩ := q1
  cases n1 with
  | @tup _ a xs ha m =>
    refine ⟨a, rfl, ⟨xs, SqT.of (ok1.ex _ _ ha)⟩, fun p hp0 => ?_⟩
    have r1 := r.step s1 ok1
    refine lc_tup (K := X.K) (a := a) (xs := xs) (fun i H' => ∃ acc W', Mid X.K (gOf X) W1 H1 p acc W' H' ∧ acc.length = i ∧ J i acc) ⟨[], W1, ⟨Stp.own hp0, ok1.own hp0, ok1.notP hp0, ok1.free hp0, [], upd_same, .nil⟩, rfl, j0⟩
      (fun i H' _ ⟨acc, W', mm, _⟩ => SqT.of (mm.ok.ex _ _ (mm.st.I _ _ ha))) ?_ ?_
    · rintro i x H' hx ⟨acc, W', mm, hl, j⟩
      obtain ⟨d, hd', nd⟩ := m.get hx
      have r2 := r1.step mm.st mm.ok
      refine hp d (List.mem_of_getElem? hd') (gOf X) B σ W' H' x r2 (nd.mono mm.st.I) _ fun σ2 e2 r3 => ?_
      refine ⟨e2, ?_⟩
      show WEb X scope elt σ2 H' _
      intro s H0 C cl fp
      have lt : i < l.length := (List.getElem?_eq_some_iff.mp hd').1
      refine he i d acc hd' hl j s H0 C cl fp σ2 W' H' r3 _ fun y v W2 H2 s2 ok2 n2 q2 => ?_
      obtain ⟨xs', e1, e3, m3⟩ := (mm.step s2 ok2).more hp0 n2 (by omega)
      exact ⟨xs', e1, e3, _, W2, m3, by simp [hl], q2⟩
    · rintro H' ⟨acc, W', mm, hl, j⟩
      obtain ⟨ys, hH, ds⟩ := mm.h
      rw [← m.length] at hl j
      exact k acc p ys W' H' (s1.trans ok1 mm.st) mm.ok (s1.free ok1 hp0) mm.n mm.i hH ds (hd acc hl j)
end
end DL

set_option Elab.async false
set_option linter.all false
set_option maxRecDepth 100000
set_option maxHeartbeats 2000000
/-! zip of a list or a tuple with a list or a tuple, whichever each is -/
namespace ZX
open PySem PySem.Spec PyProof.Rows
/-- an iterator at `it` that goes through the items of what stands at `l` -/
structure Feed where
  it : Addr
  l : Addr
  xs : Array Value
  st : Nat → Heap → Prop
  src : Heap → Prop
  stE : ∀ {h h' : Heap} {b : Addr} {k : Nat}, st k h → Heap.ExtBut b h h' → it ≠ b → st k h'
  srcE : ∀ {h h' : Heap} {b : Addr}, src h → Heap.ExtBut b h h' → l ≠ b → src h'
  item : ∀ {p : Program} {w : World} {A : Around} {E : Value → Shared → Prop} {s : Shared} {k : Nat} {x : Value} {Q : Value → Shared → Prop}, st k s.heap → src s.heap → xs[k]? = some x →
    (∀ h', st (k + 1) h' → Heap.SameBut it s.heap h' → Q x { s with heap := h' }) → wpAny (model p w) A (Builtin.SmallTypes.nextOf (.ref it)) Q E s
  done : ∀ {p : Program} {w : World} {A : Around} {E : Value → Shared → Prop} {s : Shared} {k : Nat} {Q : Value → Shared → Prop}, A.handled = none → st k s.heap → src s.heap → xs[k]? = none →
    (∀ h' e, Heap.ExtBut it s.heap h' → (∃ o, h'.get? e = some o ∧ o.cls = .type "StopIteration") → E (.ref e) { s with heap := h' }) → wpAny (model p w) A (Builtin.SmallTypes.nextOf (.ref it)) Q E s
  obj : ∀ {h : Heap} {k : Nat}, st k h → ∃ o, h.get? it = some o ∧ ∀ v, o.data ≠ .cell v
  same : ∀ {h h' : Heap} {k : Nat}, st k h → (∀ o, h.get? it = some o → h'.get? it = some o) → st k h'
def feedL (it l : Addr) (xs : Array Value) : Feed where
  it := it
  l := l
  xs := xs
  st := fun k h => h.IsListIter it l k
  src := fun h => h.IsList l xs
  stE := fun a b c => a.extBut b c
  srcE := fun a b c => a.extBut b c
  item := fun a b c d => wpAny_nextOf_list_item a b c d
  done := fun a b c d e => wpAny_nextOf_list_end a b c d e
  obj := fun ⟨o, e, _, d⟩ => ⟨o, e, fun v q => by rw [d] at q; cases q⟩
  same := fun a b => a.at b
def feedT (it l : Addr) (xs : Array Value) : Feed where
  it := it
  l := l
  xs := xs
  st := fun k h => h.IsTupleIter it l k
  src := fun h => h.IsTuple l xs
  stE := fun a b c => a.extBut b c
  srcE := fun a b c => a.extBut b c
  item := fun a b c d => RZ.nextOf_tuple_item a b c d
  done := fun a b c d e => RZ.nextOf_tuple_end a b c d e
  obj := fun ⟨o, e, _, d⟩ => ⟨o, e, fun v q => by rw [d] at q; cases q⟩
  same := fun a b => a.at b
section
variable {p : Program} {w : World} {A : Around} {E : Value → Shared → Prop} {s : Shared} {M N : Feed} {z TI TO : Addr} {i j : Nat} {a b : Value}
/-- how the zip stands ahead of a turn -/
structure Stands (M N : Feed) (z TI TO : Addr) (i j : Nat) (h : Heap) : Prop where
  z : IsZip h z TI TO .none
  ti : IsPair h TI (.ref M.it) (.ref N.it)
  to : ∃ a b, IsPair h TO a b
  f : M.st i h
  g : N.st j h
theorem next_item {x y : Value} {Q : Value → Shared → Prop} (D : ZipApart z TI TO M.it N.it M.l N.l) (st : Stands M N z TI TO i j s.heap) (sf : M.src s.heap) (sg : N.src s.heap) (hx : M.xs[i]? = some x) (hy : N.xs[j]? = some y)
    (hQ : ∀ h', IsZip h' z TI TO (rawInt s.heap.objs.size) → IsPair h' TO x y → M.st (i + 1) h' → N.st (j + 1) h' → IsPair h' s.heap.objs.size x y → h'.objs.size = s.heap.objs.size + 1 →
      (∀ c o, c ≠ z → c ≠ TO → c ≠ M.it → c ≠ N.it → s.heap.get? c = some o → h'.get? c = some o) → Q (.ref s.heap.objs.size) { s with heap := h' }) :
    wpAny (model p w) A (Builtin.«zip.__next__» ⟨[.ref z], []⟩) (fun fin s' => ∃ v, fin = .done (.ret v) ∧ Q v s') E s := by
  obtain ⟨hz, hTI, ⟨a, b, hTO⟩, f0, g0⟩ := st
  show wpAny _ _ (field (.ref z) 2 >>= _) _ _ _
  refine wpAny_bind (wpAny_field hz rfl (x := .bool false) rfl ?_); show wpAny _ _ (field (.ref z) 3 >>= _) _ _ _
  refine wpAny_bind (wpAny_field hz rfl (x := .ref TI) rfl ?_); refine wpAny_bind (wpAny_seqItems hTI rfl ?_)
  show wpAny _ _ (Builtin.SmallTypes.ownedTupleIsFree (.ref z) >>= _) _ _ _
  refine wpAny_bind ?_; unfold Builtin.SmallTypes.ownedTupleIsFree
  refine wpAny_bind (wpAny_field hz rfl (x := .none) rfl (wpAny_pure ?_)); simp only [if_true]
  refine wpAny_bind (wpAny_rule ?_); refine wpAny_bind (wpAny_field hz rfl (x := .ref TO) rfl ?_)
  refine wpAny_bind (wpAny_setField_rec hz (by simp) fun m1 z1 e1 => ?_)
  have z1' : IsZip m1 z TI TO .ellipsis := z1
  refine wpAny_bind ?_; simp only [List.zipIdx_cons, List.zipIdx_nil, List.forIn_cons, List.forIn_nil]
  have x1 := e1.extBut
  refine wpAny_bind (wpAny_bind (wpAny_onRaise ?_)); show wpAny _ _ (Builtin.SmallTypes.nextOf (.ref M.it) >>= _) _ _ _
  refine wpAny_bind (M.item (M.stE f0 x1 D.i1z) (M.srcE sf x1 D.l1z) hx fun m2 f2 e2 => wpAny_pure ?_)
  have x2 := e2.extBut
  have t2 : IsPair m2 TO a b := x2 _ _ D.TOi1 (x1 _ _ D.TOz hTO)
  refine wpAny_bind (wpAny_seqItems t2 rfl ?_); refine wpAny_bind (wpAny_updateSeq_pair t2 fun m3 t3 e3 => ?_)
  have x3 := e3.extBut
  have t3' : IsPair m3 TO x b := t3
  refine wpAny_bind (wpAny_letGo (wpAny_pure ?_)); refine wpAny_bind (wpAny_bind (wpAny_onRaise ?_))
  show wpAny _ _ (Builtin.SmallTypes.nextOf (.ref N.it) >>= _) _ _ _
  refine wpAny_bind (N.item (N.stE (N.stE (N.stE g0 x1 D.i2z) x2 D.i12.symm) x3 D.TOi2.symm) (N.srcE (N.srcE (N.srcE sg x1 D.l2z) x2 D.l2i1) x3 D.l2TO) hy fun m4 g4 e4 => wpAny_pure ?_)
  have x4 := e4.extBut
  have t4 : IsPair m4 TO x b := x4 _ _ D.TOi2 t3'
  refine wpAny_bind (wpAny_seqItems t4 rfl ?_); refine wpAny_bind (wpAny_updateSeq_pair t4 fun m5 t5 e5 => ?_)
  have x5 := e5.extBut
  have t5' : IsPair m5 TO x y := t5
  refine wpAny_bind (wpAny_letGo (wpAny_pure (wpAny_pure ?_))); refine wpAny_bind (wpAny_seqItems t5' rfl ?_)
  refine wpAny_bind (wpAny_newTuple ?_)
  have size5 : m5.objs.size = s.heap.objs.size := by rw [e5.1, e4.1, e3.1, e2.1, e1.1]
  have z5 : IsZip m5 z TI TO .ellipsis := x5 _ _ D.TOz.symm (x4 _ _ D.i2z.symm (x3 _ _ D.TOz.symm (x2 _ _ D.i1z.symm z1')))
  have old5 : ∀ c o, c ≠ z → c ≠ TO → c ≠ M.it → c ≠ N.it → s.heap.get? c = some o → m5.get? c = some o := fun c o n1 n2 n3 n4 e => x5 _ _ n2 (x4 _ _ n4 (x3 _ _ n2 (x2 _ _ n3 (x1 _ _ n1 e))))
  have f5 : M.st (i + 1) m5 := M.stE (M.stE (M.stE f2 x3 D.TOi1.symm) x4 D.i12) x5 D.TOi1.symm
  have g5 : N.st (j + 1) m5 := N.stE g4 x5 D.TOi2.symm
  have zlt : z < m5.objs.size := Heap.lt_size z5
  show wpAny _ _ (Builtin.SmallTypes.ownedTupleHandOut (.ref z) (.ref m5.objs.size) >>= _) _ _ _
  refine wpAny_bind ?_; unfold Builtin.SmallTypes.ownedTupleHandOut
  have z6 : IsZip (m5.push { cls := .type "tuple", data := .seq #[x, y] }) z TI TO .ellipsis := Heap.get?_push_of_some _ z5
  refine wpAny_bind (wpAny_setField_rec z6 (by simp) fun m7 z7 e7 => ?_)
  have z7' : IsZip m7 z TI TO (rawInt m5.objs.size) := z7
  refine wpAny_setField_rec z7' (by simp) fun m8 z8 e8 => ?_
  have z8' : IsZip m8 z TI TO (rawInt m5.objs.size) := z8
  have up : ∀ c o, c ≠ z → m5.get? c = some o → m8.get? c = some o := fun c o n e => e8.extBut _ _ n (e7.extBut _ _ n (Heap.get?_push_of_some _ e))
  have nz : m5.objs.size ≠ z := Nat.ne_of_gt zlt
  have T8 : IsPair m8 m5.objs.size x y := e8.extBut _ _ nz (e7.extBut _ _ nz (Heap.get?_push_size _ rfl))
  have size8 : m8.objs.size = m5.objs.size + 1 := by rw [e8.1, e7.1, Heap.size_push]
  rw [size5] at z8' T8 size8
  refine wpAny_pure ⟨_, rfl, ?_⟩
  show Q (.ref m5.objs.size) _
  rw [size5]
  exact hQ m8 z8' (up _ _ D.TOz t5') (M.same f5 fun o e => up _ o D.i1z e) (N.same g5 fun o e => up _ o D.i2z e) T8 size8 fun c o n1 n2 n3 n4 e => up c o n1 (old5 c o n1 n2 n3 n4 e)
theorem next_end {Q : Fin → Shared → Prop} (hh : A.handled = none) (D : ZipApart z TI TO M.it N.it M.l N.l) (st : Stands M N z TI TO i j s.heap) (sf : M.src s.heap) (sg : N.src s.heap) (hend : M.xs[i]? = none ∨ N.xs[j]? = none)
    (hE : ∀ h' e, (∀ c o, c ≠ z → c ≠ TO → c ≠ M.it → c ≠ N.it → s.heap.get? c = some o → h'.get? c = some o) → (∃ o, h'.get? e = some o ∧ o.cls = .type "StopIteration") → E (.ref e) { s with heap := h' }) :
    wpAny (model p w) A (Builtin.«zip.__next__» ⟨[.ref z], []⟩) Q E s := by
  obtain ⟨hz, hTI, ⟨a, b, hTO⟩, f0, g0⟩ := st
  show wpAny _ _ (field (.ref z) 2 >>= _) _ _ _
  refine wpAny_bind (wpAny_field hz rfl (x := .bool false) rfl ?_); show wpAny _ _ (field (.ref z) 3 >>= _) _ _ _
  refine wpAny_bind (wpAny_field hz rfl (x := .ref TI) rfl ?_); refine wpAny_bind (wpAny_seqItems hTI rfl ?_)
  show wpAny _ _ (Builtin.SmallTypes.ownedTupleIsFree (.ref z) >>= _) _ _ _
  refine wpAny_bind ?_; unfold Builtin.SmallTypes.ownedTupleIsFree
  refine wpAny_bind (wpAny_field hz rfl (x := .none) rfl (wpAny_pure ?_)); simp only [if_true]
  refine wpAny_bind (wpAny_rule ?_); refine wpAny_bind (wpAny_field hz rfl (x := .ref TO) rfl ?_)
  refine wpAny_bind (wpAny_setField_rec hz (by simp) fun m1 z1 e1 => ?_)
  have z1' : IsZip m1 z TI TO .ellipsis := z1
  refine wpAny_bind ?_; simp only [List.zipIdx_cons, List.zipIdx_nil, List.forIn_cons, List.forIn_nil]
  have x1 := e1.extBut
  refine wpAny_bind (wpAny_bind (wpAny_onRaise ?_)); show wpAny _ _ (Builtin.SmallTypes.nextOf (.ref M.it) >>= _) _ _ _
  cases hx : M.xs[i]? with
  | none =>
    refine wpAny_bind (M.done hh (M.stE f0 x1 D.i1z) (M.srcE sf x1 D.l1z) hx fun m2 e x2 he => ?_)
    obtain ⟨oe, h1, h2⟩ := he
    have z2 : IsZip m2 z TI TO .ellipsis := x2 _ _ D.i1z.symm z1'
    have ez : e ≠ z := fun q => by rw [q, z2] at h1; cases h1; simp at h2
    exact wpAny_setField_rec z2 (by simp) fun m3 _ e3 => hE m3 e (fun c o n1 _ n3 _ q => e3.extBut _ _ n1 (x2 _ _ n3 (x1 _ _ n1 q))) ⟨oe, e3.extBut _ _ ez h1, h2⟩
  | some x =>
    have hy : N.xs[j]? = none := by rcases hend with h | h; rw [hx] at h; cases h; exact h
    refine wpAny_bind (M.item (M.stE f0 x1 D.i1z) (M.srcE sf x1 D.l1z) hx fun m2 f2 e2 => wpAny_pure ?_)
    have x2 := e2.extBut
    have t2 : IsPair m2 TO a b := x2 _ _ D.TOi1 (x1 _ _ D.TOz hTO)
    refine wpAny_bind (wpAny_seqItems t2 rfl ?_); refine wpAny_bind (wpAny_updateSeq_pair t2 fun m3 t3 e3 => ?_)
    have x3 := e3.extBut
    refine wpAny_bind (wpAny_letGo (wpAny_pure ?_)); refine wpAny_bind (wpAny_bind (wpAny_onRaise ?_))
    show wpAny _ _ (Builtin.SmallTypes.nextOf (.ref N.it) >>= _) _ _ _
    refine wpAny_bind (N.done hh (N.stE (N.stE (N.stE g0 x1 D.i2z) x2 D.i12.symm) x3 D.TOi2.symm) (N.srcE (N.srcE (N.srcE sg x1 D.l2z) x2 D.l2i1) x3 D.l2TO) hy fun m4 e x4 he => ?_)
    obtain ⟨oe, h1, h2⟩ := he
    have z4 : IsZip m4 z TI TO .ellipsis := x4 _ _ D.i2z.symm (x3 _ _ D.TOz.symm (x2 _ _ D.i1z.symm z1'))
    have ez : e ≠ z := fun q => by rw [q, z4] at h1; cases h1; simp at h2
    exact wpAny_setField_rec z4 (by simp) fun m5 _ e5 => hE m5 e (fun c o n1 n2 n3 n4 q => e5.extBut _ _ n1 (x4 _ _ n4 (x3 _ _ n2 (x2 _ _ n3 (x1 _ _ n1 q))))) ⟨oe, e5.extBut _ _ ez h1, h2⟩
end
end ZX
namespace ZX
open PySem PySem.Spec PyProof.Rows
/-- t: a tuple, else a list -/
def Stand : Bool → Heap → Addr → Array Value → Prop
  | true => fun h l xs => h.IsTuple l xs
  | false => fun h l xs => h.IsList l xs
def feed (t : Bool) (it l : Addr) (xs : Array Value) : Feed := match t with
  | true => feedT it l xs
  | false => feedL it l xs
theorem feed_it {t : Bool} {it l : Addr} {xs : Array Value} : (feed t it l xs).it = it := by cases t <;> rfl
theorem feed_l {t : Bool} {it l : Addr} {xs : Array Value} : (feed t it l xs).l = l := by cases t <;> rfl
theorem feed_xs {t : Bool} {it l : Addr} {xs : Array Value} : (feed t it l xs).xs = xs := by cases t <;> rfl
theorem feed_src {t : Bool} {it l : Addr} {xs : Array Value} {h : Heap} (e : Stand t h l xs) : (feed t it l xs).src h := by cases t <;> exact e
abbrev io (t : Bool) (l : Addr) : Obj := { cls := .type (match t with | true => "tuple_iterator" | false => "list_iterator"), data := .fields #[.ref l, .int 0 0] }
theorem feed_new {t : Bool} {it l : Addr} {xs : Array Value} {h : Heap} (e : h.get? it = some (io t l)) : (feed t it l xs).st 0 h := by cases t <;> exact ⟨_, e, rfl, rfl⟩
abbrev n1 (t1 : Bool) (h : Heap) (l1 : Addr) : Heap := h.push (io t1 l1)
abbrev n2 (t1 t2 : Bool) (h : Heap) (l1 l2 : Addr) : Heap := (n1 t1 h l1).push (io t2 l2)
abbrev n3 (t1 t2 : Bool) (h : Heap) (l1 l2 : Addr) : Heap := (n2 t1 t2 h l1 l2).push { cls := .type "tuple", data := .seq #[.ref h.objs.size, .ref (n1 t1 h l1).objs.size] }
abbrev n4 (t1 t2 : Bool) (h : Heap) (l1 l2 : Addr) : Heap := (n3 t1 t2 h l1 l2).push { cls := .type "tuple", data := .seq #[.none, .none] }
abbrev n5 (t1 t2 : Bool) (h : Heap) (l1 l2 : Addr) : Heap := (n4 t1 t2 h l1 l2).push { cls := .type "zip", data := .fields #[.none, .bool false, .bool false, .ref (n2 t1 t2 h l1 l2).objs.size, .ref (n3 t1 t2 h l1 l2).objs.size] }
theorem new_tf (l1 l2 : Addr) (xs ys : Array Value) : Meets (Builtin.«zip.__new__» ⟨[.type "zip", .ref l1, .ref l2], []⟩) (fun _ R s => s.heap.IsTuple l1 xs ∧ s.heap.IsList l2 ys ∧ R (.ok (.ret (.ref (n4 true false s.heap l1 l2).objs.size))) { s with heap := n5 true false s.heap l1 l2 }) :=
  .of_wp fun prog w A R s h => by
    obtain ⟨hp, g, d, tk, os⟩ := s; obtain ⟨a1, a2, h⟩ := h; have hsub := sub_zip
    have b1 : (Shared.heap ⟨hp, g, d, tk, os⟩).IsTuple l1 xs := a1
    have b2 : (Shared.heap ⟨hp.push (io true l1), g, d, tk, os⟩).IsList l2 ys := Heap.IsList.push a2 _
    wp_walk using wpAny_pyIter_tuple b1, wpAny_pyIter_list b2
    exact ⟨_, rfl, h⟩
theorem new_ft (l1 l2 : Addr) (xs ys : Array Value) : Meets (Builtin.«zip.__new__» ⟨[.type "zip", .ref l1, .ref l2], []⟩) (fun _ R s => s.heap.IsList l1 xs ∧ s.heap.IsTuple l2 ys ∧ R (.ok (.ret (.ref (n4 false true s.heap l1 l2).objs.size))) { s with heap := n5 false true s.heap l1 l2 }) :=
  .of_wp fun prog w A R s h => by
    obtain ⟨hp, g, d, tk, os⟩ := s; obtain ⟨a1, a2, h⟩ := h; have hsub := sub_zip
    have b1 : (Shared.heap ⟨hp, g, d, tk, os⟩).IsList l1 xs := a1
    have b2 : (Shared.heap ⟨hp.push (io false l1), g, d, tk, os⟩).IsTuple l2 ys := Heap.IsTuple.push a2 _
    wp_walk using wpAny_pyIter_list b1, wpAny_pyIter_tuple b2
    exact ⟨_, rfl, h⟩
theorem new_any (t1 t2 : Bool) (l1 l2 : Addr) (xs ys : Array Value) : Meets (Builtin.«zip.__new__» ⟨[.type "zip", .ref l1, .ref l2], []⟩) (fun _ R s => Stand t1 s.heap l1 xs ∧ Stand t2 s.heap l2 ys ∧ R (.ok (.ret (.ref (n4 t1 t2 s.heap l1 l2).objs.size))) { s with heap := n5 t1 t2 s.heap l1 l2 }) := by
  cases t1 <;> cases t2
  · exact meets_zip_new l1 l2 xs ys
  · exact new_ft l1 l2 xs ys
  · exact new_tf l1 l2 xs ys
  · exact RZ.meets_zipT_new l1 l2 xs ys
section
variable {p : Program} {w : World} {A : Around} {E : Value → Shared → Prop} {s : Shared} {M N : Feed} {z TI TO : Addr} {i j : Nat} {a b : Value}
theorem zip_new {t1 t2 : Bool} {l1 l2 : Addr} {xs ys : Array Value} {Q : Value → Shared → Prop} (h1 : Stand t1 s.heap l1 xs) (h2 : Stand t2 s.heap l2 ys)
    (h : ∀ h', Stands (feed t1 s.heap.objs.size l1 xs) (feed t2 (s.heap.objs.size + 1) l2 ys) (s.heap.objs.size + 4) (s.heap.objs.size + 2) (s.heap.objs.size + 3) 0 0 h' → (∀ c o, s.heap.get? c = some o → h'.get? c = some o) → Q (.ref (s.heap.objs.size + 4)) { s with heap := h' }) :
    wpAny (model p w) A (call (.type "zip") [.ref l1, .ref l2]) Q E s := by
  refine callType_new F.called_zip (by decide) (F.typeCall_zip_2 _ _) (F.newCall_zip_2 _ _) (fun obj => F.args_object_init_3 obj _ _) F.entry_zip_new (new_any t1 t2 l1 l2 xs ys) ⟨h1, h2, ?_⟩
  have c1 : (n1 t1 s.heap l1).objs.size = s.heap.objs.size + 1 := Heap.size_push ..
  have c2 : (n2 t1 t2 s.heap l1 l2).objs.size = s.heap.objs.size + 2 := by rw [Heap.size_push, c1]
  have c3 : (n3 t1 t2 s.heap l1 l2).objs.size = s.heap.objs.size + 3 := by rw [Heap.size_push, c2]
  have c4 : (n4 t1 t2 s.heap l1 l2).objs.size = s.heap.objs.size + 4 := by rw [Heap.size_push, c3]
  have e5 : (n5 t1 t2 s.heap l1 l2).get? (n4 t1 t2 s.heap l1 l2).objs.size = some _ := Heap.get?_push_size _ rfl
  have e4 : (n5 t1 t2 s.heap l1 l2).get? (n3 t1 t2 s.heap l1 l2).objs.size = some _ := Heap.get?_push_of_some _ (Heap.get?_push_size _ rfl)
  have e3 : (n5 t1 t2 s.heap l1 l2).get? (n2 t1 t2 s.heap l1 l2).objs.size = some _ := Heap.get?_push_of_some _ (Heap.get?_push_of_some _ (Heap.get?_push_size _ rfl))
  have e2 : (n5 t1 t2 s.heap l1 l2).get? (n1 t1 s.heap l1).objs.size = some _ := Heap.get?_push_of_some _ (Heap.get?_push_of_some _ (Heap.get?_push_of_some _ (Heap.get?_push_size _ rfl)))
  have e1 : (n5 t1 t2 s.heap l1 l2).get? s.heap.objs.size = some _ := Heap.get?_push_of_some _ (Heap.get?_push_of_some _ (Heap.get?_push_of_some _ (Heap.get?_push_of_some _ (Heap.get?_push_size _ rfl))))
  show _ ∧ _
  rw [c2, c3, c4] at e5; rw [c1, c2] at e3; rw [c3] at e4; rw [c1] at e2; rw [c4]
  refine ⟨⟨_, e5, rfl⟩, h _ ⟨e5, by rw [feed_it, feed_it]; exact e3, ⟨_, _, e4⟩, feed_new e1, feed_new e2⟩ fun c o x => ?_⟩
  exact Heap.get?_push_of_some _ (Heap.get?_push_of_some _ (Heap.get?_push_of_some _ (Heap.get?_push_of_some _ (Heap.get?_push_of_some _ x))))
theorem turn_item {x y : Value} {Q : Option Value → Shared → Prop} (D : ZipApart z TI TO M.it N.it M.l N.l) (st : Stands M N z TI TO i j s.heap) (sf : M.src s.heap) (sg : N.src s.heap) (hx : M.xs[i]? = some x) (hy : N.xs[j]? = some y)
    (hQ : ∀ h', IsZip h' z TI TO (rawInt s.heap.objs.size) → IsPair h' TO x y → M.st (i + 1) h' → N.st (j + 1) h' → IsPair h' s.heap.objs.size x y → h'.objs.size = s.heap.objs.size + 1 →
      (∀ c o, c ≠ z → c ≠ TO → c ≠ M.it → c ≠ N.it → s.heap.get? c = some o → h'.get? c = some o) → Q (some (.ref s.heap.objs.size)) { s with heap := h' }) : wpAny (model p w) A (pyNext (.ref z)) Q E s := by
  have ty : s.TypeIs (.ref z) "zip" := ⟨_, st.z, rfl⟩
  unfold pyNext
  refine wpAny_bind (wpAny_attempt (wpAny_callSpecial?_slot (name := Str.ofString "__next__") ty F.slot_zip_next (wpAny_call_entry F.slot_zip_next ty F.entry_zip_next ?_ (F.args_zip_next_1 _))))
  exact next_item D st sf sg hx hy fun h' a1 a2 a3 a4 a5 a6 a7 => wpAny_pure (hQ h' a1 a2 a3 a4 a5 a6 a7)
theorem turn_end {Q : Option Value → Shared → Prop} (hh : A.handled = none) (D : ZipApart z TI TO M.it N.it M.l N.l) (st : Stands M N z TI TO i j s.heap) (sf : M.src s.heap) (sg : N.src s.heap) (hend : M.xs[i]? = none ∨ N.xs[j]? = none)
    (hQ : ∀ h', (∀ c o, c ≠ z → c ≠ TO → c ≠ M.it → c ≠ N.it → s.heap.get? c = some o → h'.get? c = some o) → Q none { s with heap := h' }) : wpAny (model p w) A (pyNext (.ref z)) Q E s := by
  have ty : s.TypeIs (.ref z) "zip" := ⟨_, st.z, rfl⟩
  unfold pyNext
  refine wpAny_bind (wpAny_attempt (wpAny_callSpecial?_slot (name := Str.ofString "__next__") ty F.slot_zip_next (wpAny_call_entry F.slot_zip_next ty F.entry_zip_next (next_end hh D st sf sg hend fun h' e k he => ?_) (F.args_zip_next_1 _))))
  obtain ⟨o, h1, h2⟩ := he
  exact wpAny_bind (wpAny_isInstance (T := "StopIteration") (b := true) ⟨o, h1, h2⟩ isSubtype_stop (wpAny_pure (hQ _ k)))
end
end ZX

set_option Elab.async false
set_option linter.all false
set_option maxRecDepth 100000
set_option maxHeartbeats 4000000
/-! comprehensions over zip -/
namespace DL
open PySem PySem.Spec PyProof.Rows L2 ZX
/-- t: a tuple, else a list -/
def SqB (K : PySem.W.Frag) : Bool → Hp → Addr → List V → Prop
  | true => fun H a xs => SqT K H a xs
  | false => fun H a xs => SqL K H a xs
theorem SqB.stand {X : Cx} {pins : List (Addr × Obj)} {σ : L2.St} {H : Hp} {s : Shared} {t : Bool} {a : Addr} {xs : List V} (I : Inv X pins σ H s) (h : SqB X.K t H a xs) : ∃ its : List Value, Vals xs its ∧ Stand t s.heap a its.toArray := by
  cases t with
  | true =>
    obtain ⟨its, rv, q, _⟩ := I.tuple h
    exact ⟨its, rv, q⟩
  | false =>
    obtain ⟨its, rv, q, _⟩ := I.list h
    exact ⟨its, rv, q.isList⟩
theorem SqB.inj {X : Cx} {pins : List (Addr × Obj)} {σ : L2.St} {H : Hp} {s : Shared} {t : Bool} {a : Addr} {xs ys : List V} (I : Inv X pins σ H s) (h : SqB X.K t H a xs) (h' : SqB X.K t H a ys) : xs = ys := by
  cases t with
  | true => exact I.tuple_inj h h'
  | false => exact I.list_inj h h'
theorem stand_lt {t : Bool} {h : Heap} {a : Addr} {xs : Array Value} (e : Stand t h a xs) : a < h.objs.size := by
  cases t <;> obtain ⟨o, e, _⟩ := e <;> exact Heap.lt_size e
/-- the two sequences as they stand at each turn, the items in new pairs -/
def Itm (K : PySem.W.Frag) (t u : Bool) (a b : Addr) : It where
  go := fun i H => ∃ (xs ys : List V) (x y : V), SqB K t H a xs ∧ SqB K u H b ys ∧ xs[i]? = some x ∧ ys[i]? = some y
  yld := fun i H v H' => ∃ T x y, v = .ref T ∧ H T = none ∧ H' = upd H T (.tup [x, y]) ∧ (∀ xs, SqB K t H a xs → xs[i]? = some x) ∧ ∀ ys, SqB K u H b ys → ys[i]? = some y
  stop := fun i H => ∃ xs ys : List V, SqB K t H a xs ∧ SqB K u H b ys ∧ (xs.length ≤ i ∨ ys.length ≤ i)
/-- the iterators go through a, b, whatever these hold -/
def Goes (t u : Bool) (i1 i2 a b z TI TO : Addr) (i : Nat) (h : Heap) : Prop := Stands (feed t i1 a #[]) (feed u i2 b #[]) z TI TO i i h
theorem feed_st {t : Bool} {it l : Addr} {xs ys : Array Value} {k : Nat} {h : Heap} : (feed t it l xs).st k h ↔ (feed t it l ys).st k h := by cases t <;> exact Iff.rfl
theorem stands_of {t u : Bool} {i1 i2 a b z TI TO : Addr} {i : Nat} {h : Heap} {xs ys xs' ys' : Array Value} (s : Stands (feed t i1 a xs) (feed u i2 b ys) z TI TO i i h) : Stands (feed t i1 a xs') (feed u i2 b ys') z TI TO i i h :=
  ⟨s.z, by have q := s.ti; rw [feed_it, feed_it] at q ⊢; exact q, s.to, feed_st.mp s.f, feed_st.mp s.g⟩
theorem apart_of {t u : Bool} {i1 i2 a b z TI TO : Addr} {xs ys : Array Value} (D : ZipApart z TI TO i1 i2 a b) : ZipApart z TI TO (feed t i1 a xs).it (feed u i2 b ys).it (feed t i1 a xs).l (feed u i2 b ys).l := by
  rw [feed_it, feed_it, feed_l, feed_l]
  exact D
theorem turn_m {P : Program} {w : World} {K : PySem.W.Frag} {elts : List Expr} {kk : Nat} {tpos : Pos} {t u : Bool} {a b z TI TO i1 i2 : Addr} (D : ZipApart z TI TO i1 i2 a b) : Turn P w K (.Tuple elts kk tpos) (Itm K t u a b) [z, TI, TO, i1, i2] z (Goes t u i1 i2 a b z TI TO) where
  mem := by simp
  obj := fun i h st c hc => by
    obtain ⟨x, y, hTO⟩ := st.to
    have e' : c = z ∨ c = TI ∨ c = TO ∨ c = i1 ∨ c = i2 := by simpa using hc
    rcases e' with q | q | q | q | q
    · subst q; exact ⟨_, st.z, fun v q => nomatch q⟩
    · subst q; exact ⟨_, st.ti, fun v q => nomatch q⟩
    · subst q; exact ⟨_, hTO, fun v q => nomatch q⟩
    · subst q; have r := (feed t c a #[]).obj st.f; rw [feed_it] at r; exact r
    · subst q; have r := (feed u c b #[]).obj st.g; rw [feed_it] at r; exact r
  keep := fun i h h' st k => by
    obtain ⟨x, y, hTO⟩ := st.to
    refine ⟨k z (by simp) _ st.z, k TI (by simp) _ st.ti, ⟨x, y, k TO (by simp) _ hTO⟩, (feed t i1 a #[]).same st.f fun o q => ?_, (feed u i2 b #[]).same st.g fun o q => ?_⟩
    · rw [feed_it] at q ⊢; exact k i1 (by simp) o q
    · rw [feed_it] at q ⊢; exact k i2 (by simp) o q
  item := by
    intro X hP hw hK hc i pins s σ H E I hf st hg
    subst hP hw hK
    obtain ⟨xs, ys, x, y, qx, qy, hx, hy⟩ := hg
    obtain ⟨m1, r1, p1⟩ := qx.stand I
    obtain ⟨m2, r2, p2⟩ := qy.stand I
    obtain ⟨v1, e1, rv1⟩ := r1.get hx
    obtain ⟨v2, e2, rv2⟩ := r2.get hy
    have st' : Stands (feed t i1 a m1.toArray) (feed u i2 b m2.toArray) z TI TO i i s.heap := stands_of st
    have zlt : z < s.heap.objs.size := Heap.lt_size st.z
    refine turn_item (apart_of D) st' (feed_src p1) (feed_src p2) (x := v1) (y := v2) (by rw [feed_xs]; simpa using e1) (by rw [feed_xs]; simpa using e2) fun h' z' t' f' g' T' size' keep => ?_
    rw [feed_it, feed_it] at keep
    refine ⟨_, rfl, wpAny_letOwnedTupleGo_zip (s := { s with heap := h' }) z' fun h'' z'' sb => ?_⟩
    have T2 : h''.get? s.heap.objs.size = some { cls := .type "tuple", data := .seq #[v1, v2] } := (sb.2 _ (Nat.ne_of_gt zlt)).trans T'
    have new : ObjOk X.prog X.w (upd H s.heap.objs.size (.tup [x, y])) h'' s.heap.objs.size (.tup [x, y]) := ⟨by show 2 ≤ sizeLine; decide, [v1, v2], .cons rv1 (.cons rv2 .nil), ⟨_, T2, rfl, _, rfl⟩⟩
    have far : ∀ c, c ∉ [z, TI, TO, i1, i2] → c ≠ z ∧ c ≠ TO ∧ c ≠ i1 ∧ c ≠ i2 := fun c hb => ⟨fun q => hb (by simp [q]), fun q => hb (by simp [q]), fun q => hb (by simp [q]), fun q => hb (by simp [q])⟩
    have I1 : Inv X pins σ (upd H s.heap.objs.size (.tup [x, y])) { s with heap := h'' } :=
      I.turnedNew (t' := s.toks) (ch := [z, TI, TO, i1, i2]) (fun c o hb q => let ⟨q1, q2, q3, q4⟩ := far c hb; (sb.2 c q1).trans (keep c o q1 q2 q3 q4 q)) hf (Nat.le_refl _) new
    refine ⟨.ref s.heap.objs.size, _, I1, rfl, ⟨_, x, y, rfl, I.hok.fresh (Nat.le_refl _), rfl, fun l hl => by rw [hl.inj I qx]; exact hx, fun l hl => by rw [hl.inj I qy]; exact hy⟩, ⟨z'', ?_, ⟨v1, v2, ?_⟩, ?_, ?_⟩, fun c hcm => ?_⟩
    · have e := keep _ _ D.TIz D.TITO D.TIi1 D.TIi2 st.ti
      exact (sb.2 _ D.TIz).trans e
    · exact (sb.2 _ D.TOz).trans t'
    · refine feed_st.mp ((feed t i1 a m1.toArray).same f' fun o q => ?_)
      rw [feed_it] at q ⊢
      exact (sb.2 _ D.i1z).trans q
    · refine feed_st.mp ((feed u i2 b m2.toArray).same g' fun o q => ?_)
      rw [feed_it] at q ⊢
      exact (sb.2 _ D.i2z).trans q
    · have lt : c < s.heap.objs.size := by
        have e' : c = z ∨ c = TI ∨ c = TO ∨ c = i1 ∨ c = i2 := by simpa using hcm
        rcases e' with q | q | q | q | q
        · rw [q]; exact zlt
        · rw [q]; exact Heap.lt_size st.ti
        · obtain ⟨_, _, e⟩ := st.to; rw [q]; exact Heap.lt_size e
        · obtain ⟨_, e, _⟩ := (feed t i1 a #[]).obj st.f; rw [feed_it] at e; rw [q]; exact Heap.lt_size e
        · obtain ⟨_, e, _⟩ := (feed u i2 b #[]).obj st.g; rw [feed_it] at e; rw [q]; exact Heap.lt_size e
      rw [upd_ne (Nat.ne_of_lt lt)]
      exact (hf c hcm).1
  done := by
    intro X hP hw hK hc i pins s σ H E I hf st hg
    subst hP hw hK
    obtain ⟨xs, ys, qx, qy, hend⟩ := hg
    obtain ⟨m1, r1, p1⟩ := qx.stand I
    obtain ⟨m2, r2, p2⟩ := qy.stand I
    have l1 := r1.length
    have l2 := r2.length
    have st' : Stands (feed t i1 a m1.toArray) (feed u i2 b m2.toArray) z TI TO i i s.heap := stands_of st
    refine turn_end (I.ok.hd hc) (apart_of D) st' (feed_src p1) (feed_src p2) ?_ fun h' keep => ?_
    · rw [feed_xs, feed_xs]
      rcases hend with q | q
      · exact .inl (by simp; omega)
      · exact .inr (by simp; omega)
    · rw [feed_it, feed_it] at keep
      exact ⟨rfl, I.turnedL (t' := s.toks) (ch := [z, TI, TO, i1, i2]) (fun c o hb q => keep c o (fun q' => hb (by simp [q'])) (fun q' => hb (by simp [q'])) (fun q' => hb (by simp [q'])) (fun q' => hb (by simp [q'])) q) hf⟩
  self := fun A i s Q E st h => wpAny_pyIter_zip st.z h
def iZm (K : PySem.W.Frag) (ta : TA) : TI := fun σ H R => ta σ H fun vs H1 => ∃ t u a b xs ys, vs = [.ref a, .ref b] ∧ SqB K t H1 a xs ∧ SqB K u H1 b ys ∧ R (Itm K t u a b) H1
theorem pi_zm {X : Cx} {e e2 : Expr} {ta : TA} {p pos tpos : Pos} {elts : List Expr} {kk : Nat} (hg : Gl X "zip") (hm : X.mg "zip" = none) (ha : PA X [e, e2] ta)
    (hs : starEach [e, e2] X.env = (false, eval e X.env) :: starEach [e2] X.env) (hpl : (backTo pos (starEach [e2] X.env)).any (·.1) = false) : PI X (.Tuple elts kk tpos) (.Call (.Name "zip" p) [e, e2] [] pos) (iZm X.K ta) := by
  refine ⟨fun pins s σ H R I h => Call_ (ld_blt I hg hm PyProof.Rows.boot_zip (PyProof.Rows.callWith_type1 (thn (ha.run pos pins s σ H _ I h) fun us s1 ⟨vs, H1, I1, rv, q1⟩ => ?_) hs hpl))⟩
  obtain ⟨t, u, a, b, xs, ys, rfl, qx, qy, q⟩ := q1
  obtain ⟨v1, v2, rfl, r1, r2⟩ := (show ∃ v1 v2, us = [v1, v2] ∧ RelV (.ref a) v1 ∧ RelV (.ref b) v2 from by
    cases rv with
    | cons r rr => cases rr with
      | cons r' rr => cases rr; exact ⟨_, _, rfl, r, r'⟩)
  cases r1
  cases r2
  obtain ⟨m1, w1, p1⟩ := qx.stand I1
  obtain ⟨m2, w2, p2⟩ := qy.stand I1
  refine zip_new p1 p2 fun h' st hk => wpAny_pyIter_zip st.z ?_
  have I2 : Inv X pins σ H1 { s1 with heap := h' } := I1.kept (t' := s1.toks) hk
  refine ⟨s1.heap.objs.size + 4, [s1.heap.objs.size + 4, s1.heap.objs.size + 2, s1.heap.objs.size + 3, s1.heap.objs.size, s1.heap.objs.size + 1], _, _, H1, rfl, I2, turn_m (PySem.W.ktu_apart s1.heap.objs.size a b (stand_lt p1) (stand_lt p2)), stands_of st, fun c hc => ?_, q⟩
  have le : s1.heap.objs.size ≤ c := by
    have e' : c = s1.heap.objs.size + 4 ∨ c = s1.heap.objs.size + 2 ∨ c = s1.heap.objs.size + 3 ∨ c = s1.heap.objs.size ∨ c = s1.heap.objs.size + 1 := by simpa using hc
    rcases e' with q | q | q | q | q <;> rw [q]
    · exact Nat.le_add_right _ _
    · exact Nat.le_add_right _ _
    · exact Nat.le_add_right _ _
    · exact Nat.le_refl _
    · exact Nat.le_add_right _ _
  exact I1.fpOk le (I1.hok.fresh le)

/-- a list or a tuple of these -/
def SeqD (d : D) (l : List D) : Prop := d = .lst l ∨ d = .tup l
theorem SeqD.at {K : PySem.W.Frag} {I : Hp} {d : D} {l : List D} {v : V} (s : SeqD d l) (n : Dn K I d v) : ∃ t a xs, v = .ref a ∧ Dns K I l xs ∧ ∀ H, Ex I H → SqB K t H a xs := by
  rcases s with rfl | rfl
  · cases n with
    | lst h m => exact ⟨false, _, _, rfl, m, fun H e => SqL.of (e _ _ h)⟩
  · cases n with
    | tup h m => exact ⟨true, _, _, rfl, m, fun H e => SqT.of (e _ _ h)⟩
section
variable {X : Cx} {B : Hp} {S : En} {pos : Pos} {e e2 : Expr}
/-- [elt for g in zip(e, e2)] -/
theorem fd_lcZ {elt : Expr} {elts : List Expr} {kk : Nat} {tpos p1 pos1 : Pos} {scope : Scope} {own : List (Str × Nat)} {g : TG} {Q : List D → Prop} (l l' : List D) (J : Nat → List D → Prop) (S' : D → D → En) (hc : X.calm = true) (hN : X.N.Nodup) (hm : X.mg "zip" = none) (ok : BlkOk X.N X.env.scope scope own)
    (hg : ∀ (s : Shared) (H : Hp) (C : Addr) (cl : List (Str × Addr)) (fp : List Addr), PG (X.blk s H scope (compEnvC scope cl C X.env) fp) (.Tuple elts kk tpos) g)
    (h : AD X B S [e, e2] fun as => ∃ d d', as = [.val d, .val d'] ∧ SeqD d l ∧ SeqD d' l' ∧ l.length ≤ 50000 ∧ J 0 []) (hp : ∀ d d', Pat X.K g (own.map (·.2)) S (.tup [d, d']) (S' d d'))
    (he : ∀ (i : Nat) d d' acc, l[i]? = some d → l'[i]? = some d' → acc.length = i → J i acc → ∀ (s : Shared) (H0 : Hp) (C : Addr) (cl : List (Str × Addr)) (fp : List Addr), ED (X.blk s H0 scope (compEnvC scope cl C X.env) fp) B (S' d d') elt fun y => J (i + 1) (acc ++ [y]))
    (hd : ∀ acc i, acc.length = i → J i acc → i ≤ l.length → i ≤ l'.length → (l.length ≤ i ∨ l'.length ≤ i) → Q acc) (hgl : Gl X "zip" := by rfl)
    (hst : starEach [e, e2] X.env = (false, eval e X.env) :: starEach [e2] X.env := by rfl) (hpl : (backTo pos1 (starEach [e2] X.env)).any (·.1) = false := by rfl)
    (hs : ∀ x, foldedSetIterable (.Call (.Name "zip" p1) [e, e2] [] pos1) X.env x = pure x := by intro _; rfl) : FD X B S (.ListComp elt [⟨.Tuple elts kk tpos, .Call (.Name "zip" p1) [e, e2] [] pos1, [], 0⟩] scope pos) Q := fun σ W H r R k => by
  refine PE.w (pe_lc (te := WEb X scope elt) hc hN (pi_zm hgl hm wa_pa hst hpl) ok hg (fun _ _ _ _ _ => pts_nil) web_pe hs) ?_
  refine h σ W H r _ fun as vs W1 H1 s1 ok1 n1 q1 => ?_
  obtain ⟨d, d', rfl, sd, sd', hz, j0⟩ := q1
  obtain ⟨v, v', rfl, m, m'⟩ := two_args n1
  obtain ⟨t, a, xs, rfl, w, hx⟩ := sd.at m
  obtain ⟨u, b, ys, rfl, w', hy⟩ := sd'.at m'
  refine ⟨t, u, a, b, xs, ys, rfl, hx _ ok1.ex, hy _ ok1.ex, fun p hp0 => ?_⟩
  have r1 := r.step s1 ok1
  refine ⟨fun i n H' => n = xs.length - i ∧ i ≤ xs.length ∧ i ≤ ys.length ∧ ∃ acc W', Mid X.K (gOf X) W1 H1 p acc W' H' ∧ acc.length = i ∧ J i acc, ⟨xs.length, rfl, Nat.zero_le _, Nat.zero_le _, [], W1, ⟨Stp.own hp0, ok1.own hp0, ok1.notP hp0, ok1.free hp0, [], upd_same, .nil⟩, rfl, j0⟩, ?_⟩
  rintro i n H' ⟨rfl, lx, ly, acc, W', mm, hl, j⟩
  have qx := hx H' fun c o z => mm.ok.ex _ _ (mm.st.I _ _ z)
  have qy := hy H' fun c o z => mm.ok.ex _ _ (mm.st.I _ _ z)
  by_cases c : i < xs.length ∧ i < ys.length
  · have ex : xs[i]? = some xs[i] := List.getElem?_eq_getElem c.1
    have ey : ys[i]? = some ys[i] := List.getElem?_eq_getElem c.2
    refine .inr ⟨⟨xs, ys, _, _, qx, qy, ex, ey⟩, fun H' => ∃ acc W', Mid X.K (gOf X) W1 H1 p acc W' H' ∧ acc.length = i + 1 ∧ J (i + 1) acc, fun H2 z => ⟨xs.length - (i + 1), by omega, rfl, c.1, c.2, z⟩, ?_⟩
    rintro x H2 ⟨T, x1, y1, rfl, hT, rfl, f1, f2⟩
    have e1 := f1 xs qx
    have e2 := f2 ys qy
    obtain ⟨d1, hd1, nd1⟩ := w.get e1
    obtain ⟨d2, hd2, nd2⟩ := w'.get e2
    have sn := Stp.new (o := .tup [x1, y1]) mm.ok hT
    have okn := mm.ok.new (o := .tup [x1, y1]) hT
    have mn := mm.step sn okn
    have nt : Dn X.K (W'.new T (.tup [x1, y1])).I (.tup [d1, d2]) (.ref T) := .tup upd_same (.cons ((nd1.mono mm.st.I).mono sn.I) (.cons ((nd2.mono mm.st.I).mono sn.I) .nil))
    refine hp d1 d2 (gOf X) B σ _ _ _ ((r1.step mm.st mm.ok).step sn okn) nt _ fun σ2 e3 r3 => ⟨e3, ?_⟩
    show WEb X scope elt σ2 _ _
    intro s H0 C cl fp
    refine he i d1 d2 acc hd1 hd2 hl j s H0 C cl fp σ2 _ _ r3 _ fun y v W2 H3 s2 ok2 n2 q2 => ?_
    have li : i < l.length := by rw [w.length]; exact c.1
    obtain ⟨xs', g1, g3, m3⟩ := (mn.step s2 ok2).more hp0 n2 (by omega)
    exact ⟨xs', g1, g3, _, W2, m3, by simp [hl], q2⟩
  · refine .inl ⟨⟨xs, ys, qx, qy, by omega⟩, ?_⟩
    obtain ⟨zs, hH, ds⟩ := mm.h
    refine k acc p zs W' H' (s1.trans ok1 mm.st) mm.ok (s1.free ok1 hp0) mm.n mm.i hH ds (hd acc i hl j ?_ ?_ ?_)
    · rw [w.length]; exact lx
    · rw [w'.length]; exact ly
    · rw [w.length, w'.length]; omega
end
end DL

set_option Elab.async false
set_option linter.all false
set_option maxRecDepth 100000
set_option maxHeartbeats 4000000
/-! a list of lists that change -/
namespace DL
open PySem PySem.Spec PyProof.Rows L2
theorem ok_upd {g : List Code} {W : Wd} {H : Hp} {q : Addr} {o : HO} (ok : Ok g W H) (n : ¬ W.P q) (i : W.I q = none) : Ok g W (upd H q o) where
  gd := fun b hb => by
    obtain ⟨n1, n2⟩ := ok.gd b hb
    refine ⟨n1, ?_⟩
    by_cases z : b = q
    · subst z
      rw [upd_same]
      exact fun z => by cases z
    · rw [upd_ne z]
      exact n2
  ex := fun b u hb => by
    rw [upd_ne (fun y => by rw [y, i] at hb; cases hb)]
    exact ok.ex b u hb
  pot := fun b hb => by
    obtain ⟨nb, y2, w2, h2⟩ := ok.pot b hb
    have ne : b ≠ q := fun y => n (y ▸ hb)
    exact ⟨nb, y2, w2, by rw [upd_ne ne]; exact h2⟩
theorem stp_upd {W W0 : Wd} {B H : Hp} {q : Addr} {o : HO} (z : Stp W0 B W H) (hB : B q = none) : Stp W0 B W (upd H q o) :=
  ⟨z.I, z.P, fun b u hb hn => by rw [upd_ne (ne_of_none hb hB)]; exact z.keep b u hb hn, z.old, z.oldP⟩
theorem ixN_lt {n j : Nat} (hj : j < n) : ixN n (j : Int) = some j := by
  unfold ixN
  rw [if_pos (by omega), if_pos (by omega), Int.toNat_natCast]
/-- a new list at p of new lists at qs: each at one place alone -/
structure Nest (K : PySem.W.Frag) (B : Hp) (W : Wd) (H : Hp) (p : Addr) (qs : List Addr) (rows : List (List D)) : Prop where
  b : B p = none
  n : ¬ W.P p
  i : W.I p = none
  h : H p = some (.lst (qs.map V.ref))
  nd : (p :: qs).Nodup
  len : qs.length = rows.length
  row : ∀ (j : Nat) q l, qs[j]? = some q → rows[j]? = some l → B q = none ∧ ¬ W.P q ∧ W.I q = none ∧ ∃ xs, H q = some (.lst xs) ∧ Dns K W.I l xs
section
variable {K : PySem.W.Frag} {B : Hp} {W W1 : Wd} {H H1 : Hp} {p : Addr} {qs : List Addr} {rows : List (List D)}
theorem Nest.step (m : Nest K B W H p qs rows) (a : Stp W H W1 H1) : Nest K B W1 H1 p qs rows :=
  ⟨m.b, fun z => m.n (a.oldP p _ m.h z), a.old p _ m.h m.i, a.keep p _ m.h m.n, m.nd, m.len, fun j q l e1 e2 => by
    obtain ⟨b, n, i, xs, h, d⟩ := m.row j q l e1 e2
    exact ⟨b, fun z => n (a.oldP q _ h z), a.old q _ h i, xs, a.keep q _ h n, d.mono a.I⟩⟩
theorem Nest.ne (m : Nest K B W H p qs rows) {j : Nat} {q : Addr} (e : qs[j]? = some q) : p ≠ q := fun z => (List.nodup_cons.mp m.nd).1 (z ▸ List.mem_of_getElem? e)
theorem Nest.at (m : Nest K B W H p qs rows) {j : Nat} {l : List D} (e : rows[j]? = some l) : ∃ q, qs[j]? = some q := by
  have lt : j < rows.length := (List.getElem?_eq_some_iff.mp e).1
  exact ⟨_, List.getElem?_eq_getElem (by rw [m.len]; exact lt)⟩
/-- one of the lists changes -/
theorem Nest.put (m : Nest K B W H p qs rows) {j : Nat} {q : Addr} {l : List D} {xs : List V} (e : qs[j]? = some q) (e2 : rows[j]? = some l) (l' : List D) (d : Dns K W.I l' xs) : Nest K B W (upd H q (.lst xs)) p qs (rows.set j l') := by
  refine ⟨m.b, m.n, m.i, by rw [upd_ne (m.ne e)]; exact m.h, m.nd, by simpa using m.len, fun a c la e3 e4 => ?_⟩
  have lt : j < rows.length := (List.getElem?_eq_some_iff.mp e2).1
  have nd := (List.nodup_cons.mp m.nd).2
  by_cases z : j = a
  · subst z
    rw [List.getElem?_set_self lt] at e4
    cases e4
    rw [e] at e3
    cases e3
    obtain ⟨b, n, i, _⟩ := m.row j q l e e2
    exact ⟨b, n, i, xs, upd_same, d⟩
  · rw [List.getElem?_set_ne z] at e4
    obtain ⟨b, n, i, ys, h, d⟩ := m.row a c la e3 e4
    refine ⟨b, n, i, ys, ?_, d⟩
    have ne : c ≠ q := fun y => z (by
      subst y
      exact (List.getElem_inj (h₀ := (List.getElem?_eq_some_iff.mp e).1) (h₁ := (List.getElem?_eq_some_iff.mp e3).1) nd).mp (by
        rw [(List.getElem?_eq_some_iff.mp e).2, (List.getElem?_eq_some_iff.mp e3).2]))
    rw [upd_ne ne]
    exact h
end
def plainS : Option Sl → Bool
  | some (.own _) => false
  | some (.inst _ _ _ _) => false
  | _ => true
def PlainE (S : En) : Bool := S.all plainS
theorem PlainE.at {S : En} (h : PlainE S = true) {i : Nat} {s : Sl} (e : S[i]? = some (some s)) : (∃ d, s = .val d) ∨ s = .pot := by
  have := List.all_eq_true.mp h _ (List.mem_of_getElem? e)
  cases s with
  | val d => exact .inl ⟨d, rfl⟩
  | pot => exact .inr rfl
  | own l => cases this
  | inst _ _ _ _ => cases this
theorem plain_set {S : En} {i : Nat} {d : D} (h : PlainE S = true) : PlainE (S.set i (some (.val d))) = true := List.all_eq_true.mpr fun s hs => by
  rcases List.mem_or_eq_of_mem_set hs with z | z
  · exact List.all_eq_true.mp h s z
  · rw [z]; rfl
theorem Rep.base {K : PySem.W.Frag} {g : List Code} {B B' : Hp} {S : En} {σ : L2.St} {W : Wd} {H H' : Hp} (r : Rep K g B S σ W H) (h : PlainE S = true) (ok : Ok g W H') (gb : ∀ b, InG g b → B' b ≠ none) : Rep K g B' S σ W H' where
  ok := ok
  gb := gb
  len := r.len
  sl := fun i s e => by
    obtain ⟨v, e1, q⟩ := r.sl i s e
    refine ⟨v, e1, ?_⟩
    rcases PlainE.at h e with ⟨d, rfl⟩ | rfl
    · exact q
    · exact q
  dist := fun i j l m p n e1 _ _ => by
    rcases PlainE.at h e1 with ⟨d, z⟩ | z <;> cases z
structure NEnds where
  nx : En → List (List D) → Prop
  rt : D → Prop
structure NSub (K : PySem.W.Frag) (g : List Code) (B : Hp) (W0 : Wd) (I : Hp) (p : Addr) (qs : List Addr) (E : NEnds) (D' : Ends) : Prop where
  nx : ∀ S σ W H rows, Rep K g B S σ W H → PlainE S = true → Nest K B W H p qs rows → Stp W0 B W H → Ex I W.I → E.nx S rows → D'.nx σ H
  rt : ∀ d v W H, Ok g W H → Stp W0 B W H → Ex I W.I → Dn K W.I d v → E.rt d → D'.rt v H
theorem NSub.mono {K : PySem.W.Frag} {g : List Code} {B : Hp} {W0 : Wd} {I I' : Hp} {p : Addr} {qs : List Addr} {E : NEnds} {D' : Ends} (k : NSub K g B W0 I p qs E D') (e : Ex I I') : NSub K g B W0 I' p qs E D' :=
  ⟨fun S σ W H rows r pl m z x => k.nx S σ W H rows r pl m z (e.trans x), fun d v W H r z x => k.rt d v W H r z (e.trans x)⟩
section
variable (X : Cx) (B : Hp) (W0 : Wd) (p : Addr) (qs : List Addr) (S : En) (rows : List (List D))
def NED (e : Expr) (Q : D → Prop) : Prop := ∀ σ W H, Rep X.K (gOf X) B S σ W H → Nest X.K B W H p qs rows → ∀ R, Cont X.K (gOf X) W H Q R → WE X e σ H R
def NGD (tg : Expr) (d : D) (Q : List (List D) → Prop) : Prop := ∀ σ W H v, Rep X.K (gOf X) B S σ W H → PlainE S = true → Nest X.K B W H p qs rows → Stp W0 B W H → Dn X.K W.I d v → ∀ R, (∀ rows' H', Rep X.K (gOf X) B S σ W H' → Nest X.K B W H' p qs rows' → Stp W0 B W H' → Q rows' → R σ H') → WG X tg v σ H R
def NSD (st : Stmt) (E : NEnds) : Prop := ∀ σ W H, Rep X.K (gOf X) B S σ W H → PlainE S = true → Nest X.K B W H p qs rows → Stp W0 B W H → ∀ D', NSub X.K (gOf X) B W0 W.I p qs E D' → WS X st D' σ H
def NSDs (sts : List Stmt) (E : NEnds) : Prop := ∀ σ W H, Rep X.K (gOf X) B S σ W H → PlainE S = true → Nest X.K B W H p qs rows → Stp W0 B W H → ∀ D', NSub X.K (gOf X) B W0 W.I p qs E D' → WSs X sts D' σ H
end
section
variable {X : Cx} {B : Hp} {W0 : Wd} {p : Addr} {qs : List Addr} {S : En} {rows : List (List D)} {st : Stmt} {sts : List Stmt} {E : NEnds} {pos : Pos} {e a b c : Expr} {Q : D → Prop}
theorem ned_of (h : ED X B S e Q) : NED X B p qs S rows e Q := fun σ W H r m R k => h σ W H r R k
theorem ned_bin {op : Operator} (h : NED X B p qs S rows a fun x => NED X B p qs S rows b fun y => OD X (binaryOp op) x y Q) : NED X B p qs S rows (.BinOp a op b pos) Q := fun σ W H r m R k => by
  refine PE.w (pe_op wo_op we_pe we_pe) ?_
  refine h σ W H r m _ fun d v W1 H1 s1 ok1 n1 q1 => ?_
  refine q1 σ W1 H1 (r.step s1 ok1) (m.step s1) _ fun d2 u W2 H2 s2 ok2 n2 q2 => ?_
  exact q2 v u W2 H2 ok2 (n1.mono s2.I) n2 R ((k.step s1 ok1).step s2 ok2)
theorem ned_tup2 {k0} (h : NED X B p qs S rows a fun x => NED X B p qs S rows b fun y => Q (.tup [x, y])) (h1 : starEach [a, b] X.env = (false, eval a X.env) :: starEach [b] X.env := by rfl) (h2 : starEach [b] X.env = (false, eval b X.env) :: starEach [] X.env := by rfl) : NED X B p qs S rows (.Tuple [a, b] k0 pos) Q := fun σ W H r m R k => by
  refine PE.w (pe_tup (pa_cons we_pe (pa_cons we_pe pa_nil h2) h1)) ?_
  refine h σ W H r m _ fun d v W1 H1 s1 ok1 n1 q1 => ?_
  refine q1 σ W1 H1 (r.step s1 ok1) (m.step s1) _ fun d2 u W2 H2 s2 ok2 n2 q2 => ?_
  refine ⟨by show 2 ≤ sizeLine; decide, fun t ht => ?_⟩
  have st := Stp.new (o := .tup [v, u]) ok2 ht
  exact ((k.step s1 ok1).step s2 ok2) (.tup [d, d2]) (.ref t) _ _ st (ok2.new ht) (.tup (show upd W2.I t _ t = _ from upd_same) (.cons ((n1.mono s2.I).mono st.I) (.cons (n2.mono st.I) .nil))) q2
/-- x[i][j], all names -/
theorem ned_at {x y z : Str} {px py pz pos1 : Pos} (ix iy iz : Nat) {i j : Nat} {l : List D} {d : D} (hx : X.N[ix]? = some x) (hy : X.N[iy]? = some y) (hz : X.N[iz]? = some z) (sx : S[ix]? = some (some (.val (.cls p)))) (sy : S[iy]? = some (some (.val (.int i)))) (sz : S[iz]? = some (some (.val (.int j))))
    (hi : rows[i]? = some l) (hj : l[j]? = some d) (q : Q d) (vx : Vis X.env.scope x := by first | exact Or.inl rfl | exact Or.inr (Or.inl rfl)) (vy : Vis X.env.scope y := by first | exact Or.inl rfl | exact Or.inr (Or.inl rfl)) (vz : Vis X.env.scope z := by first | exact Or.inl rfl | exact Or.inr (Or.inl rfl))
    (x1 : (x == ("__debug__" : Str)) = false := by decide) (x2 : (x == ("__classdict__" : Str)) = false := by decide) (y1 : (y == ("__debug__" : Str)) = false := by decide) (y2 : (y == ("__classdict__" : Str)) = false := by decide) (z1 : (z == ("__debug__" : Str)) = false := by decide) (z2 : (z == ("__classdict__" : Str)) = false := by decide) :
    NED X B p qs S rows (.Subscript (.Subscript (.Name x px) (.Name y py) pos1) (.Name z pz) pos) Q := fun σ W H r m R k => by
  refine PE.w (pe_ix ix_list (pe_ix ix_list (pe_var hx vx x1 x2) (pe_var hy vy y1 y2) (fun _ _ => rfl)) (pe_var hz vz z1 z2) (fun _ _ => rfl)) ?_
  obtain ⟨v1, e1, w1⟩ := r.sl ix _ sx
  obtain ⟨v2, e2, w2⟩ := r.sl iy _ sy
  obtain ⟨v3, e3, w3⟩ := r.sl iz _ sz
  cases (show Dn X.K W.I _ _ from w1)
  cases (show Dn X.K W.I _ _ from w2)
  cases (show Dn X.K W.I _ _ from w3)
  obtain ⟨qa, eq⟩ := m.at hi
  obtain ⟨_, _, _, xs, hq, dn⟩ := m.row i qa l eq hi
  obtain ⟨v, ev, nv⟩ := dn.get' hj
  exact ⟨_, e1, _, e2, p, _, i, .ref qa, rfl, rfl, SqL.of m.h, atI_nat (by rw [List.getElem?_map, eq]; rfl), _, e3, qa, xs, j, v, rfl, rfl, SqL.of hq, atI_nat ev, k.now r.ok nv q⟩
/-- x[i][j] = .. -/
theorem ngd_at {x y z : Str} {px py pz pos1 : Pos} {d d0 : D} {Q : List (List D) → Prop} (ix iy iz : Nat) {i j : Nat} {l : List D} (hx : X.N[ix]? = some x) (hy : X.N[iy]? = some y) (hz : X.N[iz]? = some z) (sx : S[ix]? = some (some (.val (.cls p)))) (sy : S[iy]? = some (some (.val (.int i)))) (sz : S[iz]? = some (some (.val (.int j))))
    (hi : rows[i]? = some l) (hj : j < l.length) (q : Q (rows.set i (l.set j d))) (vx : Vis X.env.scope x := by first | exact Or.inl rfl | exact Or.inr (Or.inl rfl)) (vy : Vis X.env.scope y := by first | exact Or.inl rfl | exact Or.inr (Or.inl rfl)) (vz : Vis X.env.scope z := by first | exact Or.inl rfl | exact Or.inr (Or.inl rfl))
    (x1 : (x == ("__debug__" : Str)) = false := by decide) (x2 : (x == ("__classdict__" : Str)) = false := by decide) (y1 : (y == ("__debug__" : Str)) = false := by decide) (y2 : (y == ("__classdict__" : Str)) = false := by decide) (z1 : (z == ("__debug__" : Str)) = false := by decide) (z2 : (z == ("__classdict__" : Str)) = false := by decide)
    (ha : ∀ v, assign (.Subscript (.Subscript (.Name x px) (.Name y py) pos1) (.Name z pz) pos) X.env v = (do
      let ov ← holding [v] (eval (.Subscript (.Name x px) (.Name y py) pos1) X.env)
      let iv ← holding [v, ov] (eval (.Name z pz) X.env)
      standAt pos
      holding [v, ov, iv] (setItem ov iv v)
      release [v, ov, iv] []) := by intro _; rfl) :
    NGD X B W0 p qs S rows (.Subscript (.Subscript (.Name x px) (.Name y py) pos1) (.Name z pz) pos) d Q := fun σ W H v r pl m z0 nd R k => by
  obtain ⟨v1, e1, w1⟩ := r.sl ix _ sx
  obtain ⟨v2, e2, w2⟩ := r.sl iy _ sy
  obtain ⟨v3, e3, w3⟩ := r.sl iz _ sz
  cases (show Dn X.K W.I _ _ from w1)
  cases (show Dn X.K W.I _ _ from w2)
  cases (show Dn X.K W.I _ _ from w3)
  obtain ⟨qa, eq⟩ := m.at hi
  obtain ⟨nb, nP, nI, xs, hq, dn⟩ := m.row i qa l eq hi
  have ok' : Ok (gOf X) W (upd H qa (.lst (xs.set j v))) := ok_upd r.ok nP nI
  refine PG.w (pg_sub (pe_ix ix_list (pe_var hx vx x1 x2) (pe_var hy vy y1 y2) (fun _ _ => rfl)) (pe_var hz vz z1 z2) set_list ha) ⟨_, e1, _, e2, p, _, i, .ref qa, rfl, rfl, SqL.of m.h, atI_nat (by rw [List.getElem?_map, eq]; rfl), _, e3, qa, xs, j, j, rfl, rfl, hq, ixN_lt (by rw [← dn.length]; exact hj), ?_⟩
  exact k _ _ (r.base pl ok' r.gb) (m.put eq hi (l.set j d) (Dns.set nd j dn)) (stp_upd z0 nb) q
theorem ngd_tup2 {t1 t2 : Expr} {k0 : Nat} {d d' : D} {Q : List (List D) → Prop} (hc : X.calm = true) (h : NGD X B W0 p qs S rows t1 d fun rows' => NGD X B W0 p qs S rows' t2 d' Q) (h1 : (assignEach [t1, t2] X.env).map (·.2) = assign t1 X.env :: (assignEach [t2] X.env).map (·.2) := by rfl) (h2 : (assignEach [t2] X.env).map (·.2) = assign t2 X.env :: (assignEach [] X.env).map (·.2) := by rfl)
    (hn : (assignEach [t1, t2] X.env).length = 2 := by rfl) (hst : (assignEach [t1, t2] X.env).findIdx? (·.1) = none := by rfl) : NGD X B W0 p qs S rows (.Tuple [t1, t2] k0 pos) (.tup [d, d']) Q := fun σ W H v r pl m z nd R k => by
  cases nd with
  | tup hp w =>
    cases w with
    | cons w1 w => cases w with
      | cons w2 w =>
        cases w
        refine PG.w (pg_tup hc (pgs_cons wg_pg (pgs_cons wg_pg pgs_nil h2) h1) hn hst) ⟨_, _, rfl, SqT.of (r.ok.ex _ _ hp), rfl, _, _, rfl, ?_⟩
        refine h σ W H _ r pl m z w1 _ fun rows' H' r' m' z' q' => ⟨_, _, rfl, ?_⟩
        exact q' σ W H' _ r' pl m' z' w2 _ fun rows2 H2 r2 m2 z2 q2 => ⟨rfl, k rows2 H2 r2 m2 z2 q2⟩
theorem nsd_asg {tg : Expr} (h : NED X B p qs S rows e fun d => NGD X B W0 p qs S rows tg d (E.nx S)) (hs : swapsWithSole [tg] e pos.line X.env = pure false := by rfl) (hw : swappedStores [tg] e X.env = pure none := by rfl)
    (h1 : (assignEach [tg] X.env).map (·.2) = [assign tg X.env] := by rfl) : NSD X B W0 p qs S rows (.Assign [tg] e pos) E := fun σ W H r pl m z D' k =>
  PS.w (ps_asg we_pe wg_pg hs hw h1) (h σ W H r m _ fun d v W1 H1 s1 ok1 n1 q1 => q1 σ W1 H1 v (r.step s1 ok1) pl (m.step s1) (z.trans r.ok s1) n1 _ fun rows' H2 r2 m2 z2 q2 => k.nx S σ W1 H2 rows' r2 pl m2 z2 s1.I q2)
/-- a statement that does not touch these lists -/
theorem nsd_of (h : ∀ B W0, SD X B W0 S st { nx := fun S' => PlainE S' = true ∧ E.nx S' rows, rt := E.rt }) : NSD X B W0 p qs S rows st E := fun σ W H r pl m z D' k => by
  refine h H W σ W H (r.base pl r.ok fun b hb => (r.ok.gd b hb).2) Stp.refl D' ⟨fun S' σ' W' H' r' st x q => ?_, fun d v W' H' ok' st x n q => k.rt d v W' H' ok' (z.trans r.ok st) x n q, fun _ _ _ _ _ _ _ q => q.elim, fun _ _ _ _ _ _ _ q => q.elim⟩
  exact k.nx S' σ' W' H' rows (r'.base q.1 r'.ok r.gb) q.1 (m.step st) (z.trans r.ok st) x q.2
theorem nsds_of (h : ∀ B W0, SDs X B W0 S sts { nx := fun S' => PlainE S' = true ∧ E.nx S' rows, rt := E.rt }) : NSDs X B W0 p qs S rows sts E := fun σ W H r pl m z D' k => by
  refine h H W σ W H (r.base pl r.ok fun b hb => (r.ok.gd b hb).2) Stp.refl D' ⟨fun S' σ' W' H' r' st x q => ?_, fun d v W' H' ok' st x n q => k.rt d v W' H' ok' (z.trans r.ok st) x n q, fun _ _ _ _ _ _ _ q => q.elim, fun _ _ _ _ _ _ _ q => q.elim⟩
  exact k.nx S' σ' W' H' rows (r'.base q.1 r'.ok r.gb) q.1 (m.step st) (z.trans r.ok st) x q.2
theorem nsds_nil (q : E.nx S rows) : NSDs X B W0 p qs S rows [] E := fun σ W H r pl m z D' k => PSs.w pss_nil (k.nx S σ W H rows r pl m z (Ex.refl _) q)
theorem nsds_cons (h : NSD X B W0 p qs S rows st { nx := fun S' rows' => NSDs X B W0 p qs S' rows' sts E, rt := E.rt }) : NSDs X B W0 p qs S rows (st :: sts) E := fun σ W H r pl m z D' k => by
  refine PSs.w (pss_cons ws_ps wss_pss) ?_
  exact h σ W H r pl m z _ ⟨fun S' σ' W' H' rows' r' pl' m' z' x q => q σ' W' H' r' pl' m' z' D' (k.mono x), fun d v W' H' ok' z' x n q => k.rt d v W' H' ok' z' x n q⟩
theorem nsd_if {x y : List Stmt} (h : TD X B S c fun t => if t = true then NSDs X B W0 p qs S rows x E else NSDs X B W0 p qs S rows y E) : NSD X B W0 p qs S rows (.If c x y pos) E := fun σ W H r pl m z D' k => by
  refine PS.w (ps_if wt_pt wss_pss wss_pss) ?_
  refine h σ W H r _ fun t W1 H1 s1 ok1 q1 => ?_
  cases t with
  | true => exact iteT ((show NSDs X B W0 p qs S rows x E by simpa using q1) σ W1 H1 (r.step s1 ok1) pl (m.step s1) (z.trans r.ok s1) D' (k.mono s1.I))
  | false => exact iteF ((show NSDs X B W0 p qs S rows y E by simpa using q1) σ W1 H1 (r.step s1 ok1) pl (m.step s1) (z.trans r.ok s1) D' (k.mono s1.I))
theorem nsd_forR {x : Str} {px p1 pos1 : Pos} {n : Int} {body : List Stmt} (ix : Nat) (hN : X.N.Nodup) (hx : X.N[ix]? = some x) (hp : PassesOwn (model X.prog X.w) X.A X.env X.xe) (hm : X.mg "range" = none) (Inv : Nat → En → List (List D) → Prop)
    (h : AD X B S [e] fun as => as = [.val (.int n)] ∧ n < 2 ^ 62 ∧ -(2 ^ 62) ≤ n ∧ Inv 0 S rows)
    (hs : ∀ (i : Nat) S' rows', i < n.toNat → Inv i S' rows' → PlainE (S'.set ix (some (.val (.int i)))) = true ∧ NSDs X B W0 p qs (S'.set ix (some (.val (.int i)))) rows' body { nx := Inv (i + 1), rt := E.rt })
    (hd : ∀ S' rows', Inv n.toNat S' rows' → E.nx S' rows') (hl : Loc X.env.scope x := by first | exact Or.inl rfl | exact Or.inr rfl) (hff : X.fn x = true ∨ X.env.scope.names.lookup x = some .local := by first | exact .inl rfl | exact .inr rfl)
    (hg : Gl X "range" := by rfl) (hst : starEach [e] X.env = [(false, eval e X.env)] := by rfl) (hf : ∀ x, foldedSetIterable (.Call (.Name "range" p1) [e] [] pos1) X.env x = pure x := by intro _; rfl) (hc : X.calm = true) : NSD X B W0 p qs S rows (.For (.Name x px) (.Call (.Name "range" p1) [e] [] pos1) body [] pos) E := fun σ W H r pl m z D' k => by
  refine PS.w (ps_for hp hc (pi_range1 hg hm wa_pa hst) wg_pg wss_pss hf) ?_
  refine h σ W H r _ fun as vs W1 H1 s1 ok1 n1 q1 => ?_
  obtain ⟨rfl, hn, hn2, i0⟩ := q1
  obtain ⟨v, rfl, mm⟩ := one_arg n1
  cases mm
  refine ⟨n, rfl, hn2, hn, for_range (lo := 0) (n := n.toNat) (fun i σ' H' => ∃ S' W' rows', Rep X.K (gOf X) B S' σ' W' H' ∧ PlainE S' = true ∧ Nest X.K B W' H' p qs rows' ∧ Stp W0 B W' H' ∧ Ex W1.I W'.I ∧ Inv i S' rows') ⟨S, W1, rows, r.step s1 ok1, pl, m.step s1, z.trans r.ok s1, Ex.refl _, i0⟩ ?_ ?_⟩
  · rintro i σ' H' hi ⟨S', W', rows', r', pl', m', z', e', i'⟩
    rw [Int.zero_add]
    obtain ⟨pl2, body⟩ := hs i S' rows' hi i'
    refine PG.w (pg_name hN hx hl hff) ?_
    have r2 : Rep X.K (gOf X) B (S'.set ix (some (.val (.int i)))) _ W' H' := r'.set (.int i)
    exact body _ W' H' r2 pl2 m' z' _ ⟨fun S3 σ3 W3 H3 rows3 r3 pl3 m3 z3 e3 q3 => ⟨S3, W3, rows3, r3, pl3, m3, z3, e'.trans e3, q3⟩, fun d3 v3 W3 H3 r3 z3 e3 n3 q3 => k.rt d3 v3 W3 H3 r3 z3 ((s1.I.trans e').trans e3) n3 q3⟩
  · rintro σ' H' ⟨S', W', rows', r', pl', m', z', e', i'⟩
    exact k.nx S' σ' W' H' rows' r' pl' m' z' (s1.I.trans e') (hd S' rows' i')
end
end DL

set_option Elab.async false
set_option linter.all false
set_option maxRecDepth 100000
set_option maxHeartbeats 4000000
/-! lists of lists: made, given away; an owned list changed at a place, shortened -/
namespace DL
open PySem PySem.Spec PyProof.Rows L2
theorem Rep.putOwn {K : PySem.W.Frag} {g : List Code} {B : Hp} {S : En} {σ : L2.St} {W : Wd} {H : Hp} {i : Nat} {l l' : List D} {p : Addr} {xs xs' : List V} (r : Rep K g B S σ W H) (h : S[i]? = some (some (.own l))) (e1 : σ[i]? = some (some (.ref p))) (hB : B p = none) (n : ¬ W.P p) (hI : W.I p = none) (hH : H p = some (.lst xs)) (d : Dns K W.I l' xs') :
    Rep K g B (S.set i (some (.own l'))) σ W (upd H p (.lst xs')) := by
  have lt : i < S.length := (List.getElem?_eq_some_iff.mp h).1
  refine ⟨ok_upd r.ok n hI, r.gb, by simpa using r.len, fun j s ej => ?_, fun a b la lb q ne e2 e3 e4 => ?_⟩
  · by_cases q : i = j
    · subst q
      rw [List.getElem?_set_self lt] at ej
      cases ej
      exact ⟨_, e1, p, _, rfl, hB, n, hI, upd_same, d⟩
    · rw [List.getElem?_set_ne q] at ej
      obtain ⟨v2, e2, h2⟩ := r.sl j s ej
      refine ⟨v2, e2, ?_⟩
      cases s with
      | val d2 => exact h2
      | pot => exact h2
      | own m =>
        obtain ⟨p2, ys, rfl, b1, b2, b3, b4, b5⟩ := h2
        refine ⟨p2, ys, rfl, b1, b2, b3, ?_, b5⟩
        rw [upd_ne (fun y => by
          rw [y] at e2
          exact r.dist i j l m p q h ej e1 e2)]
        exact b4
      | inst C p2 dx fs =>
        obtain ⟨vs, rfl, b1, b2, b3, b4, b5, b6, b7, b8, b9, b10⟩ := h2
        refine ⟨vs, rfl, b1, b2, b3, b4, b5, b6, b7, ?_, ?_, b10⟩
        · rw [upd_ne (fun y => by rw [y, hH] at b8; cases b8)]
          exact b8
        · rw [upd_ne (fun y => by rw [y, hH] at b9; cases b9)]
          exact b9
  · have g : ∀ {c : Nat} {m : List D}, (S.set i (some (.own l')))[c]? = some (some (.own m)) → ∃ m', S[c]? = some (some (.own m')) := fun {c m} ec => by
      by_cases q2 : i = c
      · subst q2
        exact ⟨l, h⟩
      · rw [List.getElem?_set_ne q2] at ec
        exact ⟨m, ec⟩
    obtain ⟨m1, g1⟩ := g e2
    obtain ⟨m2, g2⟩ := g e3
    exact r.dist a b m1 m2 q ne g1 g2 e4
theorem dns_of {K : PySem.W.Frag} {I : Hp} : ∀ {l : List D} {xs : List V}, l.length = xs.length → (∀ (j : Nat) d v, l[j]? = some d → xs[j]? = some v → Dn K I d v) → Dns K I l xs
  | [], [], _, _ => .nil
  | _ :: _, _ :: _, e, h => .cons (h 0 _ _ rfl rfl) (dns_of (Nat.succ.inj e) fun j d v e1 e2 => h (j + 1) d v e1 e2)
section
variable {K : PySem.W.Frag} {g : List Code} {B : Hp} {W0 W : Wd} {H : Hp} {p : Addr} {qs : List Addr} {rows : List (List D)}
/-- the inner lists are given away -/
theorem Nest.frz (m : Nest K B W H p qs rows) (ok : Ok g W H) (gb : ∀ b, InG g b → B b ≠ none) (z : Stp W0 B W H) : ∃ W' : Wd, W'.P = W.P ∧ Ok g W' H ∧ Stp W0 B W' H ∧ Ex W.I W'.I ∧ W'.I p = none ∧ Dns K W'.I (rows.map D.lst) (qs.map V.ref) := by
  have key : ∀ n, n ≤ qs.length → ∃ W' : Wd, W'.P = W.P ∧ Ok g W' H ∧ Stp W0 B W' H ∧ Ex W.I W'.I ∧ (∀ b, b ∉ qs.take n → W'.I b = W.I b) ∧ ∀ (j : Nat) q l, j < n → qs[j]? = some q → rows[j]? = some l → Dn K W'.I (.lst l) (.ref q) := by
    intro n
    induction n with
    | zero => exact fun _ => ⟨W, rfl, ok, z, Ex.refl _, fun _ _ => rfl, fun j _ _ h => absurd h (Nat.not_lt_zero _)⟩
    | succ n ih =>
      intro hn
      obtain ⟨W', eP, ok', z', x', same, done⟩ := ih (by omega)
      have eq : qs[n]? = some qs[n] := List.getElem?_eq_getElem (by omega)
      have el : rows[n]? = some (rows[n]'(by rw [← m.len]; omega)) := List.getElem?_eq_getElem _
      obtain ⟨b, nP, nI, xs, hq, d⟩ := m.row n _ _ eq el
      have nd := (List.nodup_cons.mp m.nd).2
      have notin : qs[n] ∉ qs.take n := fun h => by
        obtain ⟨j, hj, e⟩ := List.getElem_of_mem h
        rw [List.getElem_take] at e
        have hj' : j < n := by simpa using (Nat.lt_of_lt_of_le hj (by simp; omega))
        have := (List.getElem_inj (h₀ := by omega) (h₁ := by omega) nd).mp e
        omega
      have iq : W'.I qs[n] = none := by rw [same _ notin]; exact nI
      have ng : ¬ InG g qs[n] := fun h => gb _ h b
      have nP' : ¬ W'.P qs[n] := by rw [eP]; exact nP
      have xx : Ex W'.I (W'.new qs[n] (.lst xs)).I := Ex.new iq
      refine ⟨W'.new qs[n] (.lst xs), eP, ok'.frz hq nP' ng, z'.frz b iq, x'.trans xx, fun c hc => ?_, fun j q l hj e1 e2 => ?_⟩
      · rw [List.take_add_one, eq, List.mem_append] at hc
        show upd W'.I qs[n] (.lst xs) c = W.I c
        rw [upd_ne (fun y => hc (.inr (by simp [y])))]
        exact same c fun h => hc (.inl h)
      · by_cases c : j < n
        · exact (done j q l c e1 e2).mono xx
        · have : j = n := by omega
          subst this
          rw [eq] at e1
          rw [el] at e2
          cases e1
          cases e2
          exact .lst (show upd W'.I qs[j] (.lst xs) qs[j] = _ from upd_same) (d.mono (x'.trans xx))
  obtain ⟨W', eP, ok', z', x', same, done⟩ := key qs.length (Nat.le_refl _)
  refine ⟨W', eP, ok', z', x', ?_, dns_of (by simp [m.len]) fun j d v e1 e2 => ?_⟩
  · rw [same p (by rw [List.take_length]; exact (List.nodup_cons.mp m.nd).1)]
    exact m.i
  · rw [List.getElem?_map] at e1 e2
    cases h1 : rows[j]? with
    | none => rw [h1] at e1; cases e1
    | some l =>
      cases h2 : qs[j]? with
      | none => rw [h2] at e2; cases e2
      | some q =>
        rw [h1] at e1
        rw [h2] at e2
        cases e1
        cases e2
        exact done j q l (List.getElem?_eq_some_iff.mp h2).1 h2 h1
/-- one list more -/
theorem Nest.more {q : Addr} {l : List D} {xs : List V} (m : Nest K B W H p qs rows) (b : B q = none) (n : ¬ W.P q) (i : W.I q = none) (h : H q = some (.lst xs)) (d : Dns K W.I l xs) (ne : q ≠ p) (nq : q ∉ qs) : Nest K B W (upd H p (.lst ((qs ++ [q]).map V.ref))) p (qs ++ [q]) (rows ++ [l]) := by
  refine ⟨m.b, m.n, m.i, upd_same, ?_, by simp [m.len], fun j c la e1 e2 => ?_⟩
  · obtain ⟨n1, n2⟩ := List.nodup_cons.mp m.nd
    refine List.nodup_cons.mpr ⟨fun z => ?_, List.nodup_append.mpr ⟨n2, by simp, fun a ha c hc => ?_⟩⟩
    · rcases List.mem_append.mp z with z | z
      · exact n1 z
      · exact ne (List.mem_singleton.mp z).symm
    · rw [List.mem_singleton.mp hc]
      exact fun y => nq (y ▸ ha)
  · by_cases lt : j < qs.length
    · rw [List.getElem?_append_left lt] at e1
      rw [List.getElem?_append_left (by rw [← m.len]; exact lt)] at e2
      obtain ⟨b', n', i', ys, h', d'⟩ := m.row j c la e1 e2
      exact ⟨b', n', i', ys, by rw [upd_ne (m.ne e1).symm]; exact h', d'⟩
    · rw [List.getElem?_append_right (by omega)] at e1
      rw [List.getElem?_append_right (by rw [← m.len]; omega)] at e2
      have z : j - qs.length = 0 := by
        rcases Nat.eq_zero_or_pos (j - qs.length) with z | z
        · exact z
        · rw [List.getElem?_eq_none (show [q].length ≤ j - qs.length from z)] at e1
          cases e1
      rw [z] at e1
      rw [← m.len, z] at e2
      cases e1
      cases e2
      exact ⟨b, n, i, xs, by rw [upd_ne ne]; exact h, d⟩
end
section
variable (X : Cx) (B : Hp) (W0 : Wd) (p : Addr) (qs : List Addr) (S : En) (rows : List (List D))
/-- from lists of lists on, to where they are given away -/
def NF (st : Stmt) (E : Ends') : Prop := ∀ σ W H, Rep X.K (gOf X) B S σ W H → PlainE S = true → Nest X.K B W H p qs rows → Stp W0 B W H → ∀ D', Sub X.K (gOf X) B W0 W.I E D' → WS X st D' σ H
def NFs (sts : List Stmt) (E : Ends') : Prop := ∀ σ W H, Rep X.K (gOf X) B S σ W H → PlainE S = true → Nest X.K B W H p qs rows → Stp W0 B W H → ∀ D', Sub X.K (gOf X) B W0 W.I E D' → WSs X sts D' σ H
/-- an expression that makes such lists -/
def NE (S : En) (e : Expr) (Q : List (List D) → Prop) : Prop := ∀ σ W H, Rep X.K (gOf X) B S σ W H → ∀ R : VK, (∀ p qs rows W' H', Stp W H W' H' → Ok (gOf X) W' H' → Nest X.K H W' H' p qs rows → Q rows → R (.ref p) H') → WE X e σ H R
end
section
variable {X : Cx} {B : Hp} {W0 : Wd} {p : Addr} {qs : List Addr} {S : En} {rows : List (List D)} {st : Stmt} {sts : List Stmt} {E : Ends'} {pos : Pos} {e e2 a b c : Expr}
theorem nfs_cons (h : NSD X B W0 p qs S rows st { nx := fun S' rows' => NFs X B W0 p qs S' rows' sts E, rt := E.rt }) (hb : ∀ S, E.bk S → False) (hc : ∀ S, E.ct S → False) : NFs X B W0 p qs S rows (st :: sts) E := fun σ W H r pl m z D' k => by
  refine PSs.w (pss_cons ws_ps wss_pss) ?_
  exact h σ W H r pl m z _ ⟨fun S' σ' W' H' rows' r' pl' m' z' x q => q σ' W' H' r' pl' m' z' D' (k.mono x), fun d v W' H' ok' z' x n q => k.rt d v W' H' ok' z' x n q⟩
theorem nfs_then (h : NF X B W0 p qs S rows st { nx := fun S' => SDs X B W0 S' sts E, rt := E.rt, bk := E.bk, ct := E.ct }) : NFs X B W0 p qs S rows (st :: sts) E := fun σ W H r pl m z D' k => by
  refine PSs.w (pss_cons ws_ps wss_pss) ?_
  exact h σ W H r pl m z _ ⟨fun S' σ' W' H' r' z' x q => q σ' W' H' r' z' D' (k.mono x), k.rt, k.bk, k.ct⟩
theorem nf_if {x y : List Stmt} (h : TD X B S c fun t => if t = true then NFs X B W0 p qs S rows x E else NFs X B W0 p qs S rows y E) : NF X B W0 p qs S rows (.If c x y pos) E := fun σ W H r pl m z D' k => by
  refine PS.w (ps_if wt_pt wss_pss wss_pss) ?_
  refine h σ W H r _ fun t W1 H1 s1 ok1 q1 => ?_
  cases t with
  | true => exact iteT ((show NFs X B W0 p qs S rows x E by simpa using q1) σ W1 H1 (r.step s1 ok1) pl (m.step s1) (z.trans r.ok s1) D' (k.mono s1.I))
  | false => exact iteF ((show NFs X B W0 p qs S rows y E by simpa using q1) σ W1 H1 (r.step s1 ok1) pl (m.step s1) (z.trans r.ok s1) D' (k.mono s1.I))
/-- the inner lists are given away, the outer one is owned by its name -/
theorem nfs_own (i : Nat) (sx : S[i]? = some (some (.val (.cls p)))) (k : SDs X B W0 (S.set i (some (.own (rows.map D.lst)))) sts E) : NFs X B W0 p qs S rows sts E := fun σ W H r pl m z D' kk => by
  obtain ⟨W', eP, ok', z', x', ip, dn⟩ := m.frz r.ok r.gb z
  obtain ⟨v, e1, w1⟩ := r.sl i _ sx
  cases (show Dn X.K W.I _ _ from w1)
  have lt : i < S.length := (List.getElem?_eq_some_iff.mp sx).1
  refine k σ W' H ⟨ok', r.gb, by simpa using r.len, fun j s ej => ?_, fun a b la lb q ne e2 e3 e4 => ?_⟩ z' D' (kk.mono x')
  · by_cases y : i = j
    · subst y
      rw [List.getElem?_set_self lt] at ej
      cases ej
      exact ⟨_, e1, p, _, rfl, m.b, by rw [eP]; exact m.n, ip, m.h, dn⟩
    · rw [List.getElem?_set_ne y] at ej
      obtain ⟨v2, e2, h2⟩ := r.sl j s ej
      refine ⟨v2, e2, ?_⟩
      rcases PlainE.at pl ej with ⟨d, rfl⟩ | rfl
      · exact Dn.mono x' h2
      · obtain ⟨c, e, q⟩ := h2
        exact ⟨c, e, by rw [eP]; exact q⟩
  · by_cases y : i = a
    · subst y
      by_cases y2 : i = b
      · exact absurd y2 ne
      · rw [List.getElem?_set_ne y2] at e3
        rcases PlainE.at pl e3 with ⟨d, z⟩ | z <;> cases z
    · rw [List.getElem?_set_ne y] at e2
      rcases PlainE.at pl e2 with ⟨d, z⟩ | z <;> cases z
/-- name = lists of lists -/
theorem sds_nest {x : Str} {pos' : Pos} (i : Nat) (hN : X.N.Nodup) (hi : X.N[i]? = some x) (h : NE X B S e fun rows => PlainE S = true ∧ ∀ p qs, NFs X B W0 p qs (S.set i (some (.val (.cls p)))) rows sts E) (hx : Loc X.env.scope x := by first | exact Or.inl rfl | exact Or.inr rfl)
    (hs : swapsWith e (some (.Name x pos')) pos.line X.env = pure false := by rfl) (hf : X.fn x = true ∨ X.env.scope.names.lookup x = some .local := by first | exact .inl rfl | exact .inr rfl) : SDs X B W0 S (.Assign [.Name x pos'] e pos :: sts) E := fun σ W H r z D' k => by
  refine PSs.w (pss_cons (ps_set hN hi hx we_pe hs hf) wss_pss) ?_
  refine h σ W H r _ fun p qs rows W1 H1 s1 ok1 m q1 => ?_
  obtain ⟨pl, q1⟩ := q1
  have bn : ∀ q, H q = none → B q = none := fun q hq => z.free r.ok hq
  have m' : Nest X.K B W1 H1 p qs rows := ⟨bn _ m.b, m.n, m.i, m.h, m.nd, m.len, fun j q l e1 e2 => let ⟨b, y⟩ := m.row j q l e1 e2; ⟨bn _ b, y⟩⟩
  exact q1 p qs _ W1 H1 ((r.step s1 ok1).set (.cls p)) (plain_set pl) m' (z.trans r.ok s1) D' (k.mono s1.I)
theorem nsds_nf {EN : NEnds} (h : NFs X B W0 p qs S rows sts { nx := fun _ => False, rt := EN.rt }) : NSDs X B W0 p qs S rows sts EN := fun σ W H r pl m z D' k =>
  h σ W H r pl m z D' ⟨fun _ _ _ _ _ _ _ q => q.elim, k.rt, fun _ _ _ _ _ _ _ q => q.elim, fun _ _ _ _ _ _ _ q => q.elim⟩
end
end DL

set_option Elab.async false
set_option linter.all false
set_option maxRecDepth 100000
set_option maxHeartbeats 4000000
/-! lists of lists by comprehensions; x[i].append, x.pop(i), x[i] = .. -/
namespace DL
open PySem PySem.Spec PyProof.Rows L2
theorem dns_take {K : PySem.W.Frag} {I : Hp} : ∀ (n : Nat) {l : List D} {xs : List V}, Dns K I l xs → Dns K I (l.take n) (xs.take n)
  | 0, _, _, _ => .nil
  | _ + 1, _, _, .nil => .nil
  | n + 1, _, _, .cons h r => .cons h (dns_take n r)
theorem dns_drop {K : PySem.W.Frag} {I : Hp} : ∀ (n : Nat) {l : List D} {xs : List V}, Dns K I l xs → Dns K I (l.drop n) (xs.drop n)
  | 0, _, _, h => h
  | _ + 1, _, _, .nil => .nil
  | n + 1, _, _, .cons h r => dns_drop n r
def NLC (X : Cx) (B : Hp) (S : En) (t : TE) (Q : List (List D) → Prop) : Prop := ∀ σ W H, Rep X.K (gOf X) B S σ W H → ∀ R : VK, (∀ p qs rows W' H', Stp W H W' H' → Ok (gOf X) W' H' → Nest X.K H W' H' p qs rows → Q rows → R (.ref p) H') → t σ H R
structure Mid2 (K : PySem.W.Frag) (g : List Code) (W1 : Wd) (H1 : Hp) (p : Addr) (qs : List Addr) (rows : List (List D)) (W : Wd) (H : Hp) : Prop where
  st : Stp W1 H1 W H
  ok : Ok g W H
  m : Nest K H1 W H p qs rows
theorem Mid2.start {K : PySem.W.Frag} {g : List Code} {W1 : Wd} {H1 : Hp} {p : Addr} (ok : Ok g W1 H1) (h : H1 p = none) : Mid2 K g W1 H1 p [] [] W1 (upd H1 p (.lst [])) :=
  ⟨Stp.own h, ok.own h, ⟨h, ok.notP h, ok.free h, upd_same, by simp, rfl, fun j q l e => by simp at e⟩⟩
theorem Mid2.next {K : PySem.W.Frag} {g : List Code} {W1 W W2 : Wd} {H1 H H2 : Hp} {p q : Addr} {qs : List Addr} {rows : List (List D)} {l : List D} {xs : List V} (m : Mid2 K g W1 H1 p qs rows W H) (s : Stp W H W2 H2) (ok : Ok g W2 H2) (hq : H q = none) (n : ¬ W2.P q) (i : W2.I q = none) (h : H2 q = some (.lst xs)) (d : Dns K W2.I l xs) :
    H2 p = some (.lst (qs.map V.ref)) ∧ Mid2 K g W1 H1 p (qs ++ [q]) (rows ++ [l]) W2 (upd H2 p (.lst (qs.map V.ref ++ [.ref q]))) := by
  have m2 := m.m.step s
  have b : H1 q = none := m.st.free m.ok hq
  have ne : q ≠ p := fun z => by rw [z, m.m.h] at hq; cases hq
  have nq : q ∉ qs := fun z => by
    obtain ⟨j, hj, e⟩ := List.getElem_of_mem z
    have e1 : qs[j]? = some q := by rw [← e]; exact List.getElem?_eq_getElem hj
    have e2 : rows[j]? = some (rows[j]'(by rw [← m.m.len]; exact hj)) := List.getElem?_eq_getElem _
    obtain ⟨_, _, _, ys, h', _⟩ := m.m.row j q _ e1 e2
    rw [hq] at h'
    cases h'
  have mm := m2.more b n i h d ne nq
  have em : (qs ++ [q]).map V.ref = qs.map V.ref ++ [V.ref q] := by rw [List.map_append]; rfl
  rw [em] at mm
  exact ⟨m2.h, stp_upd (m.st.trans m.ok s) m2.b, ok_upd ok m2.n m2.i, mm⟩
section
variable {X : Cx} {B : Hp} {W0 : Wd} {S : En} {st : Stmt} {sts : List Stmt} {E : Ends'} {pos : Pos} {e e2 a b c : Expr}
theorem nlc_R {elt : Expr} {scope : Scope} {own : List (Str × Nat)} {n : Int} {g : TG} {Q : List (List D) → Prop} (J : Nat → List (List D) → Prop) (S' : D → En)
    (h : AD X B S [e] fun as => as = [.val (.int n)] ∧ -(2 ^ 62) ≤ n ∧ n ≤ 50000 ∧ J 0 []) (hp : ∀ d, Pat X.K g (own.map (·.2)) S d (S' d))
    (he : ∀ (i : Nat) rows, (i : Int) < n → rows.length = i → J i rows → ∀ (s : Shared) (H0 : Hp) (C : Addr) (cl : List (Str × Addr)) (fp : List Addr), FD (X.blk s H0 scope (compEnvC scope cl C X.env) fp) B (S' (.int i)) elt fun l => J (i + 1) (rows ++ [l]))
    (hd : ∀ rows, rows.length = n.toNat → J n.toNat rows → Q rows) : NLC X B S (tLc (iRng1 (WA X [e])) g tYes (WEb X scope elt) (own.map (·.2))) Q := fun σ W H r R k => by
  refine h σ W H r _ fun as vs W1 H1 s1 ok1 n1 q1 => ?_
  obtain ⟨rfl, hz, hz2, j0⟩ := q1
  obtain ⟨v, rfl, m⟩ := one_arg n1
  cases m
  refine ⟨n, rfl, hz, by omega, fun p hp0 => ?_⟩
  have r1 := r.step s1 ok1
  refine lc_range (lo := 0) (n := n.toNat) (fun i H' => ∃ qs rows W', Mid2 X.K (gOf X) W1 H1 p qs rows W' H' ∧ rows.length = i ∧ J i rows) ⟨[], [], W1, .start ok1 hp0, rfl, j0⟩ ?_ ?_
  · rintro i H' hi ⟨qs, rows, W', mm, hl, j⟩
    rw [Int.zero_add]
    have r2 := r1.step mm.st mm.ok
    refine hp (.int i) (gOf X) B σ W' H' _ r2 (.int _) _ fun σ2 e2 r3 => ⟨e2, ?_⟩
    show WEb X scope elt σ2 H' _
    intro s H0 C cl fp
    refine he i rows (by omega) hl j s H0 C cl fp σ2 W' H' r3 _ fun l q xs W2 H2 s2 ok2 hq nq iq h2 d2 q2 => ?_
    obtain ⟨e3, m3⟩ := mm.next s2 ok2 hq nq iq h2 d2
    have lq : qs.length = i := by rw [mm.m.len, hl]
    exact ⟨_, e3, Nat.lt_of_lt_of_le (show (qs.map V.ref).length < 60000 by rw [List.length_map]; omega) (by decide), _, _, W2, m3, by simp [hl], q2⟩
  · rintro H' ⟨qs, rows, W', mm, hl, j⟩
    exact k p qs rows W' H' (s1.trans ok1 mm.st) mm.ok ⟨s1.free ok1 hp0, mm.m.n, mm.m.i, mm.m.h, mm.m.nd, mm.m.len, fun j q l e1 e2 => let ⟨b, y⟩ := mm.m.row j q l e1 e2; ⟨s1.free ok1 b, y⟩⟩ (hd rows hl j)
theorem nlc_L {elt iter : Expr} {scope : Scope} {own : List (Str × Nat)} {g : TG} {l : List D} {Q : List (List D) → Prop} (J : Nat → List (List D) → Prop) (S' : D → En)
    (h : ED X B S iter fun d => d = .lst l ∧ l.length ≤ 50000 ∧ J 0 []) (hp : ∀ d ∈ l, Pat X.K g (own.map (·.2)) S d (S' d))
    (he : ∀ (i : Nat) d rows, l[i]? = some d → rows.length = i → J i rows → ∀ (s : Shared) (H0 : Hp) (C : Addr) (cl : List (Str × Addr)) (fp : List Addr), FD (X.blk s H0 scope (compEnvC scope cl C X.env) fp) B (S' d) elt fun y => J (i + 1) (rows ++ [y]))
    (hd : ∀ rows, rows.length = l.length → J l.length rows → Q rows) : NLC X B S (tLc (iList X.K (WE X iter)) g tYes (WEb X scope elt) (own.map (·.2))) Q := fun σ W H r R k => by
  refine h σ W H r _ fun d v W1 H1 s1 ok1 n1 q1 => ?_
  obtain ⟨rfl, hz, j0⟩ := q1
  cases n1 with
  | @lst _ a xs ha m =>
    refine ⟨a, rfl, ⟨xs, SqL.of (ok1.ex _ _ ha)⟩, fun p hp0 => ?_⟩
    have r1 := r.step s1 ok1
    refine lc_list (K := X.K) (a := a) (xs := xs) (fun i H' => ∃ qs rows W', Mid2 X.K (gOf X) W1 H1 p qs rows W' H' ∧ rows.length = i ∧ J i rows) ⟨[], [], W1, .start ok1 hp0, rfl, j0⟩ (fun i H' _ ⟨_, _, W', mm, _⟩ => SqL.of (mm.ok.ex _ _ (mm.st.I _ _ ha))) ?_ ?_
    · rintro i x H' hx ⟨qs, rows, W', mm, hl, j⟩
      obtain ⟨d, hd', nd⟩ := m.get hx
      have lt : i < l.length := (List.getElem?_eq_some_iff.mp hd').1
      have r2 := r1.step mm.st mm.ok
      refine hp d (List.mem_of_getElem? hd') (gOf X) B σ W' H' x r2 (nd.mono mm.st.I) _ fun σ2 e2 r3 => ⟨e2, ?_⟩
      show WEb X scope elt σ2 H' _
      intro s H0 C cl fp
      refine he i d rows hd' hl j s H0 C cl fp σ2 W' H' r3 _ fun l q xs W2 H2 s2 ok2 hq nq iq h2 d2 q2 => ?_
      obtain ⟨e3, m3⟩ := mm.next s2 ok2 hq nq iq h2 d2
      have lq : qs.length = i := by rw [mm.m.len, hl]
      exact ⟨_, e3, Nat.lt_of_lt_of_le (show (qs.map V.ref).length < 60000 by rw [List.length_map]; omega) (by decide), _, _, W2, m3, by simp [hl], q2⟩
    · rintro H' ⟨qs, rows, W', mm, hl, j⟩
      rw [← m.length] at hl j
      exact k p qs rows W' H' (s1.trans ok1 mm.st) mm.ok ⟨s1.free ok1 hp0, mm.m.n, mm.m.i, mm.m.h, mm.m.nd, mm.m.len, fun j q l e1 e2 => let ⟨b, y⟩ := mm.m.row j q l e1 e2; ⟨s1.free ok1 b, y⟩⟩ (hd rows hl j)
theorem ne_lcL {elt tg iter : Expr} {scope : Scope} {own : List (Str × Nat)} {g : TG} {Q : List (List D) → Prop} (hc : X.calm = true) (hN : X.N.Nodup) (ok : BlkOk X.N X.env.scope scope own)
    (hg : ∀ (s : Shared) (H : Hp) (C : Addr) (cl : List (Str × Addr)) (fp : List Addr), PG (X.blk s H scope (compEnvC scope cl C X.env) fp) tg g)
    (h : NLC X B S (tLc (iList X.K (WE X iter)) g tYes (WEb X scope elt) (own.map (·.2))) Q) (hs : ∀ x, foldedSetIterable iter X.env x = pure x := by intro _; rfl) : NE X B S (.ListComp elt [⟨tg, iter, [], 0⟩] scope pos) Q := fun σ W H r R k =>
  PE.w (pe_lc (te := WEb X scope elt) hc hN (pi_list we_pe) ok hg (fun _ _ _ _ _ => pts_nil) web_pe hs) (h σ W H r R k)
/-- name = [.. for ..], a list of lists -/
theorem sds_nestLc {i : Nat} {y : Str} {py spos : Pos} {elt tg iter : Expr} {scope : Scope} {own : List (Str × Nat)} {wi : TI} {g : TG} (hc : X.calm = true) (hN : X.N.Nodup) (hy : X.N[i]? = some y) (hyl : X.env.scope.names.lookup y = some .local) (hi : PI X tg iter wi) (ok : BlkOk X.N X.env.scope scope own)
    (hg : ∀ (s : Shared) (H : Hp) (C : Addr) (cl : List (Str × Addr)) (fp : List Addr), PG (X.blk s H scope (compEnvC scope cl C X.env) fp) tg g)
    (h : NLC X B S (tLc wi g tYes (WEb X scope elt) (own.map (·.2))) fun rows => PlainE S = true ∧ ∀ p qs, NFs X B W0 p qs (S.set i (some (.val (.cls p)))) rows sts E)
    (hsw : swapsWith (.ListComp elt [⟨tg, iter, [], 0⟩] scope pos) (some (.Name y py)) spos.line X.env = pure true := by exact sw_true rfl rfl rfl rfl) (hs : ∀ x, foldedSetIterable iter X.env x = pure x := by intro _; rfl) :
    SDs X B W0 S (.Assign [.Name y py] (.ListComp elt [⟨tg, iter, [], 0⟩] scope pos) spos :: sts) E := fun σ W H r z D' k => by
  refine PSs.w (pss_cons (ps_setLc (i := i) hc hN hy hyl hsw hi ok hg (fun _ _ _ _ _ => pts_nil) web_pe hs) wss_pss) ?_
  show tAsg (tLc wi g tYes (WEb X scope elt) (own.map (·.2))) (gName i) { D' with nx := fun σ' H' => WSs X sts D' σ' H' } σ H
  refine h σ W H r _ fun p qs rows W1 H1 s1 ok1 m q1 => ?_
  obtain ⟨pl, q1⟩ := q1
  have bn : ∀ q, H q = none → B q = none := fun q hq => z.free r.ok hq
  have m' : Nest X.K B W1 H1 p qs rows := ⟨bn _ m.b, m.n, m.i, m.h, m.nd, m.len, fun j q l e1 e2 => let ⟨b, y⟩ := m.row j q l e1 e2; ⟨bn _ b, y⟩⟩
  exact q1 p qs _ W1 H1 ((r.step s1 ok1).set (.cls p)) (plain_set pl) m' (z.trans r.ok s1) D' (k.mono s1.I)
/-- x, y = (a list of lists, a value) -/
theorem sds_nestPar {x y : Str} {px py pt : Pos} {kt k2 pt2} (i j : Nat) (hc : X.calm = true) (hN : X.N.Nodup) (hi : X.N[i]? = some x) (hj : X.N[j]? = some y) (hij : i ≠ j)
    (hx : X.env.scope.names.lookup x = some .local) (hy : X.env.scope.names.lookup y = some .local) (h : NE X B S a fun rows => PlainE S = true ∧ ED X B S b fun d => ∀ p qs, NFs X B W0 p qs ((S.set i (some (.val (.cls p)))).set j (some (.val d))) rows sts E)
    (hps : PS X (.Assign [.Tuple [.Name x px, .Name y py] kt pt] (.Tuple [a, b] k2 pt2) pos) (tPar i j (tCons (WE X a) (tCons (WE X b) tNil))) := by exact ps_par rfl (by assumption) rfl rfl (by decide) rfl rfl (pa_cons DL.we_pe (pa_cons DL.we_pe pa_nil)) (by rfl)) :
    SDs X B W0 S (.Assign [.Tuple [.Name x px, .Name y py] kt pt] (.Tuple [a, b] k2 pt2) pos :: sts) E := fun σ W H r z D' k => by
  refine PSs.w (pss_cons hps wss_pss) ?_
  refine h σ W H r _ fun p qs rows W1 H1 s1 ok1 m q1 => ?_
  obtain ⟨pl, q1⟩ := q1
  have bn : ∀ q, H q = none → B q = none := fun q hq => z.free r.ok hq
  have m' : Nest X.K B W1 H1 p qs rows := ⟨bn _ m.b, m.n, m.i, m.h, m.nd, m.len, fun j q l e1 e2 => let ⟨b, y⟩ := m.row j q l e1 e2; ⟨bn _ b, y⟩⟩
  refine q1 σ W1 H1 (r.step s1 ok1) _ fun d v W2 H2 s2 ok2 n2 q2 => ?_
  refine ⟨_, _, rfl, ?_⟩
  exact q2 p qs _ W2 H2 ((((r.step s1 ok1).step s2 ok2).set (.cls p)).set n2) (plain_set (plain_set pl)) (m'.step s2) ((z.trans r.ok s1).trans ok1 s2) D' (k.mono (s1.I.trans s2.I))
/-- list(e), e a list or a tuple -/
theorem fd_list {p : Pos} {Q : List D → Prop} (hm : X.mg "list" = none) (h : ED X B S e fun d => ∃ l, SeqD d l ∧ Q l) (hv : bootBuiltins "list" = some (.type "list") := by first | rfl | decide +kernel) (hg : Gl X "list" := by rfl)
    (he : starEach [e] X.env = (false, eval e X.env) :: starEach [] X.env := by rfl) (hpl : (backTo pos (starEach [] X.env)).any (·.1) = false := by rfl) : FD X B S (.Call (.Name "list" p) [e] [] pos) Q := fun σ W H r R k => by
  refine PE.w (pe_callTy call_list_of hg hm hv (pa_cons we_pe pa_nil he) (by decide) (by decide) he hpl) ?_
  refine h σ W H r _ fun d v W1 H1 s1 ok1 n1 q1 => ?_
  obtain ⟨l, sd, q1⟩ := q1
  obtain ⟨t, a, xs, rfl, w, hx⟩ := sd.at n1
  refine ⟨a, xs, rfl, ?_, fun p hp => ?_⟩
  · cases t with
    | false => exact .inl (hx _ ok1.ex)
    | true => exact .inr (hx _ ok1.ex)
  · exact k l p xs W1 _ (s1.trans ok1 (Stp.own hp)) (ok1.own hp) (s1.free ok1 hp) (ok1.notP hp) (ok1.free hp) upd_same w q1
/-- x[i].append(e) -/
theorem nsd_append {x y : Str} {px py pos1 apos cpos : Pos} {p : Addr} {qs : List Addr} {rows : List (List D)} {E : NEnds} (ix iy : Nat) {i : Nat} {l : List D} (hx : X.N[ix]? = some x) (hy : X.N[iy]? = some y) (sx : S[ix]? = some (some (.val (.cls p)))) (sy : S[iy]? = some (some (.val (.int i))))
    (hi : rows[i]? = some l) (hl : l.length < 50000) (he : ED X B S e fun d => E.nx S (rows.set i (l ++ [d])))
    (hps : PE X (.Call (.Attribute (.Subscript (.Name x px) (.Name y py) pos1) "append" apos) [e] [] cpos) (tBM X.K "list" rAppend (tOp (rIxL X.K) (tVar ix) (tVar iy)) (tCons (WE X e) tNil)) := by
      exact pe_bm PySem.F.plainAttrs_list PySem.F.slot_list_append PySem.F.type_list_append mt_append (pe_ix ix_list (pe_var (by rfl) (by first | exact Or.inl rfl | exact Or.inr (Or.inl rfl))) (pe_var (by rfl) (by first | exact Or.inl rfl | exact Or.inr (Or.inl rfl))) (fun _ _ => rfl)) (pa_cons DL.we_pe pa_nil))
    (hs : swapsWith (.Call (.Attribute (.Subscript (.Name x px) (.Name y py) pos1) "append" apos) [e] [] cpos) none pos.line X.env = pure false := by rfl) :
    NSD X B W0 p qs S rows (.Expr (.Call (.Attribute (.Subscript (.Name x px) (.Name y py) pos1) "append" apos) [e] [] cpos) pos) E := fun σ W H r pl m z D' k => by
  refine PS.w (ps_expr hps hs) ?_
  obtain ⟨v1, e1, w1⟩ := r.sl ix _ sx
  obtain ⟨v2, e2, w2⟩ := r.sl iy _ sy
  cases (show Dn X.K W.I _ _ from w1)
  cases (show Dn X.K W.I _ _ from w2)
  obtain ⟨qa, eq⟩ := m.at hi
  obtain ⟨nb, nP, nI, xs, hq, dn⟩ := m.row i qa l eq hi
  refine ⟨_, e1, _, e2, p, _, i, .ref qa, rfl, rfl, SqL.of m.h, atI_nat (by rw [List.getElem?_map, eq]; rfl), .inl ⟨rfl, _, SqL.of hq⟩, ?_⟩
  refine he σ W H r _ fun d v W1 H1 s1 ok1 n1 q1 => ?_
  have m1 := m.step s1
  obtain ⟨nb1, nP1, nI1, xs1, hq1, dn1⟩ := m1.row i qa l eq hi
  refine ⟨qa, xs1, v, rfl, rfl, hq1, Nat.lt_of_lt_of_le (show xs1.length < 60000 by rw [← dn1.length]; omega) (by decide), ?_⟩
  exact k.nx S _ W1 _ _ ((r.step s1 ok1).base pl (ok_upd ok1 nP1 nI1) r.gb) pl (m1.put eq hi (l ++ [d]) (dn1.append (.cons n1 .nil))) (stp_upd (z.trans r.ok s1) nb1) s1.I q1
/-- x.pop(e), x the owner of its list -/
theorem sd_popAt {x : Str} {px apos cpos : Pos} (i : Nat) (l : List D) (hN : X.N[i]? = some x) (h : S[i]? = some (some (.own l))) (he : ED X B S e fun d => ∃ j : Nat, d = .int j ∧ j < l.length ∧ l.length < 50000 ∧ E.nx (S.set i (some (.own (l.eraseIdx j)))))
    (hps : PE X (.Call (.Attribute (.Name x px) "pop" apos) [e] [] cpos) (tBM X.K "list" rPopAt (tVar i) (tCons (WE X e) tNil)) := by
      exact pe_bm PySem.F.plainAttrs_list PySem.F.slot_list_pop PySem.F.type_list_pop mt_popAt (pe_var (by rfl) (by first | exact Or.inl rfl | exact Or.inr (Or.inl rfl))) (pa_cons DL.we_pe pa_nil))
    (hs : swapsWith (.Call (.Attribute (.Name x px) "pop" apos) [e] [] cpos) none pos.line X.env = pure false := by rfl) : SD X B W0 S (.Expr (.Call (.Attribute (.Name x px) "pop" apos) [e] [] cpos) pos) E := fun σ W H r z D' k => by
  refine PS.w (ps_expr hps hs) ?_
  obtain ⟨v, e1, p, xs, ev, hB, n, hI, hH, d0⟩ := r.sl i _ h
  subst ev
  refine ⟨_, e1, .inl ⟨rfl, _, SqL.of hH⟩, ?_⟩
  refine he σ W H r _ fun d v W1 H1 s1 ok1 n1 q1 => ?_
  obtain ⟨j, rfl, hj, hb, q1⟩ := q1
  cases n1
  have hH1 : H1 p = some (.lst xs) := s1.keep _ _ hH n
  have nP : ¬ W1.P p := fun q => n (s1.oldP p _ hH q)
  have hI1 : W1.I p = none := s1.old p _ hH hI
  have d1 := d0.mono s1.I
  have hjx : j < xs.length := by rw [← d0.length]; exact hj
  have ex : xs[j]? = some xs[j] := List.getElem?_eq_getElem hjx
  refine ⟨p, xs, j, j, _, rfl, rfl, hH1, by omega, by have := d0.length; omega, (ixN_seq (ixN_lt hjx)).1, ex, ?_⟩
  have de : Dns X.K W1.I (l.eraseIdx j) (xs.eraseIdx j) := by
    rw [List.eraseIdx_eq_take_drop_succ, List.eraseIdx_eq_take_drop_succ]
    exact (dns_take j d1).append (dns_drop (j + 1) d1)
  exact k.nx _ σ W1 _ ((r.step s1 ok1).putOwn h e1 hB nP hI1 hH1 de) (stp_upd (z.trans r.ok s1) hB) s1.I q1
/-- x[y] = .., x the owner of its list -/
theorem gd_ownAt {x y : Str} {px py : Pos} {d : D} {Q : En → Prop} (ix iy : Nat) (l : List D) {i : Nat} (hx : X.N[ix]? = some x) (hy : X.N[iy]? = some y) (sx : S[ix]? = some (some (.own l))) (sy : S[iy]? = some (some (.val (.int i)))) (hi : i < l.length) (q : Q (S.set ix (some (.own (l.set i d)))))
    (vx : Vis X.env.scope x := by first | exact Or.inl rfl | exact Or.inr (Or.inl rfl)) (vy : Vis X.env.scope y := by first | exact Or.inl rfl | exact Or.inr (Or.inl rfl))
    (x1 : (x == ("__debug__" : Str)) = false := by decide) (x2 : (x == ("__classdict__" : Str)) = false := by decide) (y1 : (y == ("__debug__" : Str)) = false := by decide) (y2 : (y == ("__classdict__" : Str)) = false := by decide)
    (ha : ∀ v, assign (.Subscript (.Name x px) (.Name y py) pos) X.env v = (do
      let ov ← holding [v] (eval (.Name x px) X.env)
      let iv ← holding [v, ov] (eval (.Name y py) X.env)
      standAt pos
      holding [v, ov, iv] (setItem ov iv v)
      release [v, ov, iv] []) := by intro _; rfl) : GD X B W0 S (.Subscript (.Name x px) (.Name y py) pos) d Q := fun σ W H v r z nd R k => by
  obtain ⟨v1, e1, p, xs, ev, hB, n, hI, hH, d0⟩ := r.sl ix _ sx
  subst ev
  obtain ⟨v2, e2, w2⟩ := r.sl iy _ sy
  cases (show Dn X.K W.I _ _ from w2)
  refine PG.w (pg_sub (pe_var hx vx x1 x2) (pe_var hy vy y1 y2) set_list ha) ⟨_, e1, _, e2, p, xs, i, i, rfl, rfl, hH, ixN_lt (by rw [← d0.length]; exact hi), ?_⟩
  exact k _ σ W _ (r.putOwn sx e1 hB n hI hH (Dns.set nd i d0)) (stp_upd z hB) (Ex.refl _) q
end
end DL

set_option Elab.async false
set_option linter.all false
set_option maxRecDepth 100000
set_option maxHeartbeats 4000000
/-! texts of lists and tuples that hold own objects -/
namespace DL
open PySem PySem.Spec PyProof.Rows L2
mutual
/-- data that can be written, each told by where it stands -/
inductive Rp : D → Prop
  | non : Rp .non
  | bl (b) : Rp (.bl b)
  | int (i) : Rp (.int i)
  | str (s) : Rp (.str s)
  | tup {l} : Rps l → Rp (.tup l)
  | lst {l} : Rps l → Rp (.lst l)
  | obj {C fs} : Rpf fs → Rp (.obj C fs)
inductive Rps : List D → Prop
  | nil : Rps []
  | cons {d l} : Rp d → Rps l → Rps (d :: l)
inductive Rpf : List (Str × D) → Prop
  | nil : Rpf []
  | cons {f d l} : Rp d → Rpf l → Rpf ((f, d) :: l)
end
section
variable {K : PySem.W.Frag} {I : Hp}
mutual
theorem Dn.uniq : ∀ {d d' : D} {v : V}, Dn K I d v → Rp d → Rp d' → Dn K I d' v → d = d'
  | _, _, _, .non, _, r', n' => by cases n' <;> first | rfl | cases r'
  | _, _, _, .bl b, _, r', n' => by cases n' <;> first | rfl | cases r'
  | _, _, _, .int i, _, r', n' => by cases n' <;> first | rfl | cases r'
  | _, _, _, .str s, _, r', n' => by cases n' <;> first | rfl | cases r'
  | _, _, _, .ty n, r, _, _ => by cases r
  | _, _, _, .cls a, r, _, _ => by cases r
  | _, _, _, .frl h, r, _, _ => by cases r
  | _, _, _, .dct h, r, _, _ => by cases r
  | _, _, _, .tup h m, r, r', n' => by
    cases n' with
    | tup h' m' =>
      rw [h] at h'
      cases h'
      cases r with
      | tup r => cases r' with
        | tup r' => rw [Dns.uniq m r r' m']
    | lst h' m' => rw [h] at h'; cases h'
    | obj h' m' => rw [h] at h'; cases h'
    | cls _ => cases r'
    | dct _ => cases r'
    | frl _ => cases r'
  | _, _, _, .lst h m, r, r', n' => by
    cases n' with
    | lst h' m' =>
      rw [h] at h'
      cases h'
      cases r with
      | lst r => cases r' with
        | lst r' => rw [Dns.uniq m r r' m']
    | tup h' m' => rw [h] at h'; cases h'
    | obj h' m' => rw [h] at h'; cases h'
    | cls _ => cases r'
    | dct _ => cases r'
    | frl _ => cases r'
  | _, _, _, .obj h m, r, r', n' => by
    cases n' with
    | obj h' m' =>
      rw [h] at h'
      cases h'
      cases r with
      | obj r => cases r' with
        | obj r' => rw [Dnf.uniq m r r' m']
    | tup h' m' => rw [h] at h'; cases h'
    | lst h' m' => rw [h] at h'; cases h'
    | cls _ => cases r'
    | dct _ => cases r'
    | frl _ => cases r'
theorem Dns.uniq : ∀ {l l' : List D} {xs : List V}, Dns K I l xs → Rps l → Rps l' → Dns K I l' xs → l = l'
  | _, _, _, .nil, _, _, n' => by cases n'; rfl
  | _, _, _, .cons h m, r, r', n' => by
    cases n' with
    | cons h' m' =>
      cases r with
      | cons r1 r2 => cases r' with
        | cons r1' r2' => rw [Dn.uniq h r1 r1' h', Dns.uniq m r2 r2' m']
theorem Dnf.uniq : ∀ {l l' : List (Str × D)} {xs : List (Str × V)}, Dnf K I l xs → Rpf l → Rpf l' → Dnf K I l' xs → l = l'
  | _, _, _, .nil, _, _, n' => by cases n'; rfl
  | _, _, _, .cons h m, r, r', n' => by
    cases n' with
    | cons h' m' =>
      cases r with
      | cons r1 r2 => cases r' with
        | cons r1' r2' => rw [Dn.uniq h r1 r1' h', Dnf.uniq m r2 r2' m']
end
open Classical in
noncomputable def del (I : Hp) (a : Addr) : Hp := fun b => if b = a then none else I b
theorem del_same {a : Addr} : del I a a = none := if_pos rfl
theorem del_ne {a b : Addr} (h : b ≠ a) : del I a b = I b := if_neg h
/-- the same data without what stands at a, which is greater than they are -/
theorem del_sub {a : Addr} {big : D} (rb : Rp big) (nb : Dn K I big (.ref a)) : ∀ n, (∀ d v, sizeOf d < n → sizeOf d < sizeOf big → Rp d → Dn K I d v → Dn K (del I a) d v) ∧ (∀ l xs, sizeOf l < n → sizeOf l < sizeOf big → Rps l → Dns K I l xs → Dns K (del I a) l xs) ∧ (∀ l xs, sizeOf l < n → sizeOf l < sizeOf big → Rpf l → Dnf K I l xs → Dnf K (del I a) l xs) := by
  intro n
  induction n with
  | zero => exact ⟨fun _ _ h => absurd h (Nat.not_lt_zero _), fun _ _ h => absurd h (Nat.not_lt_zero _), fun _ _ h => absurd h (Nat.not_lt_zero _)⟩
  | succ n ih =>
    obtain ⟨i1, i2, i3⟩ := ih
    refine ⟨fun d v hn hb r m => ?_, fun l xs hn hb r m => ?_, fun l xs hn hb r m => ?_⟩
    · have ne : ∀ b, v = .ref b → b ≠ a := fun b e z => by
        subst z
        subst e
        have := Dn.uniq m r rb nb
        rw [this] at hb
        exact Nat.lt_irrefl _ hb
      cases m with
      | non => exact .non
      | bl b => exact .bl b
      | int i => exact .int i
      | str s => exact .str s
      | ty _ => cases r
      | cls _ => cases r
      | frl _ => cases r
      | dct _ => cases r
      | tup h m =>
        cases r with
        | tup r =>
          simp only [D.tup.sizeOf_spec] at hn hb
          exact .tup (by rw [del_ne (ne _ rfl)]; exact h) (i2 _ _ (by omega) (by omega) r m)
      | lst h m =>
        cases r with
        | lst r =>
          simp only [D.lst.sizeOf_spec] at hn hb
          exact .lst (by rw [del_ne (ne _ rfl)]; exact h) (i2 _ _ (by omega) (by omega) r m)
      | obj h m =>
        cases r with
        | obj r =>
          simp only [D.obj.sizeOf_spec] at hn hb
          exact .obj (by rw [del_ne (ne _ rfl)]; exact h) (i3 _ _ (by omega) (by omega) r m)
    · cases m with
      | nil => exact .nil
      | cons h m =>
        cases r with
        | cons r1 r2 =>
          simp only [List.cons.sizeOf_spec] at hn hb
          exact .cons (i1 _ _ (by omega) (by omega) r1 h) (i2 _ _ (by omega) (by omega) r2 m)
    · cases m with
      | nil => exact .nil
      | cons h m =>
        cases r with
        | cons r1 r2 =>
          simp only [List.cons.sizeOf_spec, Prod.mk.sizeOf_spec] at hn hb
          exact .cons (i1 _ _ (by omega) (by omega) r1 h) (i3 _ _ (by omega) (by omega) r2 m)
theorem del_lst {a : Addr} {l : List D} {xs : List V} (r : Rps l) (h : I a = some (.lst xs)) (m : Dns K I l xs) : Dns K (del I a) l xs :=
  (del_sub (big := .lst l) (.lst r) (.lst h m) (sizeOf l + 1)).2.1 l xs (by omega) (by simp only [D.lst.sizeOf_spec]; omega) r m
theorem del_tup {a : Addr} {l : List D} {xs : List V} (r : Rps l) (h : I a = some (.tup xs)) (m : Dns K I l xs) : Dns K (del I a) l xs :=
  (del_sub (big := .tup l) (.tup r) (.tup h m) (sizeOf l + 1)).2.1 l xs (by omega) (by simp only [D.tup.sizeOf_spec]; omega) r m
end
/-! being written: a stands no more among what never changes, and is back behind it -/
section
variable {g : List Code} {W W2 : Wd} {H H2 : Hp} {a : Addr} {o : HO}
theorem Ok.write {id : String} {rest : List Value} {kw : List (Str × Value)} (ok : Ok g W H) (ha : W.I a = some o) : Ok (.builtin id ⟨.ref a :: rest, kw⟩ :: g) ⟨del W.I a, W.P⟩ H where
  gd := fun b hb => by
    obtain ⟨i, r, k, h⟩ := hb
    rcases List.mem_cons.mp h with e | h
    · cases e
      exact ⟨del_same, fun z => by rw [ok.ex _ _ ha] at z; cases z⟩
    · obtain ⟨n1, n2⟩ := ok.gd b ⟨i, r, k, h⟩
      refine ⟨?_, n2⟩
      show del W.I a b = none
      rw [del_ne (fun z => by rw [z, ha] at n1; cases n1)]
      exact n1
  ex := fun b u e => by
    have e' : del W.I a b = some u := e
    by_cases z : b = a
    · rw [z, del_same] at e'; cases e'
    · rw [del_ne z] at e'; exact ok.ex b u e'
  pot := fun b pb => by
    obtain ⟨n, x⟩ := ok.pot b pb
    refine ⟨?_, x⟩
    by_cases z : b = a
    · rw [z]; exact del_same
    · show del W.I a b = none
      rw [del_ne z]; exact n
theorem InG.cons {c : Code} {b : Addr} (h : InG g b) : InG (c :: g) b := let ⟨i, r, k, m⟩ := h; ⟨i, r, k, List.mem_cons_of_mem _ m⟩
/-- behind the writing -/
theorem written_stp {c : Code} (ok : Ok g W H) (ha : W.I a = some o) (st : Stp ⟨del W.I a, W.P⟩ H W2 H2) (ok2 : Ok (c :: g) W2 H2) : Stp W H (W2.new a o) H2 ∧ Ok g (W2.new a o) H2 := by
  have hH : H a = some o := ok.ex _ _ ha
  have nP : ¬ W.P a := fun z => by rw [(ok.pot a z).1] at ha; cases ha
  have h2 : H2 a = some o := st.keep a o hH nP
  have i2 : W2.I a = none := st.old a o hH del_same
  have nP2 : ¬ W2.P a := fun z => nP (st.oldP a o hH z)
  have ng : ¬ InG g a := fun z => by rw [(ok.gd a z).1] at ha; cases ha
  refine ⟨⟨fun b u e => ?_, st.P, st.keep, fun b u e n => ?_, st.oldP⟩, ?_⟩
  · show upd W2.I a o b = some u
    by_cases z : b = a
    · subst z
      rw [ha] at e
      cases e
      exact upd_same
    · rw [upd_ne z]
      exact st.I b u (by show del W.I a b = some u; rw [del_ne z]; exact e)
  · show upd W2.I a o b = none
    have z : b ≠ a := fun z => by rw [z, ha] at n; cases n
    rw [upd_ne z]
    exact st.old b u e (by show del W.I a b = none; rw [del_ne z]; exact n)
  · exact {
      gd := fun b hb => by
        obtain ⟨n1, n2⟩ := ok2.gd b hb.cons
        refine ⟨?_, n2⟩
        show upd W2.I a o b = none
        have ne : b ≠ a := fun z => ng (z ▸ hb)
        rw [upd_ne ne]
        exact n1
      ex := fun b u e => by
        have e' : upd W2.I a o b = some u := e
        by_cases z : b = a
        · subst z; rw [upd_same] at e'; cases e'; exact h2
        · rw [upd_ne z] at e'; exact ok2.ex b u e'
      pot := fun b pb => by
        obtain ⟨n, x⟩ := ok2.pot b pb
        refine ⟨?_, x⟩
        show upd W2.I a o b = none
        have ne : b ≠ a := fun z => nP2 (z ▸ pb)
        rw [upd_ne ne]
        exact n }
end
end DL

set_option Elab.async false
set_option linter.all false
set_option maxRecDepth 100000
set_option maxHeartbeats 4000000
/-! how lists and tuples that hold own objects are written -/
namespace DL
open PySem PySem.Spec PyProof.Rows L2 Builtin Builtin.List
/-- an around that stands in the same def -/
structure Ar (X : Cx) (k : Nat) (A : Around) : Prop where
  r : Room k A
  f : A.frames = some X.stack
theorem Ar.mono {X : Cx} {j k : Nat} {A : Around} (h : Ar X k A) (e : j ≤ k) : Ar X j A := ⟨h.r.mono e, h.f⟩
theorem Ar.env {X : Cx} {k : Nat} {A : Around} {pins : List (Addr × Obj)} {σ : L2.St} {H : Hp} {s : Shared} (h : Ar X k A) (I : Inv X pins σ H s) : Env0 X.prog X.w X.K X.mg X.base A X.stack s H :=
  let e := I.env0
  ⟨h.f, e.mod, e.bs, e.bsz, e.funs, e.frf, e.hok, e.bare⟩
theorem ar_loop {X : Cx} {k : Nat} {A : Around} {args : PySem.Args} (h : Ar X (k + 1) A) : Ar X k (A.under (.builtin "list.__repr__.loop" args)) where
  r := ⟨h.r.hd, by
    have := h.r.dp
    have e : (A.under (.builtin "list.__repr__.loop" args)).depth ≤ A.depth + 1 := by
      first | exact Nat.le_refl _ | exact Nat.le_succ _ | simp [Around.under, Code.weight, Code.isCreation, Code.isGuard, Code.isCaller, Code.frames, Code.isFrame, guardIds]
    omega, by have := h.r.un; rw [units_under_list_loop]; omega⟩
  f := by first | exact h.f | (simpa [Around.under, Code.envs, Code.isFrame, pushEnvs] using h.f)
theorem ar_tup {X : Cx} {k : Nat} {A : Around} {id : String} {args : PySem.Args} (h : Ar X (k + 1) A) (hi : id = "tuple.__repr__" ∨ id = "tuple.__repr__.under") : Ar X k (A.under (.builtin id args)) := by
  rcases hi with rfl | rfl
  · exact ⟨⟨h.r.hd, by
      have := h.r.dp
      have e : (A.under (.builtin "tuple.__repr__" args)).depth ≤ A.depth + 1 := by
        first | exact Nat.le_refl _ | exact Nat.le_succ _ | simp [Around.under, Code.weight, Code.isCreation, Code.isGuard, Code.isCaller, Code.frames, Code.isFrame, guardIds]
      omega, by have := h.r.un; rw [units_under_tuple_repr]; omega⟩, by first | exact h.f | (simpa [Around.under, Code.envs, Code.isFrame, pushEnvs] using h.f)⟩
  · exact ⟨⟨h.r.hd, by
      have := h.r.dp
      have e : (A.under (.builtin "tuple.__repr__.under" args)).depth ≤ A.depth + 1 := by
        first | exact Nat.le_refl _ | exact Nat.le_succ _ | simp [Around.under, Code.weight, Code.isCreation, Code.isGuard, Code.isCaller, Code.frames, Code.isFrame, guardIds]
      omega, by have := h.r.un; rw [units_under_tuple_repr_under]; omega⟩, by first | exact h.f | (simpa [Around.under, Code.envs, Code.isFrame, pushEnvs] using h.f)⟩
theorem ar_in1 {X : Cx} {k : Nat} {A : Around} (h : Ar X (k + 1) A) : Ar X k A.in1 := ⟨h.r.in1, h.f⟩
/-- d is written as t -/
def Wr (X : Cx) (k : Nat) (d : D) (t : Str) : Prop := ∀ (A : Around) (g : List Code) (W : Wd) (H : Hp) (pins : List (Addr × Obj)) (σ : L2.St) (s : Shared) (v : V) (u : Value) (base : Nat) (Q : Str → Shared → Prop) (E : Value → Shared → Prop), Ar X k A → A.guards = some g → Ok g W H → Inv X pins σ H s → Dn X.K W.I d v → RelV v u → base + t.length ≤ sizeLine →
  (∀ W' H' s', Stp W H W' H' → Ok g W' H' → Inv X pins σ H' s' → Q t s') → wpAny (model X.prog X.w) A (pyReprUnder base u) Q E s
section
variable {X : Cx} {k : Nat}
theorem wr_is {d : D} {t : Str} (h : ∀ K I v u, Dn K I d v → RelV v u → ReprIs X.prog X.w u t) : Wr X k d t := fun A g W H pins σ s v u base Q E hA hg ok I n r hb q =>
  h _ _ _ _ n r base hb A E s Q fun tk => q W H _ Stp.refl ok (I.tok tk)
theorem wr_int {i : Int} (hi : i.natAbs.log2 < 1920) : Wr X k (.int i) (toString i) := wr_is fun K I v u n r => by
  cases n
  obtain ⟨t, rfl⟩ := r
  exact ReprIs.int t hi
theorem Ok.swap {g : List Code} {W : Wd} {H : Hp} {id id' : String} {a : Addr} {r r' : List Value} {kw kw' : List (Str × Value)} (ok : Ok (.builtin id ⟨.ref a :: r, kw⟩ :: g) W H) : Ok (.builtin id' ⟨.ref a :: r', kw'⟩ :: g) W H where
  gd := fun b hb => by
    obtain ⟨i, rr, k, h⟩ := hb
    rcases List.mem_cons.mp h with e | h
    · cases e
      exact ok.gd _ ⟨id, r, kw, List.mem_cons_self⟩
    · exact ok.gd b ⟨i, rr, k, List.mem_cons_of_mem _ h⟩
  ex := ok.ex
  pot := ok.pot
theorem vals_strs : ∀ {ts : List Str} {its : List Value}, Vals (ts.map V.str) its → ∃ done : List (Str × Tok), its = strValues done ∧ done.map (·.1) = ts
  | [], _, .nil => ⟨[], rfl, rfl⟩
  | t :: ts, _, .cons ⟨tk, e⟩ r => by
    obtain ⟨done, e1, e2⟩ := vals_strs r
    subst e e1
    exact ⟨(t, tk) :: done, rfl, by rw [List.map_cons, e2]⟩
theorem dns_strs {K : PySem.W.Frag} {I : Hp} : ∀ {ts : List Str} {xs : List V}, Dns K I (ts.map D.str) xs → xs = ts.map V.str
  | [], _, .nil => rfl
  | t :: ts, _, .cons (.str _) r => by rw [List.map_cons, dns_strs r]
section
variable {A : Around} {g : List Code} {a P : Addr} {W1 : Wd} {H1 : Hp} {pins : List (Addr × Obj)} {σ : L2.St} {l : List D} {xs : List V} {ts : List Str} {base : Nat} {R : PySem.Result → Shared → Prop}
theorem wr_loop (hA : Ar X (k + 1) A) (hg : A.guards = some g) (ha : H1 a = some (.lst xs)) (nP : ¬ W1.P a) (hm : Dns X.K W1.I l xs) (hP : H1 P = none) (hlen : ts.length = l.length) (hl : l.length ≤ 1000)
    (hT : ∀ (i : Nat) d, l[i]? = some d → ∃ t, ts[i]? = some t ∧ Wr X k d t) (hsz : base + (listText ts).length ≤ sizeLine)
    (hR : ∀ W' H' s' u, Stp W1 H1 W' H' → (∀ r kw, Ok (.builtin "list.__repr__.loop" ⟨.ref a :: r, kw⟩ :: g) W' H') → Inv X pins σ H' s' → R (.ok (.ret (.str (listText ts) u))) s') :
    ∀ (n i : Nat) (s : Shared) (W : Wd) (H : Hp), l.length - i = n → i ≤ l.length → Mid X.K (.builtin "list.__repr__.loop" ⟨.ref a :: [], []⟩ :: g) W1 H1 P ((ts.take i).map D.str) W H → Inv X pins σ H s →
      codeAny (model X.prog X.w) A (.builtin "list.__repr__.loop" ⟨[.ref a, rawInt i, .ref P, rawInt ((base + piled (ts.take i) : Nat) : Int)], []⟩) R s := by
  have t0 := textFrom_len ts 0 "["
  have tx : (listText ts).length = (textFrom 0 "[" ts).length + 1 := by show (textFrom 0 "[" ts ++ "]").length = _; rw [strLen_append]; rfl
  have each : ∀ t ∈ ts, t.length ≤ sizeLine := fun t ht => by have := t0.2.1 t ht; omega
  have top := piled_le_listText ts
  intro n
  induction n with
  | zero =>
    intro i s W H hn hi m I
    have ei : i = l.length := by omega
    obtain ⟨_, its, n0, rv, _, get⟩ := I.lstM (m.st.keep a _ ha nP)
    have li : its.length = l.length := by rw [← rv.length, ← hm.length]
    refine codeAny_builtin F.entry_list_repr_loop ?_
    show wpAny _ _ («list.__repr__.loop» ⟨[.ref a, .int i 0, .ref P, .int ((base + piled (ts.take i) : Nat) : Int) 0], []⟩) _ _ s
    rw [repr_loop_tree]; refine wpAny_bind (wpAny_listItems get rfl ?_)
    have none_ : its.toArray[(i : Int).toNat]? = none := by simp; omega
    simp only [none_]; unfold reprEnd
    obtain ⟨ps, hp, dp⟩ := m.h
    obtain ⟨_, its2, n2, rv2, _, get2⟩ := I.lstM hp
    rw [dns_strs dp] at rv2
    obtain ⟨done, e1, e2⟩ := vals_strs rv2
    refine wpAny_bind (wpAny_listItems get2 rfl ?_)
    rw [show its2.toArray.toList = strValues done by simpa using e1, repr_fold]
    refine wpAny_bind (wpAny_pure ?_); rw [e2, ei, ← hlen, List.take_length]
    refine wpAny_bind (wpAny_mkStr (wpAny_pure ?_) (by show (listText ts).length ≤ sizeLine; omega))
    exact hR W H _ _ m.st (fun r kw => m.ok.swap) (I.tok _)
  | succ n ih =>
    intro i s W H hn hi m I
    have lt : i < l.length := by omega
    have el : l[i]? = some l[i] := List.getElem?_eq_getElem lt
    obtain ⟨t, et, wr⟩ := hT i _ el
    have p1 := piled_take_succ et
    have p2 := piled_take_le ts (i + 1)
    obtain ⟨_, its, n0, rv, _, get⟩ := I.lstM (m.st.keep a _ ha nP)
    obtain ⟨v, ev, dv⟩ := hm.get' el
    obtain ⟨u, eu, ru⟩ := rv.get ev
    refine codeAny_builtin F.entry_list_repr_loop ?_
    show wpAny _ _ («list.__repr__.loop» ⟨[.ref a, .int i 0, .ref P, .int ((base + piled (ts.take i) : Nat) : Int) 0], []⟩) _ _ s
    rw [repr_loop_tree]; refine wpAny_bind (wpAny_listItems get rfl ?_)
    have some_ : its.toArray[(i : Int).toNat]? = some u := by simpa using eu
    simp only [some_]; rw [Int.toNat_natCast]
    refine wpAny_bind (wpAny_holding (wr _ _ W H pins σ s v u (base + piled (ts.take i) + 1) _ _ (ar_loop hA) (guards_under_guard (isGuard_list_loop _) hg) m.ok.swap I (dv.mono m.st.I) ru (by omega) fun W2 H2 s2 st2 ok2 I2 => ?_))
    refine wpAny_bind (wpAny_mkStr ?_ (each t (List.mem_of_getElem? et)))
    have m2 := m.step st2 ok2.swap
    obtain ⟨ps, hp, dp⟩ := m2.h
    have lp := dp.length
    rw [List.length_map, List.length_take] at lp
    obtain ⟨_, its2, n2, rv2, l2, get2⟩ := I2.lstM hp
    have lq : its2.length ≤ 1000 := by rw [← l2]; omega
    obtain ⟨ps', hp', _, m3⟩ := m2.more (d := .str t) hP (.str t) (by rw [List.length_map, List.length_take]; omega)
    rw [hp] at hp'
    cases hp'
    refine wpAny_bind ?_; show wpAny _ _ (updateSeq P _) _ _ _
    refine wpAny_updateSeq get2 rfl (wpAny_pure ⟨F.quiet_list_repr_loop _, ?_⟩) (by rw [List.size_toArray]; exact Nat.le_trans lq (by decide))
    have I3 := I2.lset (its' := its2 ++ [.str t s2.toks]) (ys := ps ++ [V.str t]) (f := (·.push (.str t s2.toks))) (t' := s2.toks + 1) hp get2 (by simp) (rv2.append (.cons ⟨_, rfl⟩ .nil)) (by rw [List.length_append, List.length_singleton, l2]; exact Nat.le_trans (Nat.succ_le_succ lq) (by decide))
    have e3 : (ts.take i).map D.str ++ [D.str t] = (ts.take (i + 1)).map D.str := by rw [List.take_add_one, et, List.map_append]; rfl
    rw [e3] at m3
    have e4 : ((i : Int) + 1) = ((i + 1 : Nat) : Int) := by omega
    have e5 : base + piled (ts.take i) + (t.length + 2) = base + piled (ts.take (i + 1)) := by omega
    rw [e4, e5]
    exact ih (i + 1) _ _ _ (by omega) lt m3 I3
end
end
end DL

set_option Elab.async false
set_option linter.all false
set_option maxRecDepth 100000
set_option maxHeartbeats 4000000
namespace DL
open PySem PySem.Spec PyProof.Rows L2 Builtin Builtin.List
section
variable {X : Cx} {k : Nat}
theorem wr_lstBody {A : Around} {g : List Code} {l : List D} {ts : List Str} {a : Addr} {xs : List V} {W : Wd} {H : Hp} {pins : List (Addr × Obj)} {σ : L2.St} {s : Shared} {base : Nat} {R : PySem.Result → Shared → Prop} (hl : l.length ≤ 1000) (hA : Ar X (k + 1) A) (hg : A.guards = some g) (ok : Ok g W H) (I : Inv X pins σ H s) (ha : W.I a = some (.lst xs)) (hm : Dns X.K W.I l xs)
    (rp : Rps l) (hlen : ts.length = l.length) (hT : ∀ (i : Nat) d, l[i]? = some d → ∃ t, ts[i]? = some t ∧ Wr X k d t) (hb : base + (listText ts).length ≤ sizeLine) (q : ∀ W' H' s' u, Stp W H W' H' → Ok g W' H' → Inv X pins σ H' s' → R (.ok (.ret (.str (listText ts) u))) s') :
    wpAny (model X.prog X.w) A.in1 (Builtin.listReprAt base ⟨[.ref a], []⟩) (fun fin s' => match fin with | .done f => R (.ok f) s' | .again c' => c'.quiet = true ∧ codeAny (model X.prog X.w) A c' R s') (fun e s' => R (.error e) s') s := by
  have hH := ok.ex _ _ ha
  obtain ⟨_, its, n0, rv, le, get⟩ := I.lstM hH
  have nP : ¬ W.P a := fun z => by rw [(ok.pot a z).1] at ha; cases ha
  have clr : ∀ b, InG g b → b ≠ a := fun b z e => by rw [e] at z; rw [(ok.gd a z).1] at ha; cases ha
  cases its with
  | nil =>
    have l0 : l = [] := List.length_eq_zero_iff.mp (by rw [hm.length, le]; rfl)
    subst l0
    have t0 : ts = [] := List.length_eq_zero_iff.mp hlen
    subst t0
    exact wpAny_list_repr_empty get rfl (q W H _ _ Stp.refl ok (I.tok _))
  | cons x r =>
    refine wpAny_list_repr_head (A := A.in1) hg (fun v rest kw h => listSameRef_of_ne fun e => clr a ⟨_, rest, kw, e ▸ h⟩ rfl) get rfl ?_
    refine wpAny_bind (m := newList []) (wpAny_newObj_type ?_); refine wpAny_pure ⟨F.quiet_list_repr_loop _, ?_⟩
    have hP := I.fresh
    have ok1 : ∀ r kw, Ok (.builtin "list.__repr__.loop" ⟨.ref a :: r, kw⟩ :: g) ⟨del W.I a, W.P⟩ H := fun r kw => ok.write ha
    have I1 := I.lnew (its := []) (ys := []) (t' := s.toks) .nil (Nat.zero_le _)
    refine wr_loop (W1 := ⟨del W.I a, W.P⟩) (H1 := H) (xs := xs) (pins := pins) (σ := σ) hA hg hH nP (del_lst rp ha hm) hP hlen hl hT hb (fun W' H' s' u st okc I' => ?_) _ 0 _ ⟨del W.I a, W.P⟩ _ rfl (Nat.zero_le _) ⟨Stp.own hP, (ok1 [] []).own hP, (ok1 [] []).notP hP, (ok1 [] []).free hP, [], upd_same, .nil⟩ I1
    obtain ⟨st2, ok2⟩ := written_stp ok ha st (okc [] [])
    exact q _ _ _ u st2 ok2 I'
theorem wr_list {l : List D} {ts : List Str} (hl : l.length ≤ 1000) (rp : Rps l) (hlen : ts.length = l.length) (hT : ∀ (i : Nat) d, l[i]? = some d → ∃ t, ts[i]? = some t ∧ Wr X k d t) : Wr X (k + 1) (.lst l) (listText ts) := fun A g W H pins σ s v u base Q E hA hg ok I n r hb q => by
  cases n with
  | @lst _ a xs ha hm =>
    cases r
    obtain ⟨_, its, n0, rv, le, get⟩ := I.lstM (ok.ex _ _ ha)
    have ty : s.TypeIs (.ref a) "list" := ⟨_, get, rfl⟩
    refine wpAny_pyReprUnder_ref (by omega) ?_
    refine wpAny_pyReprObjUnder_twin (twin := "list.__repr__.under") ty F.slot_list_repr.toG rfl hA.r.units0 ?_
    refine call_twin_plain F.plain_list_repr_under F.entry_list_repr_under F.check_list_repr_under ty F.slot_list_repr.toG (F.args_list_repr_1 _) ?_
    exact wr_lstBody hl hA hg ok I ha hm rp hlen hT hb fun W' H' s' u st ok' I' => ⟨⟨_, _, rfl⟩, _, _, rfl, q _ _ _ st ok' I'⟩
theorem wr_fold {A : Around} {g : List Code} (hA : Ar X k A) (hg : A.guards = some g) {W1 : Wd} {H1 : Hp} {pins : List (Addr × Obj)} {σ : L2.St} {E : Value → Shared → Prop} : ∀ (l : List D) (xs : List V) (us : List Value) (ts : List Str) (acc : Array Str) (n : Nat) (s : Shared) (W : Wd) (H : Hp) (Q : (Array Str × Nat) → Shared → Prop),
    Dns X.K W1.I l xs → Vals xs us → ts.length = l.length → (∀ (i : Nat) d, l[i]? = some d → ∃ t, ts[i]? = some t ∧ Wr X k d t) → n + piled ts ≤ sizeLine → Stp W1 H1 W H → Ok g W H → Inv X pins σ H s →
    (∀ W' H' s', Stp W1 H1 W' H' → Ok g W' H' → Inv X pins σ H' s' → Q ⟨acc ++ ts.toArray, n + piled ts⟩ s') → wpAny (model X.prog X.w) A (forIn us (⟨acc, n⟩ : (Array Str × Nat)) tupBody) Q E s
  | [], _, _, ts, acc, n, s, W, H, Q, .nil, .nil, hlen, hT, hn, st, ok, I, q => by
    have t0 : ts = [] := List.length_eq_zero_iff.mp hlen
    subst t0
    simp only [List.forIn_nil]
    exact wpAny_pure (by simpa [piled] using q W H s st ok I)
  | d :: l, v :: xs, u :: us, [], acc, n, s, W, H, Q, .cons m ms, .cons r rs, hlen, hT, hn, st, ok, I, q => by cases hlen
  | d :: l, v :: xs, u :: us, t :: ts, acc, n, s, W, H, Q, .cons m ms, .cons r rs, hlen, hT, hn, st, ok, I, q => by
    rw [piled_cons] at hn
    rw [List.forIn_cons]
    obtain ⟨t', e, wr⟩ := hT 0 d rfl
    cases e
    refine wpAny_bind (wpAny_bind (wr A g W H pins σ s v u (n + 1) _ E hA hg ok I (m.mono st.I) r (by omega) fun W2 H2 s2 st2 ok2 I2 => wpAny_pure ?_))
    refine wr_fold hA hg l xs us ts (acc.push t) (n + (t.length + 2)) s2 W2 H2 Q ms rs (Nat.succ.inj hlen) (fun i d h => hT (i + 1) d h) (by omega) (st.trans ok st2) ok2 I2 fun W' H' s' st' ok' I' => ?_
    have h1 := q W' H' s' st' ok' I'
    have e : n + piled (t :: ts) = n + (t.length + 2) + piled ts := by rw [piled_cons]; omega
    rw [e] at h1
    simpa using h1
theorem wr_tupBody {A : Around} {g : List Code} {id : String} {rest : List Value} {l : List D} {ts : List Str} {a : Addr} {xs : List V} {W : Wd} {H : Hp} {pins : List (Addr × Obj)} {σ : L2.St} {s : Shared} {base : Nat} {R : PySem.Result → Shared → Prop} (hi : id = "tuple.__repr__" ∨ id = "tuple.__repr__.under") (hA : Ar X (k + 1) A) (hg : A.guards = some g) (ok : Ok g W H) (I : Inv X pins σ H s) (ha : W.I a = some (.tup xs)) (hm : Dns X.K W.I l xs)
    (rp : Rps l) (hlen : ts.length = l.length) (hT : ∀ (i : Nat) d, l[i]? = some d → ∃ t, ts[i]? = some t ∧ Wr X k d t) (hb : base + (tupleText ts).length ≤ sizeLine) (q : ∀ W' H' s' u, Stp W H W' H' → Ok g W' H' → Inv X pins σ H' s' → R (.ok (.ret (.str (tupleText ts) u))) s') :
    wpOwn (model X.prog X.w) A (.builtin id ⟨.ref a :: rest, []⟩) (Builtin.tupleReprAt base ⟨[.ref a], []⟩) (fun fin s' => match fin with | .done f => R (.ok f) s' | .again c' => c'.quiet = true ∧ codeAny (model X.prog X.w) A c' R s') (fun e s' => R (.error e) s') s := by
  have hH := ok.ex _ _ ha
  obtain ⟨its, rv, ⟨o, ho, hc, n0, hd⟩, _⟩ := I.tuple (SqT.of hH)
  have tl := piled_le_tupleText ts
  have li : its.length = ts.length := by rw [← rv.length, ← hm.length, hlen]
  have clr : Clear g a := clear_of fun z => by rw [(ok.gd a z).1] at ha; cases ha
  have hcg : (Code.builtin id ⟨.ref a :: rest, []⟩).isGuard = true := by
    rcases hi with rfl | rfl
    · exact isGuard_tuple_repr _
    · exact isGuard_tuple_repr_under _
  rw [tuple_repr_tree, tupleReprUnderWay_eq]; refine wpOwn_bind (wpOwn_stackTailAny hg (tupGuardF_off _) (tupGuardF_pos _) ?_)
  have no : (g.any fun c => tupGuardF (.ref a) (c, default)) = false := by
    rw [List.any_eq_false]; intro c hcm; rw [tupGuardF_of_clear clr c hcm]; exact Bool.false_ne_true
  rw [no]; refine wpOwn_of_wpAny ?_
  show wpAny _ _ (tupleReprRest base (.ref a)) _ _ s
  unfold tupleReprRest Builtin.Tuple.tupleItemsOf; refine wpAny_bind (wpAny_bind (wpAny_seqItems ho hd (wpAny_pure ?_)))
  rw [← Array.forIn_toList]
  refine wpAny_bind (wr_fold (W1 := ⟨del W.I a, W.P⟩) (H1 := H) (ar_tup hA hi) (guards_under_guard hcg hg) l xs its ts _ _ _ ⟨del W.I a, W.P⟩ H _ (del_tup rp ha hm) rv hlen hT (by omega) Stp.refl (ok.write ha) I fun W' H' s' st okc I' => ?_)
  refine wpAny_bind (wpAny_mkStr (wpAny_pure ?_) (by simpa [tupleText, li] using (show (tupleText ts).length ≤ sizeLine by omega)))
  obtain ⟨st2, ok2⟩ := written_stp ok ha st okc
  have z := q _ _ _ s'.toks st2 ok2 (I'.tok (s'.toks + 1))
  simpa [tupleText, li] using z
theorem wr_tup {l : List D} {ts : List Str} (rp : Rps l) (hlen : ts.length = l.length) (hT : ∀ (i : Nat) d, l[i]? = some d → ∃ t, ts[i]? = some t ∧ Wr X k d t) : Wr X (k + 1) (.tup l) (tupleText ts) := fun A g W H pins σ s v u base Q E hA hg ok I n r hb q => by
  cases n with
  | @tup _ a xs ha hm =>
    cases r
    obtain ⟨its, rv, ⟨o, ho, hc, n0, hd⟩, _⟩ := I.tuple (SqT.of (ok.ex _ _ ha))
    have ty : s.TypeIs (.ref a) "tuple" := ⟨o, ho, hc⟩
    refine wpAny_pyReprUnder_ref (by omega) ?_
    refine wpAny_pyReprObjUnder_twin (twin := "tuple.__repr__.under") ty F.slot_tuple_repr rfl hA.r.units0 ?_
    refine call_twin_own (F.quiet_tuple_repr_under _) F.entry_tuple_repr_under F.check_tuple_repr_under ty F.slot_tuple_repr (F.args_tuple_repr_1 _) ?_
    exact wr_tupBody (.inr rfl) hA hg ok I ha hm rp hlen hT hb fun W' H' s' u st ok' I' => ⟨⟨_, _, rfl⟩, _, _, rfl, q _ _ _ st ok' I'⟩
/-- an object by its own __repr__ -/
theorem wr_obj {C : Addr} {fs : List (Str × D)} {t : Str} {sp : SpD} (F : Sm X.prog X.w X.K X.mg X.base C "__repr__" k sp) (q : ∀ Q : D → Prop, Q (.str t) → sp [.val (.obj C fs)] Q) : Wr X k (.obj C fs) t := fun A g W H pins σ s v u base Q E hA hg ok I n r hb c => by
  cases id n with
  | @obj _ _ p _ _ ha _ =>
    have r' := r
    cases (show u = Value.ref p from r)
    obtain ⟨f, fd, ps, F, hf, hi, hbb⟩ := F.ex
    obtain ⟨ox, od, J⟩ := inst_at I (ok.ex _ _ ha)
    refine wpAny_pyReprUnder_ref (by omega) ?_
    unfold pyReprObjUnder pyReprObjBy
    refine wpAny_bind (wpAny_cRoomFor hA.r.units0 ?_); refine wpAny_bind (wpAny_bind (J.type.here ((PySem.W.looks_findIn I.kIn hf).here ?_)))
    show wpAny _ _ (if (some (Value.ref f)).isNone = true then _ else _) _ _ _
    rw [if_neg (by simp)]
    have run : wpAny (model X.prog X.w) A (call (.ref f) [.ref p]) (fun r s' => ∃ tk, r = .str t tk ∧ Q t s') E s := by
      have hsp : lift X.K sp g [.ref p] H (fun z H' => z = .str t ∧ ∀ s', Inv X pins σ H' s' → Q t s') :=
        ⟨_, W, fun d => d = .str t, ok, .cons (show Arg X.K W (.val (.obj C fs)) (.ref p) from n) .nil, q _ rfl, fun d v2 W' H' st ok' n' e => by
          subst e
          cases n'
          exact ⟨rfl, fun s' I' => c W' H' s' st ok' I'⟩⟩
      refine wpAny_call (run_gn (A := A) (us := [.ref p]) (vs := [.ref p]) F hA.r hg (hA.env I) hbb .nil I (.cons r' .nil) hsp fun u s' hv => ?_)
      obtain ⟨z, H', I3, rz, e, q3⟩ := hv
      subst e
      obtain ⟨tk, rfl⟩ := (show ∃ tk, u = Value.str t tk from rz)
      exact ⟨tk, rfl, q3 s' I3⟩
    have fin : wpAny (model X.prog X.w) A (call (.ref f) ([.ref p] ++ []) >>= fun v => pure (some v)) (fun r s' => ∃ tk, r = some (.str t tk) ∧ Q t s') E s := wpAny_bind (wpAny_mono run (fun r s' ⟨tk, e, q⟩ => wpAny_pure ⟨tk, by rw [e], q⟩) fun _ _ y => y)
    refine wpAny_bind (wpAny_mono (Q := fun r s' => ∃ tk, r = some (.str t tk) ∧ Q t s') ?_ (fun r s' ⟨tk, e, qq⟩ => ?_) fun _ _ y => y)
    · simp only [callSpecialIfBoundBy?, bindSpecialIfBound?]
      refine wpAny_holding (wpAny_bind (wpAny_bind (wpAny_bind (J.type.here ((PySem.W.looks_findIn I.kIn hf).here ?_)))))
      refine wpAny_bind (wpAny_askSetting (wpAny_ite ?_))
      split
      · exact wpAny_bind ((PySem.W.bind_fn I.kIn _ (beq_iff_eq.mp hi)).here (wpAny_pure (by exact fin)))
      · exact wpAny_tryCatch (wpAny_bind ((PySem.W.bind_fn I.kIn _ (beq_iff_eq.mp hi)).here (wpAny_pure (by exact fin))))
    · subst e
      refine wpAny_bind (wpAny_isInstance (typeIs_str _ _ _) isSubtype_str_str ?_)
      first
        | exact wpAny_pure ⟨_, _, rfl, qq⟩
        | (rw [if_pos rfl]; exact wpAny_pure ⟨_, _, rfl, qq⟩)
        | (simp only [if_true]; exact wpAny_pure ⟨_, _, rfl, qq⟩)
theorem ar_here {pins : List (Addr × Obj)} {σ : L2.St} {H : Hp} {s : Shared} (hr : Room (k + 1) X.A) (I : Inv X pins σ H s) : Ar X k X.A.in1 := ⟨hr.in1, I.env0.frames⟩
theorem cd_reprL {l : List D} {ts : List Str} {Q : D → Prop} (hr : Room (k + 2) X.A) (hG : X.A.guards = some (gOf X)) (hl : l.length ≤ 1000) (rp : Rps l) (hlen : ts.length = l.length) (hT : ∀ (i : Nat) d, l[i]? = some d → ∃ t, ts[i]? = some t ∧ Wr X k d t) (hb : (listText ts).length ≤ sizeLine) (q : Q (.str (listText ts))) : CD X (.builtin "repr") [.val (.lst l)] Q := fun vs W H ok ha R c pins s σ us I rv => by
  obtain ⟨v, rfl, n⟩ := one_arg ha
  cases rv with
  | cons r1 r2 =>
    cases r2
    cases n with
    | @lst _ a xs hI hm =>
      cases r1
      obtain ⟨_, its, n0, rv, le, get⟩ := I.lstM (ok.ex _ _ hI)
      have ty : s.TypeIs (.ref a) "list" := ⟨_, get, rfl⟩
      have u0 := hr.un
      refine call_repr_slot (by omega) ty F.slot_list_repr.toG (wpAny_call (codeAny_call_builtin F.slot_list_repr.plain F.entry_list_repr (F.slot_list_repr.check _ _ _ _ _ _ _ _ ty (F.args_list_repr_1 _) ?_)))
      exact wr_lstBody (base := 0) (R := callEnd (fun r s₁ => ∃ x t, r = .str x t ∧ EP X pins σ R r s₁) X.xe) hl (ar_here hr I) hG ok I hI hm rp hlen hT (by omega) fun W' H' s' u st ok' I' => ⟨_, _, rfl, .str _, H', I', ⟨u, rfl⟩, c (.str _) _ W' H' st ok' (.str _) q⟩
end
end DL

set_option Elab.async false
set_option linter.all false
set_option maxRecDepth 100000
set_option maxHeartbeats 4000000
/-! a dict literal, constants of the module, comprehensions over two ranges -/
namespace DL
open PySem PySem.Spec PyProof.Rows L2
theorem upd_upd {H : Hp} {p : Addr} {a b : HO} : upd (upd H p a) p b = upd H p b := funext fun c => by
  by_cases h : c = p
  · subst h; rw [upd_same, upd_same]
  · rw [upd_ne h, upd_ne h, upd_ne h]
section
variable {X : Cx} {B : Hp} {S : En} {pos : Pos} {Q : D → Prop} {e e1 : Expr} {x : Str}
theorem ed_dct1 {i j : Int} {a b p1 p2} (q : Q .dct) : ED X B S (.Dict [some (.Constant (.int i) a p1)] [.Constant (.int j) b p2] pos) Q := fun σ W H r R c => by
  refine PE.w (pe_disp (pps_cons pe_int (pe_int (i := j)) pps_nil) rfl rfl (by simp) (by show 1 ≤ 15; decide)) ?_
  intro p hp
  refine ⟨upd_same, [(Sum.inl i, .int j)], rfl, by show 1 ≤ 15; decide, ?_⟩
  rw [upd_upd]
  exact c _ _ _ _ (Stp.new r.ok hp) (r.ok.new hp) (.dct (show upd W.I p _ p = _ from upd_same)) q
theorem ed_globI {i : Int} {tk : Tok} (hm : X.mg x = some (.int i tk)) (q : Q (.int i)) (hg : Gl X x := by rfl) (hd : (x == ("__debug__" : Str)) = false := by decide) : ED X B S (.Name x pos) Q := fun σ W H r R c =>
  PE.w (pe_glob hg hm (v := .int i) ⟨tk, rfl⟩ hd) (c.now r.ok (.int i) q)
/-- [elt for g in range(e) for g1 in range(e1)] -/
theorem fd_lcRR {elt tg tg1 : Expr} {p1 pos1 p2 pos2 : Pos} {scope : Scope} {own : List (Str × Nat)} {vs1 : List Nat} {n : Int} {Q : List D → Prop} (m : Nat → Nat) (J : Nat → Nat → List D → Prop) (S1 : Nat → En) (S2 : Nat → Nat → En) {g g1 : TG} (hc : X.calm = true) (hN : X.N.Nodup) (hm : X.mg "range" = none) (ok : BlkOk X.N X.env.scope scope own) (hv : ∀ i ∈ vs1, i ∈ own.map (·.2))
    (hg : ∀ (s : Shared) (H : Hp) (C : Addr) (cl : List (Str × Addr)) (fp : List Addr), PG (X.blk s H scope (compEnvC scope cl C X.env) fp) tg g)
    (hg1 : ∀ (s : Shared) (H : Hp) (C : Addr) (cl : List (Str × Addr)) (fp : List Addr), PG (X.blk s H scope (compEnvC scope cl C X.env) fp) tg1 g1)
    (h : AD X B S [e] fun as => as = [.val (.int n)] ∧ -(2 ^ 62) ≤ n ∧ n ≤ 200 ∧ J 0 0 []) (hp : ∀ i : Nat, Pat X.K g (own.map (·.2)) S (.int i) (S1 i)) (hp1 : ∀ i j : Nat, Pat X.K g1 vs1 (S1 i) (.int j) (S2 i j))
    (hi : ∀ (i : Nat), (i : Int) < n → ∀ (s : Shared) (H0 : Hp) (C : Addr) (cl : List (Str × Addr)) (fp : List Addr), AD (X.blk s H0 scope (compEnvC scope cl C X.env) fp) B (S1 i) [e1] fun as => as = [.val (.int (m i : Int))] ∧ m i ≤ 200)
    (he : ∀ (i j : Nat) acc, (i : Int) < n → j < m i → J i j acc → ∀ (s : Shared) (H0 : Hp) (C : Addr) (cl : List (Str × Addr)) (fp : List Addr), ED (X.blk s H0 scope (compEnvC scope cl C X.env) fp) B (S2 i j) elt fun y => J i (j + 1) (acc ++ [y]))
    (hpl : ∀ i, PlainE (S1 i) = true) (hx : ∀ (i : Nat) acc, (i : Int) < n → J i (m i) acc → J (i + 1) 0 acc) (hd : ∀ acc, J n.toNat 0 acc → Q acc) (hl : ∀ i j acc, J i j acc → acc.length ≤ 50000) (hgl : Gl X "range" := by rfl) (hst : starEach [e] X.env = [(false, eval e X.env)] := by rfl)
    (hgl1 : ∀ (s : Shared) (H : Hp) (C : Addr) (cl : List (Str × Addr)) (fp : List Addr), Gl (X.blk s H scope (compEnvC scope cl C X.env) fp) "range" := by intros; rfl) (hst1 : ∀ (s : Shared) (H : Hp) (C : Addr) (cl : List (Str × Addr)) (fp : List Addr), starEach [e1] (X.blk s H scope (compEnvC scope cl C X.env) fp).env = [(false, eval e1 (X.blk s H scope (compEnvC scope cl C X.env) fp).env)] := by intros; rfl)
    (hs : ∀ x, foldedSetIterable (.Call (.Name "range" p1) [e] [] pos1) X.env x = pure x := by intro _; rfl) (hs1 : ∀ env x, foldedSetIterable (.Call (.Name "range" p2) [e1] [] pos2) env x = pure x := by intro _ _; rfl) :
    FD X B S (.ListComp elt [⟨tg, .Call (.Name "range" p1) [e] [] pos1, [], 0⟩, ⟨tg1, .Call (.Name "range" p2) [e1] [] pos2, [], 0⟩] scope pos) fun l => Q l := fun σ W H r R k => by
  refine PE.w (pe_lc2 (te := WEb X scope elt) (wi1 := iRng1 (fun σ H Q => ∀ (s : Shared) (H0 : Hp) (C : Addr) (cl : List (Str × Addr)) (fp : List Addr), WA (X.blk s H0 scope (compEnvC scope cl C X.env) fp) [e1] σ H Q)) hc hN (pi_range1 hgl hm wa_pa hst) ok hv hg (fun _ _ _ _ _ => pts_nil) (fun s H C cl fp => pi_range1 (hgl1 s H C cl fp) hm ⟨fun pos pins s2 _ _ _ I h => h s H C cl fp pos pins s2 I⟩ (hst1 s H C cl fp)) hg1 (fun _ _ _ _ _ => pts_nil) web_pe hs hs1) ?_
  refine h σ W H r _ fun as vs W1 H1 s1 ok1 n1 q1 => ?_
  obtain ⟨rfl, hz, hz2, j0⟩ := q1
  obtain ⟨v, rfl, mm⟩ := one_arg n1
  cases mm
  refine ⟨n, rfl, hz, by omega, fun p hp0 => ?_⟩
  have r1 := r.step s1 ok1
  refine ⟨fun i c H' => c = n.toNat - i ∧ i ≤ n.toNat ∧ ∃ acc W', Mid X.K (gOf X) W1 H1 p acc W' H' ∧ J i 0 acc, ⟨n.toNat, rfl, Nat.zero_le _, [], W1, ⟨Stp.own hp0, ok1.own hp0, ok1.notP hp0, ok1.free hp0, [], upd_same, .nil⟩, j0⟩, ?_⟩
  rintro i c H' ⟨rfl, hi', acc, W', mid, jj⟩
  by_cases lt : i < n.toNat
  · refine .inr ⟨lt, fun H' => ∃ acc W', Mid X.K (gOf X) W1 H1 p acc W' H' ∧ J (i + 1) 0 acc, fun H2 z => ⟨n.toNat - (i + 1), by omega, rfl, lt, z⟩, ?_⟩
    rintro x H2 ⟨rfl, rfl⟩
    rw [Int.zero_add]
    refine hp i (gOf X) B σ W' _ _ (r1.step mid.st mid.ok) (.int _) _ fun σ2 e2 r2 => ⟨e2, ?_⟩
    have ilt : (i : Int) < n := by omega
    unfold tYes
    refine iteT ?_
    intro s H0 C cl fp
    refine hi i ilt s H0 C cl fp σ2 W' _ r2 _ fun as vs W2 H2 s2 ok2 n2 q2 => ?_
    obtain ⟨rfl, hm2⟩ := q2
    obtain ⟨v, rfl, mm⟩ := one_arg n2
    cases mm
    refine ⟨(m i : Int), rfl, by omega, by omega, ?_⟩
    have mid2 := mid.step s2 ok2
    refine ⟨fun j c H' => c = m i - j ∧ j ≤ m i ∧ ∃ acc W', Mid X.K (gOf X) W1 H1 p acc W' H' ∧ Rep X.K (gOf X) B (S1 i) σ2 W' H' ∧ J i j acc, ⟨m i, rfl, Nat.zero_le _, acc, W2, mid2, r2.step s2 ok2, jj⟩, ?_⟩
    rintro j c H3 ⟨rfl, hj', acc, W3, mid3, r3, jj3⟩
    by_cases lt2 : j < m i
    · refine .inr ⟨by show j < (m i : Int).toNat; omega, fun H' => ∃ acc W', Mid X.K (gOf X) W1 H1 p acc W' H' ∧ Rep X.K (gOf X) B (S1 i) σ2 W' H' ∧ J i (j + 1) acc, fun H4 z => ⟨m i - (j + 1), by omega, rfl, lt2, z⟩, ?_⟩
      rintro x H4 ⟨rfl, rfl⟩
      have r4' := r3
      rw [Int.zero_add]
      refine hp1 i j (gOf X) B σ2 W3 _ _ r3 (.int _) _ fun σ3 e3 r4 => ⟨e3, ?_⟩
      refine iteT ?_
      show WEb X scope elt σ3 _ _
      intro s H0 C cl fp
      refine he i j acc ilt lt2 jj3 s H0 C cl fp σ3 W3 _ r4 _ fun y v W4 H5 s4 ok4 n4 q4 => ?_
      obtain ⟨xs', g1, g3, m3⟩ := (mid3.step s4 ok4).more hp0 n4 (by have := hl _ _ _ jj3; omega)
      exact ⟨xs', g1, g3, _, W4, m3, (r4'.step s4 ok4).base (hpl i) m3.ok r.gb, q4⟩
    · have ej : j = m i := by omega
      subst ej
      exact .inl ⟨by show (m i : Int).toNat ≤ m i; omega, acc, W3, mid3, hx i acc ilt jj3⟩
  · have ei : i = n.toNat := by omega
    subst ei
    refine .inl ⟨by show n.toNat ≤ n.toNat; exact Nat.le_refl _, ?_⟩
    obtain ⟨ys, hH, ds⟩ := mid.h
    exact k acc p ys W' H' (s1.trans ok1 mid.st) mid.ok (s1.free ok1 hp0) mid.n mid.i hH ds (hd acc jj)
end
end DL

set_option Elab.async false
set_option linter.all false
set_option maxRecDepth 100000
set_option maxHeartbeats 4000000
/-! comprehensions told by what each item must be -/
namespace DL
open PySem PySem.Spec PyProof.Rows L2
theorem Paired.snoc {α β : Type} {R : α → β → Prop} {x : α} {y : β} (h : R x y) : ∀ {l : List α} {m : List β}, Paired R l m → Paired R (l ++ [x]) (m ++ [y])
  | _, _, .nil => .cons h .nil
  | _, _, .cons a b => .cons a (Paired.snoc h b)
theorem paired_map {f : D → D} : ∀ {l out : List D}, Paired (fun d y => y = f d) l out → out = l.map f
  | _, _, .nil => rfl
  | _, _, .cons h t => by rw [List.map_cons, h, paired_map t]
/-- what stands in the slots when the item d has come to the name in slot j -/
abbrev itE (S : En) (own : List (Str × Nat)) (j : Nat) (d : D) : En := (wipeE S (own.map (·.2))).set j (some (.val d))
abbrev AllBlk (X : Cx) (scope : Scope) (R : Cx → Prop) : Prop := ∀ (s : Shared) (H0 : Hp) (C : Addr) (cl : List (Str × Addr)) (fp : List Addr), R (X.blk s H0 scope (compEnvC scope cl C X.env) fp)
section
variable {X : Cx} {B : Hp} {W0 : Wd} {S : En} {pos : Pos} {e e2 elt iter : Expr} {x : Str} {px : Pos} {scope : Scope} {own : List (Str × Nat)} {l l' : List D} {d0 : D} {Q : List D → Prop}
/-- [elt for x in a list or a tuple] -/
theorem fd_relS (G : D → D → Prop) (j : Nat) (hc : X.calm = true) (hN : X.N.Nodup) (ok : BlkOk X.N X.env.scope scope own) (hg : AllBlk X scope fun Y => PG Y (.Name x px) (gName j)) (sd : SeqD d0 l) (hl : l.length ≤ 50000) (hit : ED X B S iter fun d => d = d0) (hj : j ∈ own.map (·.2))
    (he : ∀ d ∈ l, AllBlk X scope fun Y => ED Y B (itE S own j d) elt (G d)) (hd : ∀ out, Paired G l out → Q out) (hs : ∀ x, foldedSetIterable iter X.env x = pure x := by intro _; rfl) : FD X B S (.ListComp elt [⟨.Name x px, iter, [], 0⟩] scope pos) Q := by
  have step : ∀ (i : Nat) d acc, l[i]? = some d → acc.length = i → Paired G (l.take i) acc → ∀ (s : Shared) (H0 : Hp) (C : Addr) (cl : List (Str × Addr)) (fp : List Addr), ED (X.blk s H0 scope (compEnvC scope cl C X.env) fp) B (itE S own j d) elt fun y => Paired G (l.take (i + 1)) (acc ++ [y]) := fun i d acc hi ha hp s H0 C cl fp => by
    intro σ W H r R k
    refine he d (List.mem_of_getElem? hi) s H0 C cl fp σ W H r R fun y v W' H' st ok n q => k y v W' H' st ok n ?_
    rw [List.take_add_one, hi]
    exact Paired.snoc q hp
  have fin : ∀ acc, acc.length = l.length → Paired G (l.take l.length) acc → Q acc := fun acc _ h => hd acc (by rw [List.take_length] at h; exact h)
  have start : ED X B S iter fun d => d = d0 ∧ l.length ≤ 50000 ∧ Paired G (l.take 0) [] := fun σ W H r R k => hit σ W H r R fun d v W' H' st ok n q => k d v W' H' st ok n ⟨q, hl, .nil⟩
  rcases sd with rfl | rfl
  · exact fd_lcL (fun i acc => Paired G (l.take i) acc) (fun d => itE S own j d) hc hN ok hg start (fun d _ => pat_name j hj) step fin hs
  · exact fd_lcT (fun i acc => Paired G (l.take i) acc) (fun d => itE S own j d) hc hN ok hg start (fun d _ => pat_name j hj) step fin hs
/-- what a range brings -/
def Outs (G : Nat → D → Prop) (n : Nat) (out : List D) : Prop := out.length = n ∧ ∀ i, i < n → ∃ y, out[i]? = some y ∧ G i y
theorem Outs.nil {G : Nat → D → Prop} : Outs G 0 [] := ⟨rfl, fun i h => absurd h (Nat.not_lt_zero _)⟩
theorem Outs.snoc {G : Nat → D → Prop} {n : Nat} {out : List D} {y : D} (h : Outs G n out) (g : G n y) : Outs G (n + 1) (out ++ [y]) := ⟨by simp [h.1], fun i hi => by
  by_cases c : i < n
  · obtain ⟨z, e, gz⟩ := h.2 i c
    exact ⟨z, by rw [List.getElem?_append_left (by rw [h.1]; exact c)]; exact e, gz⟩
  · have : i = n := by omega
    subst this
    exact ⟨y, by rw [List.getElem?_append_right (by rw [h.1]; exact Nat.le_refl _), h.1, Nat.sub_self]; rfl, g⟩⟩
/-- [elt for x in range(e)] -/
theorem fd_relR {p1 pos1 : Pos} {n : Nat} (G : Nat → D → Prop) (j : Nat) (hc : X.calm = true) (hN : X.N.Nodup) (hm : X.mg "range" = none) (ok : BlkOk X.N X.env.scope scope own) (hg : AllBlk X scope fun Y => PG Y (.Name x px) (gName j)) (hn : n ≤ 50000) (h : AD X B S [e] fun as => as = [.val (.int (n : Int))]) (hj : j ∈ own.map (·.2))
    (he : ∀ i, i < n → AllBlk X scope fun Y => ED Y B (itE S own j (.int (i : Int))) elt (G i)) (hd : ∀ out, Outs G n out → Q out) (hgl : Gl X "range" := by rfl) (hst : starEach [e] X.env = [(false, eval e X.env)] := by rfl)
    (hs : ∀ x, foldedSetIterable (.Call (.Name "range" p1) [e] [] pos1) X.env x = pure x := by intro _; rfl) : FD X B S (.ListComp elt [⟨.Name x px, .Call (.Name "range" p1) [e] [] pos1, [], 0⟩] scope pos) Q := by
  refine fd_lcR (n := (n : Int)) (fun i acc => Outs G i acc) (fun d => itE S own j d) hc hN hm ok hg ?_ (fun d => pat_name j hj) ?_ ?_ hgl hst hs
  · exact fun σ W H r R k => h σ W H r R fun as vs W' H' st ok n q => k as vs W' H' st ok n ⟨q, by omega, by omega, .nil⟩
  · intro i acc hi ha o s H0 C cl fp σ W H r R k
    exact he i (by omega) s H0 C cl fp σ W H r R fun y v W' H' st ok n q => k y v W' H' st ok n (o.snoc q)
  · intro acc _ o
    exact hd acc (by rw [Int.toNat_natCast] at o; exact o)
/-- [elt for x, y in zip(e, e2)], both as long -/
theorem fd_relZ {y : Str} {py tpos p1 pos1 : Pos} {kk : Nat} {d1 : D} (G : D → D → D → Prop) (i j : Nat) (hc : X.calm = true) (hN : X.N.Nodup) (hm : X.mg "zip" = none) (ok : BlkOk X.N X.env.scope scope own) (hg : AllBlk X scope fun Y => PG Y (.Tuple [.Name x px, .Name y py] kk tpos) (gTup X.K 2 (gCons (gName i) (gCons (gName j) gNil)))) (hll : l.length = l'.length) (hl : l.length ≤ 50000) (sd : SeqD d0 l) (sd1 : SeqD d1 l')
    (h : AD X B S [e, e2] fun as => as = [.val d0, .val d1]) (hi : i ∈ own.map (·.2)) (hj : j ∈ own.map (·.2)) (he : ∀ (n : Nat) d d', l[n]? = some d → l'[n]? = some d' → AllBlk X scope fun Y => ED Y B ((itE S own i d).set j (some (.val d'))) elt (G d d'))
    (hd : ∀ out, out.length = l.length → (∀ (n : Nat) d d' z, l[n]? = some d → l'[n]? = some d' → out[n]? = some z → G d d' z) → Q out) (hgl : Gl X "zip" := by rfl)
    (hst : starEach [e, e2] X.env = (false, eval e X.env) :: starEach [e2] X.env := by rfl) (hpl : (backTo pos1 (starEach [e2] X.env)).any (·.1) = false := by rfl)
    (hs : ∀ x, foldedSetIterable (.Call (.Name "zip" p1) [e, e2] [] pos1) X.env x = pure x := by intro _; rfl) : FD X B S (.ListComp elt [⟨.Tuple [.Name x px, .Name y py] kk tpos, .Call (.Name "zip" p1) [e, e2] [] pos1, [], 0⟩] scope pos) Q := by
  refine fd_lcZ l l' (fun m acc => acc.length = m ∧ ∀ (n : Nat) d d' z, l[n]? = some d → l'[n]? = some d' → acc[n]? = some z → G d d' z) (fun d d' => (itE S own i d).set j (some (.val d'))) hc hN hm ok hg ?_ (fun d d' => pat_two i j hi hj) ?_ ?_ hgl hst hpl hs
  · exact fun σ W H r R k => h σ W H r R fun as vs W' H' st ok n q => k as vs W' H' st ok n ⟨d0, d1, q, sd, sd1, hl, rfl, fun n d d' z _ _ e => by simp at e⟩
  · intro m d d' acc h1 h2 ha ⟨_, o⟩ s H0 C cl fp σ W H r R k
    refine he m d d' h1 h2 s H0 C cl fp σ W H r R fun y v W' H' st ok n q => k y v W' H' st ok n ⟨by simp [ha], fun n a b z e1 e2 e3 => ?_⟩
    by_cases c : n < m
    · rw [List.getElem?_append_left (by omega)] at e3
      exact o n a b z e1 e2 e3
    · rw [List.getElem?_append_right (by omega)] at e3
      have : n = m := by
        rcases Nat.lt_or_ge m n with z | z
        · rw [List.getElem?_eq_none (show [y].length ≤ n - acc.length by show 1 ≤ _; omega)] at e3
          cases e3
        · omega
      subst this
      rw [ha, Nat.sub_self] at e3
      cases e3
      rw [h1] at e1
      rw [h2] at e2
      cases e1
      cases e2
      exact q
  · intro acc m ha ⟨_, o⟩ h1 h2 h3
    exact hd acc (by omega) o
theorem td_chain {op op' : CmpOp} {a b c : Expr} {QB : Bool → Prop} (h : ED X B S a fun x => ED X B S b fun y => OD X (compareOp op) x y fun z => ∃ k, z = .bl k ∧ if k = true then ED X B S c fun w => OD X (compareOp op') y w fun z => ∃ k, z = .bl k ∧ QB k else QB false)
    (hm : lastMarks [op, op'] [b, c] = false := by rfl) : TD X B S (.Compare a [op, op'] [b, c] pos) QB := fun σ W H r R k => by
  refine PT.w (pt_chain wo_op wo_op we_pe we_pe we_pe hm) ?_
  refine h σ W H r _ fun d v W1 H1 s1 ok1 n1 q1 => ?_
  refine q1 σ W1 H1 (r.step s1 ok1) _ fun d2 u W2 H2 s2 ok2 n2 q2 => ?_
  refine q2 v u W2 H2 ok2 (n1.mono s2.I) n2 _ fun d3 z W3 H3 s3 ok3 n3 q3 => ?_
  obtain ⟨t, e, q3⟩ := q3
  subst e
  cases n3
  have k3 := ((k.step s1 ok1).step s2 ok2).step s3 ok3
  refine ⟨t, rfl, ?_⟩
  cases t with
  | false => exact iteF ⟨false, rfl, k3.now ok3 (by simpa using q3)⟩
  | true =>
    have q3 : ED X B S c fun w => OD X (compareOp op') d2 w fun z => ∃ k, z = .bl k ∧ QB k := by simpa using q3
    refine iteT (q3 σ W3 H3 (((r.step s1 ok1).step s2 ok2).step s3 ok3) _ fun d4 w' W4 H4 s4 ok4 n4 q4 => ?_)
    refine q4 u w' W4 H4 ok4 ((n2.mono s3.I).mono s4.I) n4 _ fun d5 z W5 H5 s5 ok5 n5 q5 => ?_
    obtain ⟨t, e, q5⟩ := q5
    subst e
    cases n5
    exact ⟨t, rfl, ((k3.step s4 ok4).step s5 ok5).now ok5 q5⟩
/-- for x in range(e), how often is not known ahead -/
theorem sd_forRn {tg a : Expr} {p pos1 : Pos} {N : Nat} {body : List Stmt} {E : Ends'} (hp : PassesOwn (model X.prog X.w) X.A X.env X.xe) (hc : X.calm = true) (hm : X.mg "range" = none) (Inv : Nat → En → Prop) (h : AD X B S [a] fun as => ∃ n : Nat, as = [.val (.int (n : Int))] ∧ n ≤ N ∧ n ≤ 50000 ∧ Inv 0 S)
    (hs : ∀ (i : Nat) S', i < N → Inv i S' → GD X B W0 S' tg (.int i) fun S2 => SDs X B W0 S2 body { nx := Inv (i + 1), rt := E.rt, bk := E.nx, ct := Inv (i + 1) })
    (hd : ∀ (n : Nat) S', n ≤ N → Inv n S' → E.nx S') (hg : Gl X "range" := by rfl) (hst : starEach [a] X.env = [(false, eval a X.env)] := by rfl) (hf : ∀ x, foldedSetIterable (.Call (.Name "range" p) [a] [] pos1) X.env x = pure x := by intro _; rfl) : SD X B W0 S (.For tg (.Call (.Name "range" p) [a] [] pos1) body [] pos) E := fun σ W H r z D' k => by
  refine PS.w (ps_for hp hc (pi_range1 hg hm wa_pa hst) wg_pg wss_pss hf) ?_
  refine h σ W H r _ fun as vs W1 H1 s1 ok1 n1 q1 => ?_
  obtain ⟨n, rfl, hn, hn2, i0⟩ := q1
  obtain ⟨v, rfl, m⟩ := one_arg n1
  cases m
  refine ⟨(n : Int), rfl, by omega, by omega, for_range (lo := 0) (n := (n : Int).toNat) (fun i σ' H' => ∃ S' W', Rep X.K (gOf X) B S' σ' W' H' ∧ Stp W0 B W' H' ∧ Ex W1.I W'.I ∧ Inv i S') ⟨S, W1, r.step s1 ok1, z.trans r.ok s1, Ex.refl _, i0⟩ ?_ ?_⟩
  · rintro i σ' H' hi ⟨S', W', r', z', e', i'⟩
    rw [Int.zero_add]
    refine hs i S' (by omega) i' σ' W' H' _ r' z' (.int _) _ fun S2 σ2 W2 H2 r2 z2 e2 q2 => ?_
    exact q2 σ2 W2 H2 r2 z2 _ ⟨fun S3 σ3 W3 H3 r3 z3 e3 q3 => ⟨S3, W3, r3, z3, (e'.trans e2).trans e3, q3⟩, fun d3 v3 W3 H3 r3 z3 e3 n3 q3 => k.rt d3 v3 W3 H3 r3 z3 (((s1.I.trans e').trans e2).trans e3) n3 q3,
      fun S3 σ3 W3 H3 r3 z3 e3 q3 => k.nx S3 σ3 W3 H3 r3 z3 (((s1.I.trans e').trans e2).trans e3) q3, fun S3 σ3 W3 H3 r3 z3 e3 q3 => ⟨S3, W3, r3, z3, (e'.trans e2).trans e3, q3⟩⟩
  · rintro σ' H' ⟨S', W', r', z', e', i'⟩
    rw [Int.toNat_natCast] at i'
    exact k.nx S' σ' W' H' r' z' (s1.I.trans e') (hd n S' hn i')
end
end DL

set_option Elab.async false
set_option linter.all false
set_option maxRecDepth 100000
set_option maxHeartbeats 4000000
/-! a name = [.. for x, y in zip(..)] -/
namespace DL
open PySem PySem.Spec PyProof.Rows L2
section
variable {X : Cx} {B : Hp} {W0 : Wd} {S : En} {pos : Pos} {e e2 : Expr} {x : Str} {px : Pos} {own : List (Str × Nat)} {scope : Scope} {elt : Expr} {l l' : List D} {d0 : D}
theorem lc_Z {g : TG} {Q : List D → Prop} (l l' : List D) (J : Nat → List D → Prop) (S' : D → D → En)
    (h : AD X B S [e, e2] fun as => ∃ d d', as = [.val d, .val d'] ∧ SeqD d l ∧ SeqD d' l' ∧ l.length ≤ 50000 ∧ J 0 []) (hp : ∀ d d', Pat X.K g (own.map (·.2)) S (.tup [d, d']) (S' d d'))
    (he : ∀ (i : Nat) d d' acc, l[i]? = some d → l'[i]? = some d' → acc.length = i → J i acc → ∀ (s : Shared) (H0 : Hp) (C : Addr) (cl : List (Str × Addr)) (fp : List Addr), ED (X.blk s H0 scope (compEnvC scope cl C X.env) fp) B (S' d d') elt fun y => J (i + 1) (acc ++ [y]))
    (hd : ∀ acc i, acc.length = i → J i acc → i ≤ l.length → i ≤ l'.length → (l.length ≤ i ∨ l'.length ≤ i) → Q acc) : LC X B S (tLc (iZm X.K (WA X [e, e2])) g tYes (WEb X scope elt) (own.map (·.2))) Q := fun σ W H r R k => by
  refine h σ W H r _ fun as vs W1 H1 s1 ok1 n1 q1 => ?_
  obtain ⟨d, d', rfl, sd, sd', hz, j0⟩ := q1
  obtain ⟨v, v', rfl, m, m'⟩ := two_args n1
  obtain ⟨t, a, xs, rfl, w, hx⟩ := sd.at m
  obtain ⟨u, b, ys, rfl, w', hy⟩ := sd'.at m'
  refine ⟨t, u, a, b, xs, ys, rfl, hx _ ok1.ex, hy _ ok1.ex, fun p hp0 => ?_⟩
  have r1 := r.step s1 ok1
  refine ⟨fun i n H' => n = xs.length - i ∧ i ≤ xs.length ∧ i ≤ ys.length ∧ ∃ acc W', Mid X.K (gOf X) W1 H1 p acc W' H' ∧ acc.length = i ∧ J i acc, ⟨xs.length, rfl, Nat.zero_le _, Nat.zero_le _, [], W1, ⟨Stp.own hp0, ok1.own hp0, ok1.notP hp0, ok1.free hp0, [], upd_same, .nil⟩, rfl, j0⟩, ?_⟩
  rintro i n H' ⟨rfl, lx, ly, acc, W', mm, hl, j⟩
  have qx := hx H' fun c o z => mm.ok.ex _ _ (mm.st.I _ _ z)
  have qy := hy H' fun c o z => mm.ok.ex _ _ (mm.st.I _ _ z)
  by_cases c : i < xs.length ∧ i < ys.length
  · have ex : xs[i]? = some xs[i] := List.getElem?_eq_getElem c.1
    have ey : ys[i]? = some ys[i] := List.getElem?_eq_getElem c.2
    refine .inr ⟨⟨xs, ys, _, _, qx, qy, ex, ey⟩, fun H' => ∃ acc W', Mid X.K (gOf X) W1 H1 p acc W' H' ∧ acc.length = i + 1 ∧ J (i + 1) acc, fun H2 z => ⟨xs.length - (i + 1), by omega, rfl, c.1, c.2, z⟩, ?_⟩
    rintro x H2 ⟨T, x1, y1, rfl, hT, rfl, f1, f2⟩
    have e1 := f1 xs qx
    have e2 := f2 ys qy
    obtain ⟨d1, hd1, nd1⟩ := w.get e1
    obtain ⟨d2, hd2, nd2⟩ := w'.get e2
    have sn := Stp.new (o := .tup [x1, y1]) mm.ok hT
    have okn := mm.ok.new (o := .tup [x1, y1]) hT
    have mn := mm.step sn okn
    have nt : Dn X.K (W'.new T (.tup [x1, y1])).I (.tup [d1, d2]) (.ref T) := .tup upd_same (.cons ((nd1.mono mm.st.I).mono sn.I) (.cons ((nd2.mono mm.st.I).mono sn.I) .nil))
    refine hp d1 d2 (gOf X) B σ _ _ _ ((r1.step mm.st mm.ok).step sn okn) nt _ fun σ2 e3 r3 => ⟨e3, ?_⟩
    show WEb X scope elt σ2 _ _
    intro s H0 C cl fp
    refine he i d1 d2 acc hd1 hd2 hl j s H0 C cl fp σ2 _ _ r3 _ fun y v W2 H3 s2 ok2 n2 q2 => ?_
    have li : i < l.length := by rw [w.length]; exact c.1
    obtain ⟨xs', g1, g3, m3⟩ := (mn.step s2 ok2).more hp0 n2 (by omega)
    exact ⟨xs', g1, g3, _, W2, m3, by simp [hl], q2⟩
  · refine .inl ⟨⟨xs, ys, qx, qy, by omega⟩, ?_⟩
    obtain ⟨zs, hH, ds⟩ := mm.h
    refine k acc p zs W' H' (s1.trans ok1 mm.st) mm.ok (s1.free ok1 hp0) mm.n mm.i hH ds (hd acc i hl j ?_ ?_ ?_)
    · rw [w.length]; exact lx
    · rw [w'.length]; exact ly
    · rw [w.length, w'.length]; omega

theorem lc_relZ {Q : List D → Prop} {d1 : D} (G : D → D → D → Prop) (i j : Nat) (hll : l.length = l'.length) (hl : l.length ≤ 50000) (sd : SeqD d0 l) (sd1 : SeqD d1 l')
    (h : AD X B S [e, e2] fun as => as = [.val d0, .val d1]) (hi : i ∈ own.map (·.2)) (hj : j ∈ own.map (·.2)) (he : ∀ (n : Nat) d d', l[n]? = some d → l'[n]? = some d' → AllBlk X scope fun Y => ED Y B ((itE S own i d).set j (some (.val d'))) elt (G d d'))
    (hd : ∀ out, out.length = l.length → (∀ (n : Nat) d d' z, l[n]? = some d → l'[n]? = some d' → out[n]? = some z → G d d' z) → Q out) : LC X B S (tLc (iZm X.K (WA X [e, e2])) (gTup X.K 2 (gCons (gName i) (gCons (gName j) gNil))) tYes (WEb X scope elt) (own.map (·.2))) Q := by
  refine lc_Z l l' (fun m acc => acc.length = m ∧ ∀ (n : Nat) d d' z, l[n]? = some d → l'[n]? = some d' → acc[n]? = some z → G d d' z) (fun d d' => (itE S own i d).set j (some (.val d'))) ?_ (fun d d' => pat_two i j hi hj) ?_ ?_
  · exact fun σ W H r R k => h σ W H r R fun as vs W' H' st ok n q => k as vs W' H' st ok n ⟨d0, d1, q, sd, sd1, hl, rfl, fun n d d' z _ _ e => by simp at e⟩
  · intro m d d' acc h1 h2 ha ⟨_, o⟩ s H0 C cl fp σ W H r R k
    refine he m d d' h1 h2 s H0 C cl fp σ W H r R fun y v W' H' st ok n q => k y v W' H' st ok n ⟨by simp [ha], fun n a b z e1 e2 e3 => ?_⟩
    by_cases c : n < m
    · rw [List.getElem?_append_left (by omega)] at e3
      exact o n a b z e1 e2 e3
    · rw [List.getElem?_append_right (by omega)] at e3
      have : n = m := by
        rcases Nat.lt_or_ge m n with z | z
        · rw [List.getElem?_eq_none (show [y].length ≤ n - acc.length by show 1 ≤ _; omega)] at e3
          cases e3
        · omega
      subst this
      rw [ha, Nat.sub_self] at e3
      cases e3
      rw [h1] at e1
      rw [h2] at e2
      cases e1
      cases e2
      exact q
  · intro acc m ha ⟨_, o⟩ h1 h2 h3
    exact hd acc (by omega) o
end
end DL

set_option Elab.async false
set_option linter.all false
set_option maxRecDepth 100000
set_option maxHeartbeats 4000000
/-! a text times an int -/
namespace DL
open PySem PySem.Spec PyProof.Rows L2
theorem fold_size (c : Array Nat) : ∀ (n : Nat) (acc : Array Nat), ((List.replicate n c).foldl (· ++ ·) acc).size = acc.size + n * c.size
  | 0, acc => by simp
  | n + 1, acc => by
    rw [List.replicate_succ, List.foldl_cons, fold_size c n, Array.size_append, Nat.succ_mul]
    omega
theorem op_repS {X : Cx} : OpR X (binaryOp .Mult) (fun x y H Q => ∃ i k, x = .str i ∧ y = .int k ∧ i.length = 1 ∧ 1 ≤ k ∧ k ≤ 1000 ∧ ∀ t, Q (.str t) H) := by
  intro pins s σ H x y v u Q I rx ry h
  obtain ⟨i, k, rfl, rfl, hl, h1, h2, q⟩ := h
  obtain ⟨t, rfl⟩ := rx
  obtain ⟨t', rfl⟩ := ry
  refine PySem.P.mul_str ?_ ?_ ?_ ?_
  · rw [decide_eq_false (by omega), decide_eq_false (by omega)]; rfl
  · intro _ _
    rw [hl]
    have : (1 : Int) ≤ (2 ^ 63 - 1) / k := Int.le_ediv_of_mul_le (by omega) (by omega)
    omega
  · intro _ _
    rw [hl]
    exact decide_eq_false (by have : k.toNat ≤ 1000 := by omega
                              have : (1000 : Nat) < sizeLine := by decide
                              omega)
  · rw [if_neg (by omega)]
    split
    · exact ⟨.str i, H, I, ⟨_, rfl⟩, q _⟩
    · refine ⟨?_, ⟨.str _, H, I.tok _, ⟨_, rfl⟩, q _⟩⟩
      show Array.size _ ≤ _
      rw [fold_size]
      have e : i.cps.size = 1 := hl
      rw [e]
      have : k.toNat ≤ 1000 := by omega
      have : (1000 : Nat) < sizeLine := by decide
      show 0 + _ ≤ _
      omega
theorem od_repS {X : Cx} {Q : D → Prop} {s : Str} {k : Int} (hl : s.length = 1) (h1 : 1 ≤ k) (h2 : k ≤ 1000) (q : ∀ t, Q (.str t)) : OD X (binaryOp .Mult) (.str s) (.int k) Q := by
  refine od_of op_repS fun v u W H ok a b R c => ?_
  cases a; cases b
  exact ⟨s, k, rfl, rfl, hl, h1, h2, fun t => c.now ok (.str _) (q t)⟩
end DL

set_option Elab.async false
set_option linter.all false
set_option maxRecDepth 100000
set_option maxHeartbeats 2000000
/-! k31: the text by places, the data, the promises -/
namespace K31
open PySem L2 DL
def top (i : Nat) : Stmt := PySem.Challenge.pw_onecrest_k31_tables_by_plain_sums.main.body.getD i (.Pass ⟨0, 0, 0, 0⟩)
abbrev sIsInt : Stmt := top 3
abbrev sIsList : Stmt := top 4
abbrev rat (j : Nat) : Stmt := inClass (top 11) j
abbrev sIsNumber : Stmt := top 12
abbrev sRatioOf : Stmt := top 14
/-! ### fractions -/
abbrev Fr := Int × Int
/-- the common part, with the sign of the bottom -/
def gs (t b : Int) : Int := if b > 0 then (Nat.gcd t.natAbs b.natAbs : Int) else -(Nat.gcd t.natAbs b.natAbs : Int)
def low (t b : Int) : Fr := (t.fdiv (gs t b), b.fdiv (gs t b))
/-- a fraction as it is held: below 2 ^ n, the bottom above 0 -/
structure Bd (n : Nat) (p : Fr) : Prop where
  t : p.1.natAbs < 2 ^ n
  b : p.2.natAbs < 2 ^ n
  pos : 0 < p.2
theorem gs_ne {t b : Int} (h : b ≠ 0) : gs t b ≠ 0 := by
  have g : 0 < Nat.gcd t.natAbs b.natAbs := Nat.gcd_pos_of_pos_right _ (by omega)
  unfold gs
  split <;> omega
theorem gs_dvd_t {t b : Int} : gs t b ∣ t := by
  have h : ((Nat.gcd t.natAbs b.natAbs : Nat) : Int) ∣ t := Int.ofNat_dvd_left.mpr (Nat.gcd_dvd_left _ _)
  unfold gs
  split
  · exact h
  · exact Int.neg_dvd.mpr h
theorem gs_dvd_b {t b : Int} : gs t b ∣ b := by
  have h : ((Nat.gcd t.natAbs b.natAbs : Nat) : Int) ∣ b := Int.ofNat_dvd_left.mpr (Nat.gcd_dvd_right _ _)
  unfold gs
  split
  · exact h
  · exact Int.neg_dvd.mpr h
theorem fdiv_small {x d : Int} (h : d ∣ x) : (x.fdiv d).natAbs ≤ x.natAbs := by
  rw [Int.fdiv_eq_ediv_of_dvd h]
  obtain ⟨c, rfl⟩ := h
  by_cases z : d = 0
  · subst z; simp
  · rw [Int.mul_ediv_cancel_left _ z, Int.natAbs_mul]
    exact Nat.le_mul_of_pos_left _ (by omega)
theorem low_pos {t b : Int} (h : b ≠ 0) : 0 < (low t b).2 := by
  show 0 < b.fdiv (gs t b)
  have d := gs_dvd_b (t := t) (b := b)
  have n := gs_ne (t := t) h
  rw [Int.fdiv_eq_ediv_of_dvd d]
  obtain ⟨c, hc⟩ := d
  have e : b / gs t b = c := by
    conv => lhs; lhs; rw [hc]
    exact Int.mul_ediv_cancel_left _ n
  rw [e]
  have g : 0 < Nat.gcd t.natAbs b.natAbs := Nat.gcd_pos_of_pos_right _ (by omega)
  by_cases p : b > 0
  · have e2 : gs t b = (Nat.gcd t.natAbs b.natAbs : Int) := by unfold gs; rw [if_pos p]
    rw [e2] at hc
    by_cases q : 0 < c
    · exact q
    · have : (Nat.gcd t.natAbs b.natAbs : Int) * c ≤ 0 := Int.mul_nonpos_of_nonneg_of_nonpos (by omega) (by omega)
      omega
  · have e2 : gs t b = -(Nat.gcd t.natAbs b.natAbs : Int) := by unfold gs; rw [if_neg p]
    rw [e2] at hc
    by_cases q : 0 < c
    · exact q
    · have : 0 ≤ -(Nat.gcd t.natAbs b.natAbs : Int) * c := Int.mul_nonneg_of_nonpos_of_nonpos (by omega) (by omega)
      omega
theorem low_bd {n : Nat} {t b : Int} (h : b ≠ 0) (ht : t.natAbs < 2 ^ n) (hb : b.natAbs < 2 ^ n) : Bd n (low t b) :=
  ⟨Nat.lt_of_le_of_lt (fdiv_small gs_dvd_t) ht, Nat.lt_of_le_of_lt (fdiv_small gs_dvd_b) hb, low_pos h⟩
theorem low_gcd {t b : Int} (h : b ≠ 0) : Nat.gcd (low t b).1.natAbs (low t b).2.natAbs = 1 := by
  show Nat.gcd (t.fdiv (gs t b)).natAbs (b.fdiv (gs t b)).natAbs = 1
  have g : 0 < Nat.gcd t.natAbs b.natAbs := Nat.gcd_pos_of_pos_right _ (by omega)
  have e : (gs t b).natAbs = Nat.gcd t.natAbs b.natAbs := by
    unfold gs
    split <;> omega
  have key : ∀ x : Int, gs t b ∣ x → (x.fdiv (gs t b)).natAbs = x.natAbs / Nat.gcd t.natAbs b.natAbs := fun x hx => by
    rw [Int.fdiv_eq_ediv_of_dvd hx, ← e]
    obtain ⟨c, rfl⟩ := hx
    have n := gs_ne (t := t) h
    rw [Int.mul_ediv_cancel_left _ n, Int.natAbs_mul, Nat.mul_div_cancel_left _ (by omega)]
  rw [key t gs_dvd_t, key b gs_dvd_b]
  rw [Nat.gcd_div (Nat.gcd_dvd_left _ _) (Nat.gcd_dvd_right _ _)]
  exact Nat.div_self g
/-- what is in lowest terms stays -/
theorem low_id {t b : Int} (hb : 0 < b) (h : Nat.gcd t.natAbs b.natAbs = 1) : low t b = (t, b) := by
  have e : gs t b = 1 := by unfold gs; rw [if_pos hb, h]; rfl
  unfold low
  rw [e, Int.fdiv_one, Int.fdiv_one]
theorem low_one (n : Int) : low n 1 = (n, 1) := low_id (by decide) (Nat.gcd_one_right _)
theorem mul_bd {a b : Int} {m n : Nat} (h : a.natAbs < 2 ^ m) (k : b.natAbs < 2 ^ n) : (a * b).natAbs < 2 ^ (m + n) := by
  rw [Int.natAbs_mul, Nat.pow_add]
  exact Nat.mul_lt_mul'' h k
theorem add_bd {a b : Int} {m : Nat} (h : a.natAbs < 2 ^ m) (k : b.natAbs < 2 ^ m) : (a + b).natAbs < 2 ^ (m + 1) := by
  have := Int.natAbs_add_le a b
  rw [Nat.pow_succ]
  omega
theorem sub_bd {a b : Int} {m : Nat} (h : a.natAbs < 2 ^ m) (k : b.natAbs < 2 ^ m) : (a - b).natAbs < 2 ^ (m + 1) := by
  have := Int.natAbs_sub_le a b
  rw [Nat.pow_succ]
  omega
theorem bd_mono {a : Int} {m n : Nat} (h : a.natAbs < 2 ^ m) (k : m ≤ n) : a.natAbs < 2 ^ n := Nat.lt_of_lt_of_le h (Nat.pow_le_pow_right (by decide) k)
theorem Bd.mono {p : Fr} {m n : Nat} (h : Bd m p) (k : m ≤ n) : Bd n p := ⟨bd_mono h.t k, bd_mono h.b k, h.pos⟩
theorem cmul {a b : Int} {m n : Nat} (h : a.natAbs < 2 ^ m) (k : b.natAbs < 2 ^ n) (hm : m ≤ 60000000) (hn : n ≤ 60000000) : CMulX a b := by
  have e1 := intBits_le_iff.mpr h
  have e2 := intBits_le_iff.mpr k
  show (Builtin.Int.intBits a : Int) + (Builtin.Int.intBits b : Int) ≤ 134217728
  omega
theorem cdivg {a b : Int} {n : Nat} (h : b ≠ 0) (k : b.natAbs < 2 ^ n) (hn : n ≤ 9000) : CDivG a b :=
  ⟨h, Nat.lt_of_lt_of_le ((Nat.log2_lt (by omega)).mpr k) hn⟩
theorem gs_bd {t b : Int} {n : Nat} (h : b ≠ 0) (hb : b.natAbs < 2 ^ n) : (gs t b).natAbs < 2 ^ n := by
  have e : (gs t b).natAbs = Nat.gcd t.natAbs b.natAbs := by
    unfold gs
    split <;> omega
  rw [e]
  exact Nat.lt_of_le_of_lt (Nat.gcd_le_right _ (by omega)) hb
end K31

set_option Elab.async false
set_option linter.all false
set_option maxRecDepth 100000
set_option maxHeartbeats 2000000
/-! k31: the promises, the checks, Ratio -/
namespace K31
open PySem L2 DL
section
variable {X : Cx} {B : Hp} {S : En} {pos : Pos} {Q : D → Prop} {x : Str} {d : D}
theorem nm (i : Nat) (q : Q d) (hN : X.N[i]? = some x := by rfl) (h : S[i]? = some (some (.val d)) := by rfl) (hv : Vis X.env.scope x := by first | exact Or.inl rfl | exact Or.inr (Or.inl rfl) | exact Or.inr (Or.inr rfl))
    (hd : (x == ("__debug__" : Str)) = false := by decide) (hcd : (x == ("__classdict__" : Str)) = false := by decide) : ED X B S (.Name x pos) Q := ed_name i hN h q hv hd hcd
theorem sd_post {W0 : Wd} {st : Stmt} {E : Ends'} (QS : En → Prop) (h : SD X B W0 S st { E with nx := QS }) (k : ∀ S', QS S' → E.nx S') : SD X B W0 S st E := fun σ W H r z D' q => h σ W H r z D' ⟨fun S' σ' W' H' r' z' x' y => q.nx S' σ' W' H' r' z' x' (k S' y), q.rt, q.bk, q.ct⟩
theorem kT {QB : Bool → Prop} (q : QB true) : ∃ k, D.bl true = .bl k ∧ QB k := ⟨true, rfl, q⟩
theorem kB {QB : Bool → Prop} {b : Bool} (q : QB b) : ∃ k, D.bl b = .bl k ∧ QB k := ⟨b, rfl, q⟩
end
/-! ### data -/
def rf (p : Fr) : List (Str × D) := [("_top", .int p.1), ("_bottom", .int p.2)]
abbrev Ra (C : Addr) (p : Fr) : D := .obj C (rf p)
def pr (p : Fr) : D := .tup [.int p.1, .int p.2]
/-- what may be handed to a check -/
inductive Kn (C : Addr) : D → Prop
  | non : Kn C .non
  | bl (b) : Kn C (.bl b)
  | int (i) : Kn C (.int i)
  | str (s) : Kn C (.str s)
  | tup (l) : Kn C (.tup l)
  | lst (l) : Kn C (.lst l)
  | dct : Kn C .dct
  | rat (p) : Kn C (Ra C p)
def isI : D → Bool
  | .int _ => true
  | _ => false
def isB : D → Bool
  | .bl _ => true
  | _ => false
def isO : D → Bool
  | .obj _ _ => true
  | _ => false
structure Txt (K : PySem.W.Frag) (mg : Str → Option Value) (C : Addr) : Prop where
  nu : Num K C
  is : Isi K C
  nT : NoAttr K C "_top"
  nB : NoAttr K C "_bottom"
  ne : PySem.W.findIn K (.ref C) "__ne__" = some (some (.builtin "object.__ne__"))
  mC : mg "Ratio" = some (.ref C)
  gcd : mg "gcd" = some (.builtin "math.gcd")
  isi : mg "isinstance" = none
  int : mg "int" = none
  bool : mg "bool" = none
  list : mg "list" = none
  tuple : mg "tuple" = none
  abs : mg "abs" = none
  len : mg "len" = none
  max : mg "max" = none
  divmod : mg "divmod" = none
  str : mg "str" = none
  repr : mg "repr" = none
  range : mg "range" = none
  k1 : PySem.W.kitOne K (.type "NoneType") (.type "int") = some false
  k2 : PySem.W.kitOne K (.type "bool") (.type "int") = some true
  k3 : PySem.W.kitOne K (.type "str") (.type "int") = some false
  k4 : PySem.W.kitOne K (.type "tuple") (.type "int") = some false
  k5 : PySem.W.kitOne K (.type "list") (.type "int") = some false
  k6 : PySem.W.kitOne K (.ref C) (.type "int") = some false
  k7 : PySem.W.kitOne K (.type "int") (.type "bool") = some false
  r1 : PySem.W.kitOne K (.type "NoneType") (.ref C) = some false
  r2 : PySem.W.kitOne K (.type "bool") (.ref C) = some false
  r3 : PySem.W.kitOne K (.type "str") (.ref C) = some false
  r4 : PySem.W.kitOne K (.type "tuple") (.ref C) = some false
  r5 : PySem.W.kitOne K (.type "list") (.ref C) = some false
  r7 : PySem.W.kitOne K (.type "int") (.ref C) = some false
  k8 : PySem.W.kitOne K (.type "dict") (.type "int") = some false
  r8 : PySem.W.kitOne K (.type "dict") (.ref C) = some false
  l0 : ∀ T : String, T = "NoneType" ∨ T = "bool" ∨ T = "str" ∨ T = "int" ∨ T = "dict" → PySem.W.kitAny K (.type T) [.type "list", .type "tuple"] = some false
  l3 : PySem.W.kitAny K (.ref C) [.type "list", .type "tuple"] = some false
  all : mg "all" = none
  zip : mg "zip" = none
  l1 : PySem.W.kitAny K (.type "list") [.type "list", .type "tuple"] = some true
  l2 : PySem.W.kitAny K (.type "tuple") [.type "list", .type "tuple"] = some true
theorem same {K : PySem.W.Frag} {t : Value} (h : (t == t) = true) : PySem.W.kitOne K t t = some true := by
  unfold PySem.W.kitOne
  rw [if_pos h]
theorem Kn.ty {K : PySem.W.Frag} {mg : Str → Option Value} {C : Addr} (T : Txt K mg C) {d : D} (h : Kn C d) : ∃ t, TyD K d t ∧ PySem.W.kitOne K t (.type "int") = some (isI d || isB d) ∧ ((isI d || isB d) = true → PySem.W.kitOne K t (.type "bool") = some (isB d)) ∧ PySem.W.kitOne K t (.ref C) = some (isO d) := by
  cases h with
  | non => exact ⟨_, .non, T.k1, fun z => Bool.noConfusion z, T.r1⟩
  | bl b => exact ⟨_, .bl b, T.k2, fun _ => same (by decide +kernel), T.r2⟩
  | int i => exact ⟨_, .int i, same (by decide +kernel), fun _ => T.k7, T.r7⟩
  | str s => exact ⟨_, .str s, T.k3, fun z => Bool.noConfusion z, T.r3⟩
  | tup l => exact ⟨_, .tup l, T.k4, fun z => Bool.noConfusion z, T.r4⟩
  | dct => exact ⟨_, .dct, T.k8, fun z => Bool.noConfusion z, T.r8⟩
  | lst l => exact ⟨_, .lst l, T.k5, fun z => Bool.noConfusion z, T.r5⟩
  | rat p => exact ⟨_, .obj _ T.is, T.k6, fun z => Bool.noConfusion z, same (beq_self_eq_true _)⟩
/-! ### promises -/
abbrev spB (C : Addr) (f : D → Bool) : SpD := fun as Q => ∃ d, as = [.val d] ∧ Kn C d ∧ Q (.bl (f d))
section
variable {P : Program} {w : World} {K : PySem.W.Frag} {mg : Str → Option Value} {base : Heap} {C : Addr}
theorem sc_isint : FnScope ["value"] ["value"] (defScope sIsInt) := ⟨rfl, rfl, rfl, by decide +kernel, rfl, by decide +kernel, by decide +kernel⟩
theorem ok_isint {f : Addr} {fd : FuncData} (F : FunS K "is_integer" "is_integer" sIsInt f fd) (T : Txt K mg C) : GnOk P w K mg base 1 f fd ["value"] (lift K (spB C isI)) := by
  refine gn_dl F sc_isint (fun as Q h => by obtain ⟨d, rfl, _⟩ := h; rfl) (fun cdv A outer s H hr hG W as Q h => ?_)
  obtain ⟨d, rfl, kn, q⟩ := h
  obtain ⟨t, ty, h1, h2, _⟩ := kn.ty T
  refine sds_cons (sd_ret (ed_and (ed_callB T.isi (ad_cons (nm 0 (ad_cons (ed_ty T.int (ad_nil (cd_isi ty (.ty _) h1 (kB ?_))))))))))
  have e : isI d = ((isI d || isB d) && !isB d) := by cases d <;> rfl
  rw [e] at q
  cases c : (isI d || isB d) with
  | false =>
    rw [c] at q
    exact q
  | true =>
    rw [c] at q
    show ED _ _ _ _ _
    exact ed_one (ed_not (ed_callB T.isi (ad_cons (nm 0 (ad_cons (ed_ty T.bool (ad_nil (cd_isi ty (.ty _) (h2 c) (kB q)))))))))

/-- is_count: an int from 0 on -/
abbrev spL : SpD := fun as Q => ∃ d l, as = [.val d] ∧ (d = .lst l ∨ d = .tup l) ∧ Q (.bl true)
theorem sc_islist : FnScope ["value"] ["value"] (defScope sIsList) := ⟨rfl, rfl, rfl, by decide +kernel, rfl, by decide +kernel, by decide +kernel⟩
theorem ok_islist {f : Addr} {fd : FuncData} (F : FunS K "is_list" "is_list" sIsList f fd) (T : Txt K mg C) : GnOk P w K mg base 1 f fd ["value"] (lift K spL) := by
  refine gn_dl F sc_islist (fun as Q h => by obtain ⟨d, l, rfl, _⟩ := h; rfl) (fun cdv A outer s H hr hG W as Q h => ?_)
  obtain ⟨d, l, rfl, hd, q⟩ := h
  refine sds_cons (sd_ret (ed_callB T.isi (ad_cons (nm 0 (ad_cons (ed_tup (ad_cons (ed_ty T.list (ad_cons (ed_ty T.tuple (ad_nil ⟨[.ty "list", .ty "tuple"], rfl, by decide, ad_nil ?_⟩)))))))))))
  rcases hd with rfl | rfl
  · exact cd_isi2 (.lst l) (.ty _) (.ty _) T.l1 q
  · exact cd_isi2 (.tup l) (.ty _) (.ty _) T.l2 q
def isN (d : D) : Bool := isI d || isO d
theorem sc_isnumber : FnScope ["value"] ["value"] (defScope sIsNumber) := ⟨rfl, rfl, rfl, by decide +kernel, rfl, by decide +kernel, by decide +kernel⟩
theorem ok_isnumber {f : Addr} {fd : FuncData} (F : FunS K "is_number" "is_number" sIsNumber f fd) (T : Txt K mg C) (G : Df P w K mg base "is_integer" 1 1 (spB C isI)) : GnOk P w K mg base 2 f fd ["value"] (lift K (spB C isN)) := by
  refine gn_dl F sc_isnumber (fun as Q h => by obtain ⟨d, rfl, _⟩ := h; rfl) (fun cdv A outer s H hr hG W as Q h => ?_)
  obtain ⟨d, rfl, kn, q⟩ := h
  obtain ⟨t, ty, _, _, h3⟩ := kn.ty T
  refine sds_cons (sd_ret (ed_or (ed_call G hr hG (ad_cons (nm 0 (ad_nil ⟨d, rfl, kn, kB ?_⟩))))))
  unfold isN at q
  cases c : isI d with
  | true =>
    simp only [c, Bool.true_or] at q
    exact q
  | false =>
    simp only [c, Bool.false_or] at q
    exact ed_one (show ED _ _ _ _ _ from ed_callB T.isi (ad_cons (nm 0 (ad_cons (ed_cls T.mC (ad_nil (cd_isi ty (.cls _) h3 q)))))))
/-! ### Ratio(top, bottom) -/
abbrev sInit : Stmt := rat 0
abbrev spInit : SpI := fun as Q => ∃ t b, as = [.val (.int t), .val (.int b)] ∧ b ≠ 0 ∧ t.natAbs < 2 ^ 8000 ∧ b.natAbs < 2 ^ 8000 ∧ Q (rf (low t b))
theorem sc_init : FnScope ["self", "top", "bottom", "value", "shared"] ["self", "top", "bottom"] (defScope sInit) := ⟨rfl, rfl, rfl, by decide +kernel, rfl, by decide +kernel, by decide +kernel⟩
theorem ok_init {f : Addr} {fd : FuncData} (F : FunS K "__init__" "Ratio.__init__" sInit f fd) (T : Txt K mg C) (G : Df P w K mg base "is_integer" 1 1 (spB C isI)) : GnOk P w K mg base 2 f fd ["self", "top", "bottom"] (liftI K C spInit) := by
  refine init_dl F sc_init (fun as Q h => by obtain ⟨t, b, rfl, _⟩ := h; rfl) (fun cdv A outer s H hr hG W B as Q p dx h => ?_)
  obtain ⟨t, b, rfl, hb, bt, bb, q⟩ := h
  have nd := sc_init.nd
  refine sds_cons (sd_forT (l := [.int t, .int b]) PassesOwn.never rfl (fun _ S' => ∃ v, notInst v = true ∧ S' = [some (.inst C p dx []), some (.val (.int t)), some (.val (.int b)), v, none]) (ed_tup (ad_cons (nm 1 (ad_cons (nm 2 (ad_nil ⟨[.int t, .int b], rfl, by simp, rfl, none, rfl, rfl⟩)))))) ?_ ?_)
  · rintro i d S' hi ⟨v, nv, rfl⟩
    refine gd_name 3 nd rfl ?_
    refine sds_cons (sd_if (td_not (td_val (ed_call G hr hG (ad_cons (nm 3 (ad_nil ⟨d, rfl, ?_, kB ?_⟩)))))))
    · rcases i with _ | _ | i
      · cases hi; exact .int _
      · cases hi; exact .int _
      · simp at hi
    · have e : isI d = true := by
        rcases i with _ | _ | i
        · cases hi; rfl
        · cases hi; rfl
        · simp at hi
      rw [e]
      exact sds_nil (sds_nil ⟨_, rfl, rfl⟩)
  · rintro S' ⟨v, nv, rfl⟩
    refine sds_cons (sd_if (td_cmp (nm 2 (ed_int (od_eqi (kB ?_))))))
    rw [decide_eq_false hb]
    refine sds_nil ?_
    refine sds_cons (sd_set 4 nd rfl (ed_callM T.gcd (ad_cons (nm 1 (ad_cons (nm 2 (ad_nil (cd_gcd ?_))))))))
    refine sds_cons (sd_post (fun S' => S' = [some (.inst C p dx []), some (.val (.int t)), some (.val (.int b)), v, some (.val (.int (gs t b)))]) (sd_if (td_cmp (nm 2 (ed_int (od_lt (kB ?_)))))) ?_)
    · by_cases c : b < 0
      · rw [decide_eq_true c]
        refine sds_cons (sd_set 4 nd rfl (ed_neg (nm 4 ⟨_, rfl, sds_nil ?_⟩)))
        have e : gs t b = -(Nat.gcd t.natAbs b.natAbs : Int) := by unfold gs; rw [if_neg (by omega)]
        rw [e]
        rfl
      · rw [decide_eq_false c]
        refine sds_nil ?_
        have e : gs t b = (Nat.gcd t.natAbs b.natAbs : Int) := by unfold gs; rw [if_pos (by omega)]
        rw [e]
        rfl
    · rintro S' rfl
      have gb := gs_bd (t := t) hb bb
      have g0 := gs_ne (t := t) hb
      refine sds_cons (sd_fld 0 [] T.nu.cl T.nT rfl rfl (by decide) (by simp [notInst]; exact nv) (ed_bin (nm 1 (nm 4 (od_fdiv (cdivg g0 gb (by decide)) ?_)))))
      refine sds_cons (sd_fld 0 _ T.nu.cl T.nB rfl rfl (by simp [putD]) (by simp [notInst]; exact nv) (ed_bin (nm 2 (nm 4 (od_fdiv (cdivg g0 gb (by decide)) ?_)))))
      refine sds_nil ⟨_, rfl, ?_⟩
      have e : putD "_bottom" (D.int (b.fdiv (gs t b))) (putD "_top" (D.int (t.fdiv (gs t b))) []) = rf (low t b) := by
        show (if ("_top" : Str) = "_bottom" then _ else (("_top" : Str), D.int _) :: [(("_bottom" : Str), D.int _)]) = _
        rw [if_neg (by decide +kernel)]
        rfl
      rw [e]
      exact q
end
end K31

set_option Elab.async false
set_option linter.all false
set_option maxRecDepth 100000
set_option maxHeartbeats 2000000
/-! k31: what a Ratio does -/
namespace K31
open PySem L2 DL
theorem lookT (p : Fr) : (rf p).lookup ("_top" : Str) = some (.int p.1) := rfl
theorem lookB (p : Fr) : (rf p).lookup ("_bottom" : Str) = some (.int p.2) := by
  unfold rf
  rw [List.lookup_cons, show (("_bottom" : Str) == ("_top" : Str)) = false by decide +kernel]
  rfl
theorem lookN (p : Fr) {m : Str} (h1 : (m == ("_top" : Str)) = false) (h2 : (m == ("_bottom" : Str)) = false) : (rf p).lookup m = none := by
  unfold rf
  rw [List.lookup_cons, h1, List.lookup_cons, h2]
  rfl
/-- a Ratio or an int, and the fraction it is -/
inductive Nr (C : Addr) (n : Nat) : D → Fr → Prop
  | rat (p) (h : Bd n p) : Nr C n (Ra C p) p
  | int (i : Int) (h : i.natAbs < 2 ^ n) (h1 : 1 < 2 ^ n) : Nr C n (.int i) (i, 1)
theorem Nr.bd {C : Addr} {n : Nat} {x : D} {p : Fr} (h : Nr C n x p) : Bd n p := by
  cases h with
  | rat p h => exact h
  | int i h h1 => exact ⟨h, h1, Int.one_pos⟩
def addF (p q : Fr) : Fr := low (p.1 * q.2 + q.1 * p.2) (p.2 * q.2)
def subF (p q : Fr) : Fr := low (p.1 * q.2 - q.1 * p.2) (p.2 * q.2)
def mulF (p q : Fr) : Fr := low (p.1 * q.1) (p.2 * q.2)
def overF (p q : Fr) : Fr := low (p.1 * q.2) (p.2 * q.1)
def sg (p : Fr) : Int := if p.1 > 0 then 1 else if p.1 < 0 then -1 else 0
abbrev sp1 (C : Addr) (f : Fr → D) : SpD := fun as Q => ∃ p, as = [.val (Ra C p)] ∧ Q (f p)
/-- .. of a fraction that is not great -/
abbrev sp1b (C : Addr) (n : Nat) (f : Fr → D) : SpD := fun as Q => ∃ p, as = [.val (Ra C p)] ∧ Bd n p ∧ Q (f p)
abbrev spRat (C : Addr) : SpD := fun as Q => ∃ x p, as = [.val x] ∧ Nr C 3000 x p ∧ Q (Ra C p)
abbrev spOp (C : Addr) (f : Fr → Fr → D) : SpD := fun as Q => ∃ p x q, as = [.val (Ra C p), .val x] ∧ Bd 3000 p ∧ Nr C 3000 x q ∧ Q (f p q)
/-- what a Ratio's method stands on -/
structure Rt (P : Program) (w : World) (K : PySem.W.Frag) (mg : Str → Option Value) (base : Heap) (C : Addr) : Prop where
  T : Txt K mg C
  mk2 : Kl P w K mg base "Ratio" C 2 [] spInit
  mk1 : Kl P w K mg base "Ratio" C 2 [.int 1] spInit
  top : Pr P w K mg base C "top" 1 (sp1 C fun p => .int p.1)
  bot : Pr P w K mg base C "bottom" 1 (sp1 C fun p => .int p.2)
section
variable {P : Program} {w : World} {K : PySem.W.Frag} {mg : Str → Option Value} {base : Heap} {C : Addr}
section
variable {X : Cx} {B : Hp} {S : En} {pos : Pos} {Q : D → Prop} {o : Expr}
/-- o._top, o._bottom -/
theorem fT {p : Fr} (T : Txt X.K X.mg C) (h : ED X B S o fun x => x = Ra C p ∧ Q (.int p.1)) (hb : attributeBase o "_top" X.env (eval o X.env) = eval o X.env := by rfl) : ED X B S (.Attribute o "_top" pos) Q :=
  ed_fld T.nu.cl T.nT (fun σ W H r R c => h σ W H r R fun d v W' H' s ok n ⟨e, q⟩ => c d v W' H' s ok n ⟨rf p, .int p.1, e, lookT p, q⟩) hb
theorem fB {p : Fr} (T : Txt X.K X.mg C) (h : ED X B S o fun x => x = Ra C p ∧ Q (.int p.2)) (hb : attributeBase o "_bottom" X.env (eval o X.env) = eval o X.env := by rfl) : ED X B S (.Attribute o "_bottom" pos) Q :=
  ed_fld T.nu.cl T.nB (fun σ W H r R c => h σ W H r R fun d v W' H' s ok n ⟨e, q⟩ => c d v W' H' s ok n ⟨rf p, .int p.2, e, lookB p, q⟩) hb
/-- o.top, o.bottom -/
theorem pT {p : Fr} (V : Rt X.prog X.w X.K X.mg X.base C) (hr : Room 2 X.A) (hG : X.A.guards = some (gOf X)) (h : ED X B S o fun x => x = Ra C p ∧ Q (.int p.1)) (hb : attributeBase o "top" X.env (eval o X.env) = eval o X.env := by rfl) : ED X B S (.Attribute o "top" pos) Q :=
  ed_prop V.T.nu.cl V.top hr hG (fun σ W H r R c => h σ W H r R fun d v W' H' s ok n ⟨e, q⟩ => c d v W' H' s ok n ⟨rf p, e, p, by rw [e], q⟩) hb
theorem pB {p : Fr} (V : Rt X.prog X.w X.K X.mg X.base C) (hr : Room 2 X.A) (hG : X.A.guards = some (gOf X)) (h : ED X B S o fun x => x = Ra C p ∧ Q (.int p.2)) (hb : attributeBase o "bottom" X.env (eval o X.env) = eval o X.env := by rfl) : ED X B S (.Attribute o "bottom" pos) Q :=
  ed_prop V.T.nu.cl V.bot hr hG (fun σ W H r R c => h σ W H r R fun d v W' H' s ok n ⟨e, q⟩ => c d v W' H' s ok n ⟨rf p, e, p, by rw [e], q⟩) hb
end
theorem sc1 {st : Stmt} (h : FnScope ["self"] ["self"] (defScope st)) : FnScope ["self"] ["self"] (defScope st) := h
theorem sc_top : FnScope ["self"] ["self"] (defScope (rat 1)) := ⟨rfl, rfl, rfl, by decide +kernel, rfl, by decide +kernel, by decide +kernel⟩
theorem ok_top {f : Addr} {fd : FuncData} (F : FunS K "top" "Ratio.top" (rat 1) f fd) (T : Txt K mg C) : GnOk P w K mg base 1 f fd ["self"] (lift K (sp1 C fun p => .int p.1)) := by
  refine gn_dl F sc_top (fun as Q h => by obtain ⟨d, rfl, _⟩ := h; rfl) (fun cdv A outer s H hr hG W as Q h => ?_)
  obtain ⟨p, rfl, q⟩ := h
  exact sds_cons (sd_ret (fT T (nm 0 ⟨rfl, q⟩)))
theorem sc_bot : FnScope ["self"] ["self"] (defScope (rat 2)) := ⟨rfl, rfl, rfl, by decide +kernel, rfl, by decide +kernel, by decide +kernel⟩
theorem ok_bot {f : Addr} {fd : FuncData} (F : FunS K "bottom" "Ratio.bottom" (rat 2) f fd) (T : Txt K mg C) : GnOk P w K mg base 1 f fd ["self"] (lift K (sp1 C fun p => .int p.2)) := by
  refine gn_dl F sc_bot (fun as Q h => by obtain ⟨d, rfl, _⟩ := h; rfl) (fun cdv A outer s H hr hG W as Q h => ?_)
  obtain ⟨p, rfl, q⟩ := h
  exact sds_cons (sd_ret (fB T (nm 0 ⟨rfl, q⟩)))
theorem sc_ratof : FnScope ["value"] ["value"] (defScope sRatioOf) := ⟨rfl, rfl, rfl, by decide +kernel, rfl, by decide +kernel, by decide +kernel⟩
theorem ok_ratof {f : Addr} {fd : FuncData} (F : FunS K "ratio_of" "ratio_of" sRatioOf f fd) (V : Rt P w K mg base C) : GnOk P w K mg base 4 f fd ["value"] (lift K (spRat C)) := by
  refine gn_dl F sc_ratof (fun as Q h => by obtain ⟨d, _, rfl, _⟩ := h; rfl) (fun cdv A outer s H hr hG W as Q h => ?_)
  obtain ⟨x, p, rfl, n, q⟩ := h
  have T := V.T
  cases n with
  | rat p h =>
    obtain ⟨t, ty, _, _, h3⟩ := (Kn.rat (C := C) p).ty T
    refine sds_cons (sd_ret (ed_ifx (td_val (ed_callB T.isi (ad_cons (nm 0 (ad_cons (ed_cls T.mC (ad_nil (cd_isi ty (.cls _) h3 (kB ?_)))))))))))
    exact nm 0 q
  | int i h h1 =>
    obtain ⟨t, ty, _, _, h3⟩ := (Kn.int (C := C) i).ty T
    refine sds_cons (sd_ret (ed_ifx (td_val (ed_callB T.isi (ad_cons (nm 0 (ad_cons (ed_cls T.mC (ad_nil (cd_isi ty (.cls _) h3 (kB ?_)))))))))))
    refine ed_make V.mk1 hr hG (ad_cons (nm 0 (ad_nil ⟨i, 1, rfl, by decide, bd_mono h (by decide), bd_mono (m := 1) (by decide) (by decide), ?_⟩)))
    rw [low_one]
    exact q
end
end K31

set_option Elab.async false
set_option linter.all false
set_option maxRecDepth 100000
set_option maxHeartbeats 2000000
/-! k31: the operators, the comparisons, the texts of a Ratio -/
namespace K31
open PySem L2 DL
section
variable {P : Program} {w : World} {K : PySem.W.Frag} {mg : Str → Option Value} {base : Heap} {C : Addr}
theorem mk_ok {n : Nat} {t b : Int} {Q : List (Str × D) → Prop} (hb : b ≠ 0) (h1 : t.natAbs < 2 ^ n) (h2 : b.natAbs < 2 ^ n) (hn : n ≤ 8000) (q : Q (rf (low t b))) : spInit [.val (.int t), .val (.int b)] Q :=
  ⟨t, b, rfl, hb, bd_mono h1 hn, bd_mono h2 hn, q⟩
theorem mul_ne {a b : Int} (h : a ≠ 0) (k : b ≠ 0) : a * b ≠ 0 := Int.mul_ne_zero h k
theorem Bd.ne {n : Nat} {p : Fr} (h : Bd n p) : p.2 ≠ 0 := by have := h.pos; omega
theorem cm {m n : Nat} {a b : Int} (h : a.natAbs < 2 ^ m) (k : b.natAbs < 2 ^ n) (hm : m ≤ 3000 := by decide) (hn : n ≤ 3000 := by decide) : CMulX a b := cmul h k (by omega) (by omega)
theorem sc_add : FnScope ["self", "other", "right", "top"] ["self", "other"] (defScope (rat 5)) := ⟨rfl, rfl, rfl, by decide +kernel, rfl, by decide +kernel, by decide +kernel⟩
theorem ok_add {f : Addr} {fd : FuncData} (F : FunS K "__add__" "Ratio.__add__" (rat 5) f fd) (V : Rt P w K mg base C) (G : Df P w K mg base "ratio_of" 4 1 (spRat C)) : GnOk P w K mg base 5 f fd ["self", "other"] (lift K (spOp C fun p q => Ra C (addF p q))) := by
  refine gn_dl F sc_add (fun as Q h => by obtain ⟨_, _, _, rfl, _⟩ := h; rfl) (fun cdv A outer s H hr hG W as Q h => ?_)
  obtain ⟨p, x, q, rfl, hp, hx, k⟩ := h
  have T := V.T
  have hq := hx.bd
  have r2 := hr.mono (j := 2) (by decide)
  have nd := sc_add.nd
  refine sds_cons (sd_set 2 nd rfl (ed_call G hr hG (ad_cons (nm 1 (ad_nil ⟨x, q, rfl, hx, ?_⟩)))))
  refine sds_cons (sd_set 3 nd rfl (ed_bin (ed_bin (fT T (nm 0 ⟨rfl, pB V r2 hG (nm 2 ⟨rfl, od_mul (cm hp.t hq.b) (ed_bin (pT V r2 hG (nm 2 ⟨rfl, fB T (nm 0 ⟨rfl, od_mul (cm hq.t hp.b) (od_add ?_)⟩)⟩)))⟩)⟩)))))
  refine sds_cons (sd_ret (ed_makeA V.mk2 (hr.mono (by decide)) hG (ad_cons (nm 3 (ad_cons (ed_bin (fB T (nm 0 ⟨rfl, pB V r2 hG (nm 2 ⟨rfl, od_mul (cm hp.b hq.b) (ad_nil (mk_ok (n := 6001) (mul_ne hp.ne hq.ne) (add_bd (mul_bd hp.t hq.b) (mul_bd hq.t hp.b)) (bd_mono (mul_bd hp.b hq.b) (by decide)) (by decide) ?_))⟩)⟩))))))))
  exact k
theorem sc_sub : FnScope ["self", "other", "right", "top"] ["self", "other"] (defScope (rat 7)) := ⟨rfl, rfl, rfl, by decide +kernel, rfl, by decide +kernel, by decide +kernel⟩
theorem ok_sub {f : Addr} {fd : FuncData} (F : FunS K "__sub__" "Ratio.__sub__" (rat 7) f fd) (V : Rt P w K mg base C) (G : Df P w K mg base "ratio_of" 4 1 (spRat C)) : GnOk P w K mg base 5 f fd ["self", "other"] (lift K (spOp C fun p q => Ra C (subF p q))) := by
  refine gn_dl F sc_sub (fun as Q h => by obtain ⟨_, _, _, rfl, _⟩ := h; rfl) (fun cdv A outer s H hr hG W as Q h => ?_)
  obtain ⟨p, x, q, rfl, hp, hx, k⟩ := h
  have T := V.T
  have hq := hx.bd
  have r2 := hr.mono (j := 2) (by decide)
  have nd := sc_sub.nd
  refine sds_cons (sd_set 2 nd rfl (ed_call G hr hG (ad_cons (nm 1 (ad_nil ⟨x, q, rfl, hx, ?_⟩)))))
  refine sds_cons (sd_set 3 nd rfl (ed_bin (ed_bin (fT T (nm 0 ⟨rfl, pB V r2 hG (nm 2 ⟨rfl, od_mul (cm hp.t hq.b) (ed_bin (pT V r2 hG (nm 2 ⟨rfl, fB T (nm 0 ⟨rfl, od_mul (cm hq.t hp.b) (od_sub ?_)⟩)⟩)))⟩)⟩)))))
  refine sds_cons (sd_ret (ed_makeA V.mk2 (hr.mono (by decide)) hG (ad_cons (nm 3 (ad_cons (ed_bin (fB T (nm 0 ⟨rfl, pB V r2 hG (nm 2 ⟨rfl, od_mul (cm hp.b hq.b) (ad_nil (mk_ok (n := 6001) (mul_ne hp.ne hq.ne) (sub_bd (mul_bd hp.t hq.b) (mul_bd hq.t hp.b)) (bd_mono (mul_bd hp.b hq.b) (by decide)) (by decide) ?_))⟩)⟩))))))))
  exact k
theorem sc_mul : FnScope ["self", "other", "right"] ["self", "other"] (defScope (rat 9)) := ⟨rfl, rfl, rfl, by decide +kernel, rfl, by decide +kernel, by decide +kernel⟩
theorem ok_mul {f : Addr} {fd : FuncData} (F : FunS K "__mul__" "Ratio.__mul__" (rat 9) f fd) (V : Rt P w K mg base C) (G : Df P w K mg base "ratio_of" 4 1 (spRat C)) : GnOk P w K mg base 5 f fd ["self", "other"] (lift K (spOp C fun p q => Ra C (mulF p q))) := by
  refine gn_dl F sc_mul (fun as Q h => by obtain ⟨_, _, _, rfl, _⟩ := h; rfl) (fun cdv A outer s H hr hG W as Q h => ?_)
  obtain ⟨p, x, q, rfl, hp, hx, k⟩ := h
  have T := V.T
  have hq := hx.bd
  have r2 := hr.mono (j := 2) (by decide)
  have nd := sc_mul.nd
  refine sds_cons (sd_set 2 nd rfl (ed_call G hr hG (ad_cons (nm 1 (ad_nil ⟨x, q, rfl, hx, ?_⟩)))))
  refine sds_cons (sd_ret (ed_makeA V.mk2 (hr.mono (by decide)) hG (ad_cons (ed_bin (fT T (nm 0 ⟨rfl, pT V r2 hG (nm 2 ⟨rfl, od_mul (cm hp.t hq.t) (ad_cons (ed_bin (fB T (nm 0 ⟨rfl, pB V r2 hG (nm 2 ⟨rfl, od_mul (cm hp.b hq.b) (ad_nil (mk_ok (n := 6000) (mul_ne hp.ne hq.ne) (mul_bd hp.t hq.t) (mul_bd hp.b hq.b) (by decide) ?_))⟩)⟩))))⟩)⟩))))))
  exact k
/-! an int on the left -/
theorem sc_radd : FnScope ["self", "other"] ["self", "other"] (defScope (rat 6)) := ⟨rfl, rfl, rfl, by decide +kernel, rfl, by decide +kernel, by decide +kernel⟩
theorem ok_radd {f : Addr} {fd : FuncData} (F : FunS K "__radd__" "Ratio.__radd__" (rat 6) f fd) (V : Rt P w K mg base C) (G : Df P w K mg base "ratio_of" 4 1 (spRat C)) (M : Sm P w K mg base C "__add__" 5 (spOp C fun p q => Ra C (addF p q))) : GnOk P w K mg base 6 f fd ["self", "other"] (lift K (spOp C fun p q => Ra C (addF q p))) := by
  refine gn_dl F sc_radd (fun as Q h => by obtain ⟨_, _, _, rfl, _⟩ := h; rfl) (fun cdv A outer s H hr hG W as Q h => ?_)
  obtain ⟨p, x, q, rfl, hp, hx, k⟩ := h
  exact sds_cons (sd_ret (ed_bin (ed_call G (hr.mono (by decide)) hG (ad_cons (nm 1 (ad_nil ⟨x, q, rfl, hx, nm 0 (od_oo V.T.nu M hr hG ⟨q, _, p, rfl, hx.bd, .rat p hp, k⟩)⟩))))))
theorem sc_rsub : FnScope ["self", "other"] ["self", "other"] (defScope (rat 8)) := ⟨rfl, rfl, rfl, by decide +kernel, rfl, by decide +kernel, by decide +kernel⟩
theorem ok_rsub {f : Addr} {fd : FuncData} (F : FunS K "__rsub__" "Ratio.__rsub__" (rat 8) f fd) (V : Rt P w K mg base C) (G : Df P w K mg base "ratio_of" 4 1 (spRat C)) (M : Sm P w K mg base C "__sub__" 5 (spOp C fun p q => Ra C (subF p q))) : GnOk P w K mg base 6 f fd ["self", "other"] (lift K (spOp C fun p q => Ra C (subF q p))) := by
  refine gn_dl F sc_rsub (fun as Q h => by obtain ⟨_, _, _, rfl, _⟩ := h; rfl) (fun cdv A outer s H hr hG W as Q h => ?_)
  obtain ⟨p, x, q, rfl, hp, hx, k⟩ := h
  exact sds_cons (sd_ret (ed_bin (ed_call G (hr.mono (by decide)) hG (ad_cons (nm 1 (ad_nil ⟨x, q, rfl, hx, nm 0 (od_oo V.T.nu M hr hG ⟨q, _, p, rfl, hx.bd, .rat p hp, k⟩)⟩))))))
theorem sc_rmul : FnScope ["self", "other"] ["self", "other"] (defScope (rat 10)) := ⟨rfl, rfl, rfl, by decide +kernel, rfl, by decide +kernel, by decide +kernel⟩
theorem ok_rmul {f : Addr} {fd : FuncData} (F : FunS K "__rmul__" "Ratio.__rmul__" (rat 10) f fd) (V : Rt P w K mg base C) (G : Df P w K mg base "ratio_of" 4 1 (spRat C)) (M : Sm P w K mg base C "__mul__" 5 (spOp C fun p q => Ra C (mulF p q))) : GnOk P w K mg base 6 f fd ["self", "other"] (lift K (spOp C fun p q => Ra C (mulF q p))) := by
  refine gn_dl F sc_rmul (fun as Q h => by obtain ⟨_, _, _, rfl, _⟩ := h; rfl) (fun cdv A outer s H hr hG W as Q h => ?_)
  obtain ⟨p, x, q, rfl, hp, hx, k⟩ := h
  exact sds_cons (sd_ret (ed_bin (ed_call G (hr.mono (by decide)) hG (ad_cons (nm 1 (ad_nil ⟨x, q, rfl, hx, nm 0 (od_oo V.T.nu M hr hG ⟨q, _, p, rfl, hx.bd, .rat p hp, k⟩)⟩))))))
/-! of one -/
def ab (i : Int) : Int := if i < 0 then -i else i
theorem ab_nat (i : Int) : (ab i).natAbs = i.natAbs := by unfold ab; split <;> omega
end
end K31

set_option Elab.async false
set_option linter.all false
set_option maxRecDepth 100000
set_option maxHeartbeats 2000000
/-! k31: Ratio.total, ==, the texts, the shares -/
namespace K31
open PySem L2 DL
section
variable {P : Program} {w : World} {K : PySem.W.Frag} {mg : Str → Option Value} {base : Heap} {C : Addr}
theorem addF_bd {m n : Nat} {p q : Fr} (hp : Bd m p) (hq : Bd n q) : Bd (m + n + 1) (addF p q) :=
  low_bd (mul_ne hp.ne hq.ne) (add_bd (mul_bd hp.t hq.b) (bd_mono (mul_bd hq.t hp.b) (by omega))) (bd_mono (mul_bd hp.b hq.b) (by omega))
/-- data that are fractions -/
structure Nrs (C : Addr) (n : Nat) (l : List D) (ps : List Fr) : Prop where
  len : l.length = ps.length
  at_ : ∀ (i : Nat) d, l[i]? = some d → ∃ p, ps[i]? = some p ∧ Nr C n d p
theorem Nr.mono {C : Addr} {m n : Nat} {x : D} {p : Fr} (h : Nr C m x p) (k : m ≤ n) : Nr C n x p := by
  cases h with
  | rat p h => exact .rat p (h.mono k)
  | int i h h1 => exact .int i (bd_mono h k) (Nat.lt_of_lt_of_le h1 (Nat.pow_le_pow_right (by decide) k))
theorem sum_bd {ps : List Fr} (h : ∀ p ∈ ps, Bd 150 p) : ∀ i, i ≤ ps.length → Bd (1 + 151 * i) ((ps.take i).foldl addF (0, 1))
  | 0, _ => ⟨by show 0 < 2; decide, by show 1 < 2; decide, by show (0 : Int) < 1; decide⟩
  | i + 1, hi => by
    have e : ps[i]? = some ps[i] := List.getElem?_eq_getElem (by omega)
    rw [List.take_add_one, e, List.foldl_append]
    exact (addF_bd (sum_bd h i (by omega)) (h _ (List.getElem_mem _))).mono (by omega)
/-- a Ratio + a number -/
theorem od_nr {X : Cx} {Q : D → Prop} {f : Fr → Fr → D} {p q : Fr} {x : D} {k' : Nat} {sp' : SpD} (N : Num X.K C) (M : Sm X.prog X.w X.K X.mg X.base C "__add__" 5 (spOp C f)) (R : Sm X.prog X.w X.K X.mg X.base C "__radd__" k' sp') (hr : Room 5 X.A) (hG : X.A.guards = some (gOf X)) (n : Nr C 150 x q) (h : Bd 3000 p)
    (hl : ∃ r, PySem.W.findIn X.K (.type "int") "__radd__" = some r) (k : Q (f p q)) : OD X (binaryOp .Add) (Ra C p) x Q := by
  cases n with
  | rat q hq => exact od_oo (op := .Add) N M hr hG ⟨p, _, q, rfl, h, .rat q (hq.mono (by decide)), k⟩
  | int i hi h1 => exact od_oi (op := .Add) N M R hr hG ⟨p, _, _, rfl, h, .int i (bd_mono hi (by decide)) (bd_mono (a := 1) (m := 1) (n := 3000) (by decide) (by decide)), k⟩ PySem.F.fills_int_add hl
abbrev spTotal (C : Addr) : SpD := fun as Q => ∃ x l ps, as = [.val (.cls C), .val x] ∧ (x = .lst l ∨ x = .tup l) ∧ Nrs C 150 l ps ∧ l.length ≤ 15 ∧ Q (Ra C (ps.foldl addF (0, 1)))
theorem sc_total : FnScope ["cls", "numbers", "result", "number"] ["cls", "numbers"] (defScope (rat 16)) := ⟨rfl, rfl, rfl, by decide +kernel, rfl, by decide +kernel, by decide +kernel⟩
theorem ok_total {f : Addr} {fd : FuncData} (F : FunS K "total" "Ratio.total" (rat 16) f fd) (V : Rt P w K mg base C) (G : Df P w K mg base "is_list" 1 1 spL) (M : Sm P w K mg base C "__add__" 5 (spOp C fun p q => Ra C (addF p q))) {k' : Nat} {sp' : SpD} (R : Sm P w K mg base C "__radd__" k' sp') (hl : ∃ r, PySem.W.findIn K (.type "int") "__radd__" = some r) : GnOk P w K mg base 6 f fd ["cls", "numbers"] (lift K (spTotal C)) := by
  refine gn_dl F sc_total (fun as Q h => by obtain ⟨_, _, _, rfl, _⟩ := h; rfl) (fun cdv A outer s H hr hG W as Q h => ?_)
  obtain ⟨x, l, ps, rfl, hx, hn, hm, k⟩ := h
  have nd := sc_total.nd
  have bd : ∀ p ∈ ps, Bd 150 p := fun p hp => by
    obtain ⟨i, hi, rfl⟩ := List.getElem_of_mem hp
    obtain ⟨p', e, n⟩ := hn.at_ i _ (List.getElem?_eq_getElem (by rw [hn.len]; exact hi))
    rw [List.getElem?_eq_getElem hi] at e
    cases e
    exact n.bd
  have len := hn.len
  refine sds_cons (sd_if (td_not (td_val (ed_call G (hr.mono (by decide)) hG (ad_cons (nm 1 (ad_nil ⟨x, l, rfl, hx, kB ?_⟩)))))))
  refine sds_nil (sds_cons (sd_set 2 nd rfl (ed_makeL 0 V.mk1 (hr.mono (by decide)) hG rfl rfl (ad_cons (ed_int (ad_nil (mk_ok (n := 1) (by decide) (by decide) (by decide) (by decide) ?_)))))))
  rw [low_one]
  have inv0 : ∃ v, (startE ["cls", "numbers", "result", "number"] [.val (.cls C), .val x]).set 2 (some (.val (.obj C (rf (0, 1))))) = [some (.val (.cls C)), some (.val x), some (.val (Ra C ((ps.take 0).foldl addF (0, 1)))), v] := ⟨none, rfl⟩
  rcases hx with rfl | rfl
  · refine sds_cons (sd_forL (l := l) PassesOwn.never rfl (fun i S' => ∃ v, S' = [some (.val (.cls C)), some (.val (.lst l)), some (.val (Ra C ((ps.take i).foldl addF (0, 1)))), v]) (nm 1 ⟨rfl, inv0⟩) ?_ ?_)
    · rintro i d S' hi ⟨v, rfl⟩
      obtain ⟨p, e, n⟩ := hn.at_ i d hi
      have hi2 : i < l.length := (List.getElem?_eq_some_iff.mp hi).1
      refine gd_name 3 nd rfl (sds_cons (sd_set 2 nd rfl (ed_bin (nm 2 (nm 3 (od_nr V.T.nu M R hr hG n ((sum_bd bd i (by omega)).mono (by omega)) hl ?_))))))
      refine sds_nil ⟨some (.val d), ?_⟩
      rw [List.take_add_one, e, List.foldl_append]
      rfl
    · rintro S' ⟨v, rfl⟩
      rw [show ps.take l.length = ps by rw [len]; exact List.take_length]
      exact sds_cons (sd_ret (nm 2 k))
  · refine sds_cons (sd_forT (l := l) PassesOwn.never rfl (fun i S' => ∃ v, S' = [some (.val (.cls C)), some (.val (.tup l)), some (.val (Ra C ((ps.take i).foldl addF (0, 1)))), v]) (nm 1 ⟨rfl, inv0⟩) ?_ ?_)
    · rintro i d S' hi ⟨v, rfl⟩
      obtain ⟨p, e, n⟩ := hn.at_ i d hi
      have hi2 : i < l.length := (List.getElem?_eq_some_iff.mp hi).1
      refine gd_name 3 nd rfl (sds_cons (sd_set 2 nd rfl (ed_bin (nm 2 (nm 3 (od_nr V.T.nu M R hr hG n ((sum_bd bd i (by omega)).mono (by omega)) hl ?_))))))
      refine sds_nil ⟨some (.val d), ?_⟩
      rw [List.take_add_one, e, List.foldl_append]
      rfl
    · rintro S' ⟨v, rfl⟩
      rw [show ps.take l.length = ps by rw [len]; exact List.take_length]
      exact sds_cons (sd_ret (nm 2 k))
/-! == -/
abbrev spEq (C : Addr) : SpD := fun as Q => ∃ p x, as = [.val (Ra C p), .val x] ∧ ((∃ q, x = Ra C q ∧ Q (.bl (decide (p.1 = q.1) && decide (p.2 = q.2)))) ∨ (∃ i, x = .int i ∧ Q (.bl false)))
theorem sc_eq : FnScope ["self", "other"] ["self", "other"] (defScope (rat 17)) := ⟨rfl, rfl, rfl, by decide +kernel, rfl, by decide +kernel, by decide +kernel⟩
theorem ok_eq {f : Addr} {fd : FuncData} (F : FunS K "__eq__" "Ratio.__eq__" (rat 17) f fd) (T : Txt K mg C) : GnOk P w K mg base 1 f fd ["self", "other"] (lift K (spEq C)) := by
  refine gn_dl F sc_eq (fun as Q h => by obtain ⟨_, _, rfl, _⟩ := h; rfl) (fun cdv A outer s H hr hG W as Q h => ?_)
  obtain ⟨p, x, rfl, h⟩ := h
  rcases h with ⟨q, rfl, k⟩ | ⟨i, rfl, k⟩
  · obtain ⟨t, ty, _, _, h3⟩ := (Kn.rat (C := C) q).ty T
    refine sds_cons (sd_ret (ed_and (ed_callB T.isi (ad_cons (nm 1 (ad_cons (ed_cls T.mC (ad_nil (cd_isi ty (.cls _) h3 (kB ?_))))))))))
    show ED _ _ _ _ _
    refine ed_and (ed_cmp (fT T (nm 0 ⟨rfl, fT T (nm 1 ⟨rfl, od_eqi (kB ?_)⟩)⟩)))
    by_cases c : p.1 = q.1
    · rw [decide_eq_true c] at k ⊢
      rw [Bool.true_and] at k
      show ED _ _ _ _ _
      exact ed_one (ed_cmp (fB T (nm 0 ⟨rfl, fB T (nm 1 ⟨rfl, od_eqi k⟩)⟩)))
    · rw [decide_eq_false c] at k ⊢
      exact k
  · obtain ⟨t, ty, _, _, h3⟩ := (Kn.int (C := C) i).ty T
    refine sds_cons (sd_ret (ed_and (ed_callB T.isi (ad_cons (nm 1 (ad_cons (ed_cls T.mC (ad_nil (cd_isi ty (.cls _) h3 (kB ?_))))))))))
    exact k
/-! texts -/
theorem tl {i : Int} (h : i.natAbs < 2 ^ 1900) : i.natAbs.log2 < 1920 := by
  by_cases z : i.natAbs = 0
  · rw [z]; decide
  · exact Nat.lt_of_lt_of_le ((Nat.log2_lt z).mpr h) (by decide)
theorem tlen {i : Int} (h : i.natAbs < 2 ^ 1900) : (PySem.Str.ofString (toString i)).length ≤ 1921 := PyProof.Rows.int_text_len_1921 (tl h)
/-- what a fraction is shown as -/
def shown (p : Fr) : Str := if p.2 = 1 then (toString p.1 : String) else Str.ofString (toString p.1) ++ "/" ++ Str.ofString (toString p.2)
def reprF (p : Fr) : Str := "Ratio(" ++ Str.ofString (toString p.1) ++ ", " ++ Str.ofString (toString p.2) ++ ")"
theorem fit {x : Str} {n : Nat} (h : x.length ≤ n) (k : n ≤ 100000) : x.length ≤ sizeLine := Nat.le_trans h (Nat.le_trans k (by decide))
theorem app_len {x y : Str} {m n : Nat} (h : x.length ≤ m) (k : y.length ≤ n) : (x ++ y).length ≤ m + n := by
  rw [Str.length_append]
  omega
theorem emp_app (x : Str) : Str.empty ++ x = x := by
  show Str.mk _ = x
  cases x
  simp [Str.empty]
theorem sc_repr : FnScope ["self"] ["self"] (defScope (rat 19)) := ⟨rfl, rfl, rfl, by decide +kernel, rfl, by decide +kernel, by decide +kernel⟩
theorem ok_repr {f : Addr} {fd : FuncData} (F : FunS K "__repr__" "Ratio.__repr__" (rat 19) f fd) (T : Txt K mg C) : GnOk P w K mg base 1 f fd ["self"] (lift K (sp1b C 1900 fun p => .str (reprF p))) := by
  refine gn_dl F sc_repr (fun as Q h => by obtain ⟨_, rfl, _⟩ := h; rfl) (fun cdv A outer s H hr hG W as Q h => ?_)
  obtain ⟨p, rfl, hp, k⟩ := h
  have k : Q (.str (reprF p)) := k
  unfold reprF at k
  have l1 := tlen hp.t
  have l2 := tlen hp.b
  have l3 : (("Ratio(" : Str)).length ≤ 6 := by decide +kernel
  have l4 : ((", " : Str)).length ≤ 2 := by decide +kernel
  have l5 : ((")" : Str)).length ≤ 1 := by decide +kernel
  refine sds_cons (sd_ret (ed_join (ed_str ⟨_, rfl, ?_, ed_fmt (fT T (nm 0 ⟨rfl, .inr ⟨_, rfl, tl hp.t, _, rfl, ?_, ed_str ⟨_, rfl, ?_, ed_fmt (fB T (nm 0 ⟨rfl, .inr ⟨_, rfl, tl hp.b, _, rfl, ?_, ed_str ⟨_, rfl, ?_, ?_⟩⟩⟩))⟩⟩⟩))⟩)))
  · rw [emp_app]; exact fit l3 (by decide)
  · rw [emp_app]; exact fit (app_len l3 l1) (by decide)
  · rw [emp_app]; exact fit (app_len (app_len l3 l1) l4) (by decide)
  · rw [emp_app]; exact fit (app_len (app_len (app_len l3 l1) l4) l2) (by decide)
  · rw [emp_app]; exact fit (app_len (app_len (app_len (app_len l3 l1) l4) l2) l5) (by decide)
  · show Q _
    rw [emp_app]
    exact k
/-! shares -/
theorem Nr.kn {n : Nat} {x : D} {p : Fr} (h : Nr C n x p) : Kn C x ∧ (isI x || isO x) = true := by
  cases h with
  | rat p _ => exact ⟨.rat p, rfl⟩
  | int i _ _ => exact ⟨.int i, rfl⟩
end
end K31

set_option Elab.async false
set_option linter.all false
set_option maxRecDepth 100000
set_option maxHeartbeats 4000000
/-! k31: fractions told by rational numbers -/
namespace K31
open PySem L2 DL
def fr (r : Rat) : Fr := (r.num, (r.den : Int))
theorem low_fr {t b : Int} (h : b ≠ 0) : low t b = fr (Rat.divInt t b) := by
  have dt := gs_dvd_t (t := t) (b := b)
  have db := gs_dvd_b (t := t) (b := b)
  have g0 := gs_ne (t := t) h
  obtain ⟨x, y, e⟩ : ∃ x y, low t b = (x, y) := ⟨_, _, rfl⟩
  have hp := low_pos (t := t) h
  have hg := low_gcd (t := t) h
  rw [e] at hp hg
  have ex : t.fdiv (gs t b) = x := congrArg Prod.fst e
  have ey : b.fdiv (gs t b) = y := congrArg Prod.snd e
  have tx : t = gs t b * x := by rw [← ex, Int.fdiv_eq_ediv_of_dvd dt, Int.mul_ediv_cancel' dt]
  have bx : b = gs t b * y := by rw [← ey, Int.fdiv_eq_ediv_of_dvd db, Int.mul_ediv_cancel' db]
  have hy : (y.natAbs : Int) = y := Int.natAbs_of_nonneg (Int.le_of_lt hp)
  have q : Rat.divInt t b = Rat.divInt x y := (Rat.divInt_eq_divInt_iff h (Int.ne_of_gt hp)).mpr (by
    generalize gs t b = k at tx bx
    rw [tx, bx, Int.mul_assoc, Int.mul_comm x (k * y), Int.mul_assoc, Int.mul_comm x y])
  have nz : y.natAbs ≠ 0 := by have : 0 < y := hp; omega
  have r := Rat.mk_eq_divInt (num := x) (den := y.natAbs) (nz := nz) (c := hg)
  rw [hy] at r
  rw [e, q, ← r]
  show (x, y) = (x, (y.natAbs : Int))
  rw [hy]
theorem fr_ne (r : Rat) : (fr r).2 ≠ 0 := by have := r.den_nz; show (r.den : Int) ≠ 0; omega
theorem fr_val (r : Rat) : Rat.divInt (fr r).1 (fr r).2 = r := Rat.num_divInt_den r
theorem addF_fr (r s : Rat) : addF (fr r) (fr s) = fr (r + s) := by
  unfold addF
  rw [low_fr (Int.mul_ne_zero (fr_ne r) (fr_ne s)), ← Rat.divInt_add_divInt _ _ (fr_ne r) (fr_ne s), fr_val, fr_val]
theorem subF_fr (r s : Rat) : subF (fr r) (fr s) = fr (r - s) := by
  unfold subF
  rw [low_fr (Int.mul_ne_zero (fr_ne r) (fr_ne s)), ← Rat.divInt_sub_divInt _ _ (fr_ne r) (fr_ne s), fr_val, fr_val]
theorem mulF_fr (r s : Rat) : mulF (fr r) (fr s) = fr (r * s) := by
  unfold mulF
  rw [low_fr (Int.mul_ne_zero (fr_ne r) (fr_ne s)), ← Rat.divInt_mul_divInt, fr_val, fr_val]
theorem fr_int (i : Int) : fr (i : Rat) = (i, 1) := rfl
theorem fr_inj {r s : Rat} : (decide ((fr r).1 = (fr s).1) && decide ((fr r).2 = (fr s).2)) = decide (r = s) := by
  by_cases h : r = s
  · subst h
    simp
  · rw [decide_eq_false h]
    have : ¬ ((fr r).1 = (fr s).1 ∧ (fr r).2 = (fr s).2) := fun ⟨a, b⟩ => h (Rat.ext a (Int.ofNat_inj.mp b))
    by_cases a : (fr r).1 = (fr s).1
    · rw [decide_eq_true a, Bool.true_and, decide_eq_false fun b => this ⟨a, b⟩]
    · rw [decide_eq_false a, Bool.false_and]
theorem mulF_bd {m n : Nat} {p q : Fr} (hp : Bd m p) (hq : Bd n q) : Bd (m + n) (mulF p q) := low_bd (mul_ne hp.ne hq.ne) (mul_bd hp.t hq.t) (mul_bd hp.b hq.b)
theorem subF_bd {m n : Nat} {p q : Fr} (hp : Bd m p) (hq : Bd n q) : Bd (m + n + 1) (subF p q) :=
  low_bd (mul_ne hp.ne hq.ne) (sub_bd (mul_bd hp.t hq.b) (bd_mono (mul_bd hq.t hp.b) (by omega))) (bd_mono (mul_bd hp.b hq.b) (by omega))
abbrev Bq (n : Nat) (r : Rat) : Prop := Bd n (fr r)
theorem Bq.add {m n : Nat} {r s : Rat} (a : Bq m r) (b : Bq n s) : Bq (m + n + 1) (r + s) := by have := addF_bd a b; rw [addF_fr] at this; exact this
theorem Bq.sub {m n : Nat} {r s : Rat} (a : Bq m r) (b : Bq n s) : Bq (m + n + 1) (r - s) := by have := subF_bd a b; rw [subF_fr] at this; exact this
theorem Bq.mul {m n : Nat} {r s : Rat} (a : Bq m r) (b : Bq n s) : Bq (m + n) (r * s) := by have := mulF_bd a b; rw [mulF_fr] at this; exact this
theorem Bq.le {m n : Nat} {r : Rat} (a : Bq m r) (k : m ≤ n) : Bq n r := Bd.mono a k
theorem Bq.int {n : Nat} {i : Int} (h : i.natAbs < 2 ^ n) (h1 : 1 ≤ n) : Bq n (i : Rat) := ⟨h, by show (1 : Int).natAbs < 2 ^ n; exact Nat.lt_of_lt_of_le (by decide : 1 < 2 ^ 1) (Nat.pow_le_pow_right (by decide) h1), by show (0 : Int) < 1; decide⟩
/-- a Ratio or an int that is this number -/
inductive Nq (C : Addr) (n : Nat) : D → Rat → Prop
  | rat (r : Rat) (h : Bq n r) : Nq C n (Ra C (fr r)) r
  | int (i : Int) (h : Bq n (i : Rat)) : Nq C n (.int i) (i : Rat)
section
variable {C : Addr} {n m : Nat} {d : D} {r : Rat}
theorem Nq.b (h : Nq C n d r) : Bq n r := by cases h <;> assumption
theorem Nq.nr (h : Nq C n d r) : Nr C n d (fr r) := by
  cases h with
  | rat r h => exact .rat _ h
  | int i h => exact .int i h.t h.b
theorem Nq.mono (h : Nq C n d r) (k : n ≤ m) : Nq C m d r := by
  cases h with
  | rat r h => exact .rat _ (h.le k)
  | int i h => exact .int i (h.le k)
theorem Nq.kn (h : Nq C n d r) : Kn C d := by
  cases h with
  | rat r h => exact .rat _
  | int i h => exact .int i
theorem Nq.num (h : Nq C n d r) : isN d = true := by cases h <;> rfl
end
/-- numbers, each its own -/
def Nqs (C : Addr) (n : Nat) (l : List D) (rs : List Rat) : Prop := Paired (Nq C n) l rs
theorem Nqs.nrs {C : Addr} {n : Nat} : ∀ {l : List D} {rs : List Rat}, Nqs C n l rs → Nrs C n l (rs.map fr)
  | _, _, .nil => ⟨rfl, fun i d h => by simp at h⟩
  | _, _, .cons h t => ⟨by have := (Nqs.nrs t).len; simp only [List.length_cons, List.length_map] at this ⊢; omega, fun i d e => by
      cases i with
      | zero => cases e; exact ⟨_, rfl, h.nr⟩
      | succ i => exact (Nqs.nrs t).at_ i d e⟩
theorem fold_fr : ∀ (rs : List Rat) (a : Rat), (rs.map fr).foldl addF (fr a) = fr (rs.foldl (· + ·) a)
  | [], _ => rfl
  | r :: rs, a => by
    rw [List.map_cons, List.foldl_cons, addF_fr, fold_fr rs]
    rfl
def sumQ (rs : List Rat) : Rat := rs.foldl (· + ·) 0
theorem fold_0 (rs : List Rat) : (rs.map fr).foldl addF (0, 1) = fr (sumQ rs) := fold_fr rs 0
end K31

set_option Elab.async false
set_option linter.all false
set_option maxRecDepth 100000
set_option maxHeartbeats 4000000
/-! k31: the operators in rational numbers; totals; lists of numbers -/
namespace K31
open PySem L2 DL
section
variable {P : Program} {w : World} {K : PySem.W.Frag} {mg : Str → Option Value} {base : Heap} {C : Addr}
/-- what stands under the tables -/
structure Lv (P : Program) (w : World) (K : PySem.W.Frag) (mg : Str → Option Value) (base : Heap) (C : Addr) : Prop where
  V : Rt P w K mg base C
  ratof : Df P w K mg base "ratio_of" 4 1 (spRat C)
  isnum : Df P w K mg base "is_number" 2 1 (spB C isN)
  add : Sm P w K mg base C "__add__" 5 (spOp C fun p q => Ra C (addF p q))
  radd : Sm P w K mg base C "__radd__" 6 (spOp C fun p q => Ra C (addF q p))
  sub : Sm P w K mg base C "__sub__" 5 (spOp C fun p q => Ra C (subF p q))
  rsub : Sm P w K mg base C "__rsub__" 6 (spOp C fun p q => Ra C (subF q p))
  mul : Sm P w K mg base C "__mul__" 5 (spOp C fun p q => Ra C (mulF p q))
  rmul : Sm P w K mg base C "__rmul__" 6 (spOp C fun p q => Ra C (mulF q p))
  eq : Sm P w K mg base C "__eq__" 1 (spEq C)
  repr : Sm P w K mg base C "__repr__" 1 (sp1b C 1900 fun p => .str (reprF p))
  la : ∃ r, PySem.W.findIn K (.type "int") "__radd__" = some r
  lm : ∃ r, PySem.W.findIn K (.type "int") "__rmul__" = some r
  ls : ∃ r, PySem.W.findIn K (.type "int") "__rsub__" = some r
section
variable {X : Cx} {Q : D → Prop} {x y : D} {r s : Rat} {m n : Nat} {i : Int}
theorem od_addQ (L : Lv X.prog X.w X.K X.mg X.base C) (hr : Room 6 X.A) (hG : X.A.guards = some (gOf X)) (hx : Bq 3000 r) (hy : Nq C 3000 y s) (k : Q (Ra C (fr (r + s)))) : OD X (binaryOp .Add) (Ra C (fr r)) y Q := by
  have r5 := hr.mono (j := 5) (by decide)
  rw [← addF_fr] at k
  cases hy with
  | rat s h => exact od_oo (op := .Add) L.V.T.nu L.add r5 hG ⟨_, _, _, rfl, hx, .rat _ h, k⟩
  | int i h => exact od_oi (op := .Add) L.V.T.nu L.add L.radd r5 hG ⟨_, _, _, rfl, hx, .int i h.t h.b, k⟩ PySem.F.fills_int_add L.la
theorem od_subQ (L : Lv X.prog X.w X.K X.mg X.base C) (hr : Room 6 X.A) (hG : X.A.guards = some (gOf X)) (hx : Bq 3000 r) (hy : Nq C 3000 y s) (k : Q (Ra C (fr (r - s)))) : OD X (binaryOp .Sub) (Ra C (fr r)) y Q := by
  have r5 := hr.mono (j := 5) (by decide)
  rw [← subF_fr] at k
  cases hy with
  | rat s h => exact od_oo (op := .Sub) L.V.T.nu L.sub r5 hG ⟨_, _, _, rfl, hx, .rat _ h, k⟩
  | int i h => exact od_oi (op := .Sub) L.V.T.nu L.sub L.rsub r5 hG ⟨_, _, _, rfl, hx, .int i h.t h.b, k⟩ PySem.F.fills_int_sub L.ls
/-- any two numbers multiplied -/
theorem od_mulQ (L : Lv X.prog X.w X.K X.mg X.base C) (hr : Room 6 X.A) (hG : X.A.guards = some (gOf X)) (hx : Nq C m x r) (hy : Nq C n y s) (hm : m ≤ 3000 := by decide) (hn : n ≤ 3000 := by decide) (k : ∀ d, Nq C (m + n) d (r * s) → Q d) : OD X (binaryOp .Mult) x y Q := by
  have r5 := hr.mono (j := 5) (by decide)
  have bb := hx.b.mul hy.b
  cases hx with
  | rat r h =>
    have k' := k _ (.rat _ bb)
    rw [← mulF_fr] at k'
    cases hy with
    | rat s h' => exact od_oo (op := .Mult) L.V.T.nu L.mul r5 hG ⟨_, _, _, rfl, h.le hm, .rat _ (h'.le hn), k'⟩
    | int i h' => exact od_oi (op := .Mult) L.V.T.nu L.mul L.rmul r5 hG ⟨_, _, _, rfl, h.le hm, .int i (h'.le hn).t (h'.le hn).b, k'⟩ PySem.F.fills_int_mul L.lm
  | int i h =>
    cases hy with
    | rat s h' =>
      have k' := k _ (.rat _ bb)
      rw [← mulF_fr] at k'
      exact od_mulO L.V.T.nu L.mul L.rmul hr hG ⟨_, _, _, rfl, h'.le hn, .int i (h.le hm).t (h.le hm).b, k'⟩
    | int j h' =>
      have e : ((i : Rat) * (j : Rat)) = ((i * j : Int) : Rat) := (Rat.intCast_mul i j).symm
      rw [e] at k bb
      exact od_mul (cmul h.t h'.t (by omega) (by omega)) (k _ (.int _ bb))
theorem od_eqQ (L : Lv X.prog X.w X.K X.mg X.base C) (hr : Room 1 X.A) (hG : X.A.guards = some (gOf X)) (k : Q (.bl (decide (r = s)))) : OD X (compareOp .Eq) (Ra C (fr r)) (Ra C (fr s)) Q :=
  od_eqO L.V.T.nu L.eq hr hG ⟨_, _, rfl, .inl ⟨_, rfl, by rw [fr_inj]; exact k⟩⟩
theorem od_neQ (L : Lv X.prog X.w X.K X.mg X.base C) (hr : Room 2 X.A) (hG : X.A.guards = some (gOf X)) (k : Q (.bl (!decide (r = s)))) : OD X (compareOp .NotEq) (Ra C (fr r)) (Ra C (fr s)) Q :=
  od_neO L.V.T.nu L.V.T.ne L.eq hr hG ⟨_, _, rfl, .inl ⟨_, rfl, _, rfl, by rw [fr_inj]; exact k⟩⟩
end
/-! is_list of any value -/
def isL : D → Bool
  | .lst _ => true
  | .tup _ => true
  | _ => false
theorem Kn.tl {T : Txt K mg C} {d : D} (h : Kn C d) : ∃ t, TyD K d t ∧ PySem.W.kitAny K t [.type "list", .type "tuple"] = some (isL d) := by
  cases h with
  | non => exact ⟨_, .non, T.l0 _ (.inl rfl)⟩
  | bl b => exact ⟨_, .bl b, T.l0 _ (.inr (.inl rfl))⟩
  | str s => exact ⟨_, .str s, T.l0 _ (.inr (.inr (.inl rfl)))⟩
  | int i => exact ⟨_, .int i, T.l0 _ (.inr (.inr (.inr (.inl rfl))))⟩
  | dct => exact ⟨_, .dct, T.l0 _ (.inr (.inr (.inr (.inr rfl))))⟩
  | tup l => exact ⟨_, .tup l, T.l2⟩
  | lst l => exact ⟨_, .lst l, T.l1⟩
  | rat p => exact ⟨_, .obj _ T.is, T.l3⟩
theorem ok_islist2 {f : Addr} {fd : FuncData} (F : FunS K "is_list" "is_list" sIsList f fd) (T : Txt K mg C) : GnOk P w K mg base 1 f fd ["value"] (lift K (spB C isL)) := by
  refine gn_dl F sc_islist (fun as Q h => by obtain ⟨d, rfl, _⟩ := h; rfl) (fun cdv A outer s H hr hG W as Q h => ?_)
  obtain ⟨d, rfl, kn, q⟩ := h
  obtain ⟨t, ty, ka⟩ := kn.tl (T := T)
  exact sds_cons (sd_ret (ed_callB T.isi (ad_cons (nm 0 (ad_cons (ed_tup (ad_cons (ed_ty T.list (ad_cons (ed_ty T.tuple (ad_nil ⟨[.ty "list", .ty "tuple"], rfl, by decide, ad_nil (cd_isi2 ty (.ty _) (.ty _) ka q)⟩)))))))))))
/-! totals -/
theorem sumQ_snoc (rs : List Rat) (r : Rat) : sumQ (rs ++ [r]) = sumQ rs + r := by unfold sumQ; rw [List.foldl_append]; rfl
theorem sumQ_bd {n : Nat} {rs : List Rat} (h : ∀ r ∈ rs, Bq n r) : ∀ i, i ≤ rs.length → Bq (1 + (n + 1) * i) (sumQ (rs.take i))
  | 0, _ => ⟨by show 0 < 2 ^ (1 + (n + 1) * 0); exact Nat.pow_pos (by decide), by show 1 < 2 ^ (1 + (n + 1) * 0); rw [Nat.mul_zero]; decide, by show (0 : Int) < 1; decide⟩
  | i + 1, hi => by
    have e : rs[i]? = some rs[i] := List.getElem?_eq_getElem (by omega)
    rw [List.take_add_one, e]
    show Bq _ (sumQ (rs.take i ++ [rs[i]]))
    rw [sumQ_snoc]
    exact ((sumQ_bd h i (by omega)).add (h _ (List.getElem_mem _))).le (by rw [Nat.mul_succ]; omega)
theorem Nqs.get {n : Nat} : ∀ {l : List D} {rs : List Rat} {i : Nat} {d : D}, Nqs C n l rs → l[i]? = some d → ∃ r, rs[i]? = some r ∧ Nq C n d r
  | _, _, _, _, .nil, e => by simp at e
  | _, _, 0, _, .cons h _, e => by cases e; exact ⟨_, rfl, h⟩
  | _, _, i + 1, _, .cons _ t, e => Nqs.get (i := i) t e
theorem Nqs.get' {n : Nat} : ∀ {l : List D} {rs : List Rat} {i : Nat} {r : Rat}, Nqs C n l rs → rs[i]? = some r → ∃ d, l[i]? = some d ∧ Nq C n d r
  | _, _, _, _, .nil, e => by simp at e
  | _, _, 0, _, .cons h _, e => by cases e; exact ⟨_, rfl, h⟩
  | _, _, i + 1, _, .cons _ t, e => Nqs.get' (i := i) t e
theorem Nqs.len {n : Nat} {l : List D} {rs : List Rat} (h : Nqs C n l rs) : l.length = rs.length := Paired.length h
theorem Nqs.bd {n : Nat} {l : List D} {rs : List Rat} (h : Nqs C n l rs) : ∀ r ∈ rs, Bq n r := fun r hr => by
  obtain ⟨i, hi, rfl⟩ := List.getElem_of_mem hr
  obtain ⟨d, _, q⟩ := h.get' (List.getElem?_eq_getElem hi)
  exact q.b
theorem Nqs.mono {n m : Nat} (k : n ≤ m) : ∀ {l : List D} {rs : List Rat}, Nqs C n l rs → Nqs C m l rs
  | _, _, .nil => .nil
  | _, _, .cons h t => .cons (h.mono k) (Nqs.mono k t)
theorem Nqs.snoc {n : Nat} {d : D} {r : Rat} (q : Nq C n d r) : ∀ {l : List D} {rs : List Rat}, Nqs C n l rs → Nqs C n (l ++ [d]) (rs ++ [r])
  | _, _, .nil => .cons q .nil
  | _, _, .cons h t => .cons h (Nqs.snoc q t)
theorem Nqs.rats {n : Nat} : ∀ {rs : List Rat}, (∀ r ∈ rs, Bq n r) → Nqs C n (rs.map fun r => Ra C (fr r)) rs
  | [], _ => .nil
  | r :: rs, h => .cons (.rat r (h r (by simp))) (Nqs.rats fun r hr => h r (by simp [hr]))
abbrev spTot (C : Addr) : SpD := fun as Q => ∃ x l rs n, as = [.val (.cls C), .val x] ∧ SeqD x l ∧ Nqs C n l rs ∧ 1 + (n + 1) * l.length ≤ 2900 ∧ Q (Ra C (fr (sumQ rs)))
theorem ok_total2 {f : Addr} {fd : FuncData} (F : FunS K "total" "Ratio.total" (rat 16) f fd) (L : Lv P w K mg base C) (G : Df P w K mg base "is_list" 1 1 (spB C isL)) : GnOk P w K mg base 7 f fd ["cls", "numbers"] (lift K (spTot C)) := by
  refine gn_dl F sc_total (fun as Q h => by obtain ⟨_, _, _, _, rfl, _⟩ := h; rfl) (fun cdv A outer s H hr hG W as Q h => ?_)
  obtain ⟨x, l, rs, n, rfl, hx, hn, hm, k⟩ := h
  have nd := sc_total.nd
  have bd := hn.bd
  have len := hn.len
  have V := L.V
  have kx : Kn C x ∧ isL x = true := by rcases hx with rfl | rfl <;> exact ⟨by constructor, rfl⟩
  have small : ∀ i, i < l.length → Bq 3000 (sumQ (rs.take i)) := fun i hi => (sumQ_bd bd i (by omega)).le (by
    have : (n + 1) * i ≤ (n + 1) * l.length := Nat.mul_le_mul_left _ (by omega)
    omega)
  have n1 : l.length = 0 ∨ n ≤ 2900 := by
    rcases Nat.eq_zero_or_pos l.length with z | z
    · exact .inl z
    · have : (n + 1) * 1 ≤ (n + 1) * l.length := Nat.mul_le_mul_left _ z
      exact .inr (by omega)
  refine sds_cons (sd_if (td_not (td_val (ed_call G (hr.mono (by decide)) hG (ad_cons (nm 1 (ad_nil ⟨x, rfl, kx.1, kB ?_⟩)))))))
  rw [kx.2]
  refine sds_nil (sds_cons (sd_set 2 nd rfl (ed_makeL 0 V.mk1 (hr.mono (by decide)) hG rfl rfl (ad_cons (ed_int (ad_nil (mk_ok (n := 1) (by decide) (by decide) (by decide) (by decide) ?_)))))))
  rw [low_one]
  have inv0 : ∃ v, (startE ["cls", "numbers", "result", "number"] [.val (.cls C), .val x]).set 2 (some (.val (.obj C (rf (0, 1))))) = [some (.val (.cls C)), some (.val x), some (.val (Ra C (fr (sumQ (rs.take 0))))), v] := ⟨none, rfl⟩
  rcases hx with rfl | rfl
  · refine sds_cons (sd_forL (l := l) PassesOwn.never rfl (fun i S' => ∃ v, S' = [some (.val (.cls C)), some (.val (.lst l)), some (.val (Ra C (fr (sumQ (rs.take i))))), v]) (nm 1 ⟨rfl, inv0⟩) ?_ ?_)
    · rintro i d S' hi ⟨v, rfl⟩
      obtain ⟨r, e, q⟩ := hn.get hi
      have hi2 : i < l.length := (List.getElem?_eq_some_iff.mp hi).1
      refine gd_name 3 nd rfl (sds_cons (sd_set 2 nd rfl (ed_bin (nm 2 (nm 3 (od_addQ L hr hG (small i hi2) (q.mono (by omega)) ?_))))))
      have es : sumQ (rs.take (i + 1)) = sumQ (rs.take i) + r := by rw [List.take_add_one, e]; exact sumQ_snoc _ _
      refine sds_nil ⟨some (.val d), ?_⟩
      rw [es]
      rfl
    · rintro S' ⟨v, rfl⟩
      rw [show rs.take l.length = rs by rw [len]; exact List.take_length]
      exact sds_cons (sd_ret (nm 2 k))
  · refine sds_cons (sd_forT (l := l) PassesOwn.never rfl (fun i S' => ∃ v, S' = [some (.val (.cls C)), some (.val (.tup l)), some (.val (Ra C (fr (sumQ (rs.take i))))), v]) (nm 1 ⟨rfl, inv0⟩) ?_ ?_)
    · rintro i d S' hi ⟨v, rfl⟩
      obtain ⟨r, e, q⟩ := hn.get hi
      have hi2 : i < l.length := (List.getElem?_eq_some_iff.mp hi).1
      refine gd_name 3 nd rfl (sds_cons (sd_set 2 nd rfl (ed_bin (nm 2 (nm 3 (od_addQ L hr hG (small i hi2) (q.mono (by omega)) ?_))))))
      have es : sumQ (rs.take (i + 1)) = sumQ (rs.take i) + r := by rw [List.take_add_one, e]; exact sumQ_snoc _ _
      refine sds_nil ⟨some (.val d), ?_⟩
      rw [es]
      rfl
    · rintro S' ⟨v, rfl⟩
      rw [show rs.take l.length = rs by rw [len]; exact List.take_length]
      exact sds_cons (sd_ret (nm 2 k))
end
end K31

set_option Elab.async false
set_option linter.all false
set_option maxRecDepth 100000
set_option maxHeartbeats 4000000
/-! k31: the program's own defs over tables -/
namespace K31
open PySem L2 DL
abbrev sIsNumbers : Stmt := top 13
abbrev sRatiosOf : Stmt := top 15
abbrev sCheckDir : Stmt := top 17
abbrev sIsTable : Stmt := top 20
abbrev sCheckTable : Stmt := top 21
abbrev sRatioRows : Stmt := top 22
abbrev sValueAt : Stmt := top 23
abbrev sDotted : Stmt := top 24
section
variable {P : Program} {w : World} {K : PySem.W.Frag} {mg : Str → Option Value} {base : Heap} {C : Addr}
theorem map_isN {l : List D} : (l.map fun d => D.bl (isN d)) = (l.map isN).map D.bl := by rw [List.map_map]; rfl
theorem all_id {l : List D} {f : D → Bool} : (l.map f).all id = l.all f := by rw [List.all_map]; rfl
theorem seq_kn {d : D} {l : List D} (h : SeqD d l) : Kn C d ∧ isL d = true := by rcases h with rfl | rfl <;> exact ⟨by constructor, rfl⟩
abbrev spNums (C : Addr) : SpD := fun as Q => ∃ d, ∃ m : Int, as = [.val d, .val (.int m)] ∧ ((isL d = false ∧ Kn C d ∧ Q (.bl false)) ∨ ∃ l, SeqD d l ∧ (∀ e ∈ l, Kn C e) ∧ l.length ≤ 50000 ∧ Q (.bl (decide ((l.length : Int) = m) && l.all isN)))
theorem sc_nums : FnScope ["value", "many", "number"] ["value", "many"] (defScope sIsNumbers) := ⟨rfl, rfl, rfl, by decide +kernel, rfl, by decide +kernel, by decide +kernel⟩
theorem ok_nums {f : Addr} {fd : FuncData} (F : FunS K "is_numbers" "is_numbers" sIsNumbers f fd) (L : Lv P w K mg base C) (G : Df P w K mg base "is_list" 1 1 (spB C isL)) : GnOk P w K mg base 3 f fd ["value", "many"] (lift K (spNums C)) := by
  refine gn_dl F sc_nums (fun as Q h => by obtain ⟨_, _, rfl, _⟩ := h; rfl) (fun cdv A outer s H hr hG W as Q h => ?_)
  obtain ⟨d, m, rfl, h⟩ := h
  have nd := sc_nums.nd
  have T := L.V.T
  have r1 := hr.mono (j := 1) (by decide)
  rcases h with ⟨nl, kn, q⟩ | ⟨l, sd, kl, hl, q⟩
  · refine sds_cons (sd_ret (ed_and (ed_call G r1 hG (ad_cons (nm 0 (ad_nil ⟨d, rfl, kn, kB ?_⟩))))))
    rw [nl]
    exact q
  · obtain ⟨kn, il⟩ := seq_kn (C := C) sd
    refine sds_cons (sd_ret (ed_and (ed_call G r1 hG (ad_cons (nm 0 (ad_nil ⟨d, rfl, kn, kB ?_⟩))))))
    rw [il]
    refine ed_and (ed_cmp (ed_callB T.len (ad_cons (nm 0 (ad_nil (cd_len sd (nm 1 (od_eqi (kB ?_)))))))))
    by_cases c : (l.length : Int) = m
    · rw [decide_eq_true c] at q ⊢
      rw [Bool.true_and] at q
      refine ed_one (ed_callB T.all (ad_cons (ed_fd (fd_relS (fun d y => y = .bl (isN d)) 2 (own := [("number", 2)]) rfl nd (blkOk_by (by show blkC ["value", "many", "number"] (defScope sIsNumbers) _ _ = true; decide +kernel)) (fun _ _ _ _ _ => pg_name (i := 2) nd rfl (Or.inl rfl)) sd hl (nm 0 rfl) (by simp) ?_ ?_))))
      · intro d hd s2 H0 C2 cl fp
        exact ed_call L.isnum (hr.mono (by decide)) hG (ad_cons (nm 2 (ad_nil ⟨d, rfl, kl d hd, rfl⟩)))
      · intro out ho
        rw [paired_map ho, map_isN]
        refine ad_nil (cd_all rfl ?_)
        rw [all_id]
        exact q
    · rw [decide_eq_false c] at q ⊢
      exact q
abbrev spRatios (C : Addr) : SpD := fun as Q => ∃ d l rs, as = [.val d] ∧ SeqD d l ∧ Nqs C 3000 l rs ∧ l.length ≤ 1000 ∧ Q (.lst (rs.map fun r => Ra C (fr r)))
theorem sc_ratios : FnScope ["numbers", "number"] ["numbers"] (defScope sRatiosOf) := ⟨rfl, rfl, rfl, by decide +kernel, rfl, by decide +kernel, by decide +kernel⟩
theorem paired_nqs {n : Nat} : ∀ {l : List D} {rs : List Rat} {out : List D}, Nqs C n l rs → Paired (fun d y => ∀ r, Nq C n d r → y = Ra C (fr r)) l out → out = rs.map fun r => Ra C (fr r)
  | _, _, _, .nil, .nil => rfl
  | _, _, _, .cons h t, .cons g s => by rw [List.map_cons, g _ h, paired_nqs t s]
theorem Nq.uniq {n m : Nat} {d : D} {r s : Rat} (h : Nq C n d r) (k : Nq C m d s) : fr r = fr s := by
  cases h with
  | rat r h =>
    generalize e : Ra C (fr r) = x at k
    cases k with
    | rat s h' =>
      have e1 : (fr r).1 = (fr s).1 := by injection e with _ e; injection e with e _; injection e with _ e; injection e
      have e2 : (fr r).2 = (fr s).2 := by injection e with _ e; injection e with _ e; injection e with e _; injection e with _ e; injection e
      exact Prod.ext e1 e2
    | int i h' => cases e
  | int i h =>
    cases k with
    | int j h' => rfl
theorem ok_ratios {f : Addr} {fd : FuncData} (F : FunS K "ratios_of" "ratios_of" sRatiosOf f fd) (L : Lv P w K mg base C) : GnOk P w K mg base 5 f fd ["numbers"] (lift K (spRatios C)) := by
  refine gn_dl F sc_ratios (fun as Q h => by obtain ⟨_, _, _, rfl, _⟩ := h; rfl) (fun cdv A outer s H hr hG W as Q h => ?_)
  obtain ⟨d, l, rs, rfl, sd, hn, hl, q⟩ := h
  have nd := sc_ratios.nd
  refine sds_cons (sd_ret (ed_fd (fd_relS (fun d y => ∀ r, Nq C 3000 d r → y = Ra C (fr r)) 1 (own := [("number", 1)]) rfl nd (blkOk_by (by show blkC ["numbers", "number"] (defScope sRatiosOf) _ _ = true; decide +kernel)) (fun _ _ _ _ _ => pg_name (i := 1) nd rfl (Or.inl rfl)) sd (by omega) (nm 0 rfl) (by simp) ?_ ?_)))
  · intro d hd s2 H0 C2 cl fp
    obtain ⟨i, hi, e⟩ := List.getElem_of_mem hd
    obtain ⟨r, _, nq⟩ := hn.get (List.getElem?_eq_getElem hi)
    rw [e] at nq
    exact ed_call L.ratof hr hG (ad_cons (nm 1 (ad_nil ⟨d, fr r, rfl, nq.nr, fun s hs => by rw [nq.uniq hs]⟩)))
  · intro out ho
    rw [paired_nqs hn ho]
    exact q
abbrev spCheckDir (C : Addr) : SpD := fun as Q => ∃ d l rs n, as = [.val d, .val (.int (l.length : Int))] ∧ SeqD d l ∧ Nqs C n l rs ∧ l.length ≤ 1000 ∧ Q .non
theorem sc_checkdir : FnScope ["direction", "many"] ["direction", "many"] (defScope sCheckDir) := ⟨rfl, rfl, rfl, by decide +kernel, rfl, by decide +kernel, by decide +kernel⟩
theorem Nqs.kn {n : Nat} {l : List D} {rs : List Rat} (h : Nqs C n l rs) : (∀ e ∈ l, Kn C e) ∧ l.all isN = true := by
  have key : ∀ e ∈ l, ∃ r, Nq C n e r := fun e he => by
    obtain ⟨i, hi, rfl⟩ := List.getElem_of_mem he
    obtain ⟨r, _, q⟩ := h.get (List.getElem?_eq_getElem hi)
    exact ⟨r, q⟩
  exact ⟨fun e he => let ⟨r, q⟩ := key e he; q.kn, List.all_eq_true.mpr fun e he => let ⟨r, q⟩ := key e he; q.num⟩
theorem ok_checkdir {f : Addr} {fd : FuncData} (F : FunS K "check_direction" "check_direction" sCheckDir f fd) (N : Df P w K mg base "is_numbers" 3 2 (spNums C)) : GnOk P w K mg base 4 f fd ["direction", "many"] (lift K (spCheckDir C)) := by
  refine gn_dl F sc_checkdir (fun as Q h => by obtain ⟨_, _, _, _, rfl, _⟩ := h; rfl) (fun cdv A outer s H hr hG W as Q h => ?_)
  obtain ⟨d, l, rs, n, rfl, sd, hn, hl, q⟩ := h
  obtain ⟨kl, al⟩ := hn.kn
  refine sds_cons (sd_if (td_not (td_val (ed_call N hr hG (ad_cons (nm 0 (ad_cons (nm 1 (ad_nil ⟨d, _, rfl, .inr ⟨l, sd, kl, by omega, kB ?_⟩⟩)))))))))
  rw [decide_eq_true rfl, al]
  exact sds_nil (sds_nil q)
/-! products added -/
def dotQ : List Rat → List Rat → Rat := fun rs ss => sumQ (List.zipWith (· * ·) rs ss)
abbrev spDot (C : Addr) : SpD := fun as Q => ∃ d d' l l' rs ss m n, as = [.val d, .val d'] ∧ SeqD d l ∧ SeqD d' l' ∧ Nqs C m l rs ∧ Nqs C n l' ss ∧ l.length = l'.length ∧ l.length ≤ 1000 ∧ m ≤ 3000 ∧ n ≤ 3000 ∧ 1 + (m + n + 1) * l.length ≤ 2900 ∧ Q (Ra C (fr (dotQ rs ss)))
theorem sc_dot : FnScope ["numbers", "others", "one", "two"] ["numbers", "others"] (defScope sDotted) := ⟨rfl, rfl, rfl, by decide +kernel, rfl, by decide +kernel, by decide +kernel⟩
theorem nqs_of {n : Nat} : ∀ {l : List D} {rs : List Rat}, l.length = rs.length → (∀ (i : Nat) d r, l[i]? = some d → rs[i]? = some r → Nq C n d r) → Nqs C n l rs
  | [], [], _, _ => .nil
  | _ :: _, _ :: _, e, h => .cons (h 0 _ _ rfl rfl) (nqs_of (Nat.succ.inj e) fun i d r a b => h (i + 1) d r a b)
theorem ok_dot {f : Addr} {fd : FuncData} (F : FunS K "dotted" "dotted" sDotted f fd) (L : Lv P w K mg base C) (Z : Cm P w K mg base C "total" 7 (spTot C)) : GnOk P w K mg base 8 f fd ["numbers", "others"] (lift K (spDot C)) := by
  refine gn_dl F sc_dot (fun as Q h => by obtain ⟨_, _, _, _, _, _, _, _, rfl, _⟩ := h; rfl) (fun cdv A outer s H hr hG W as Q h => ?_)
  obtain ⟨d, d', l, l', rs, ss, m, n, rfl, sd, sd', hn, hn', ll, hl, hm0, hn0, hb, q⟩ := h
  have nd := sc_dot.nd
  have T := L.V.T
  refine sds_cons (sd_ret (ed_cmeth Z hr hG (ed_cls T.mC ⟨rfl, ad_cons (ed_fd (fd_relZ (fun a b y => ∀ r s, Nq C m a r → Nq C n b s → Nq C (m + n) y (r * s)) 2 3 (own := [("one", 2), ("two", 3)]) rfl nd T.zip (blkOk_by (by show blkC ["numbers", "others", "one", "two"] (defScope sDotted) _ _ = true; decide +kernel)) (fun _ _ _ _ _ => pg_tup rfl (pgs_cons (pg_name (i := 2) nd rfl (Or.inl rfl)) (pgs_cons (pg_name (i := 3) nd rfl (Or.inl rfl)) pgs_nil rfl) rfl)) ll (by omega) sd sd' (ad_cons (nm 0 (ad_cons (nm 1 (ad_nil rfl))))) (by simp) (by simp) ?_ ?_))⟩)))
  · intro i a b ha hb' s2 H0 C2 cl fp
    obtain ⟨r, er, qr⟩ := hn.get ha
    obtain ⟨s, es, qs⟩ := hn'.get hb'
    refine ed_bin (nm 2 (nm 3 (od_mulQ L (hr.mono (by decide)) hG qr qs hm0 hn0 fun y hy r' s' h1 h2 => ?_)))
    have e1 : r' = r := by have := h1.uniq qr; exact Rat.ext (congrArg Prod.fst this) (Int.ofNat_inj.mp (congrArg Prod.snd this))
    have e2 : s' = s := by have := h2.uniq qs; exact Rat.ext (congrArg Prod.fst this) (Int.ofNat_inj.mp (congrArg Prod.snd this))
    rw [e1, e2]
    exact hy
  · intro out lo ho
    refine ad_nil ⟨_, out, List.zipWith (· * ·) rs ss, m + n, rfl, .inl rfl, nqs_of ?_ ?_, by rw [lo]; exact hb, q⟩
    · rw [lo, List.length_zipWith, ← hn.len, ← hn'.len, ← ll, Nat.min_self]
    · intro i y z hy hz
      rw [List.getElem?_zipWith] at hz
      cases er : rs[i]? with
      | none => rw [er] at hz; cases hz
      | some r =>
        cases es : ss[i]? with
        | none => rw [er, es] at hz; cases hz
        | some s =>
          rw [er, es] at hz
          cases hz
          obtain ⟨a, ha, qa⟩ := hn.get' er
          obtain ⟨b, hb', qb⟩ := hn'.get' es
          exact ho i a b y ha hb' hy r s qa qb
end
end K31

set_option Elab.async false
set_option linter.all false
set_option maxRecDepth 100000
set_option maxHeartbeats 8000000
/-! k31: is_table, value_at -/
namespace K31
open PySem L2 DL
def rowD (C : Addr) (rs : List Rat) : D := .lst (rs.map fun r => Ra C (fr r))
def matD (C : Addr) (M : List (List Rat)) : D := .lst (M.map (rowD C))
/-- the rows that are handed are these -/
def RowsAre (C : Addr) (n : Nat) (l : List D) (M : List (List Rat)) : Prop := Paired (fun e rs => ∃ le, SeqD e le ∧ Nqs C n le rs ∧ le.length ≤ 1000) l M
theorem RowsAre.len {C : Addr} {n : Nat} {l : List D} {M : List (List Rat)} (h : RowsAre C n l M) : l.length = M.length := Paired.length h
theorem RowsAre.mono {C : Addr} {n m : Nat} (k : n ≤ m) : ∀ {l : List D} {M : List (List Rat)}, RowsAre C n l M → RowsAre C m l M
  | _, _, .nil => .nil
  | _, _, .cons ⟨le, a, b, c⟩ t => .cons ⟨le, a, Nqs.mono k b, c⟩ (RowsAre.mono k t)
theorem RowsAre.get {C : Addr} {n : Nat} : ∀ {l : List D} {M : List (List Rat)} {i : Nat} {e : D}, RowsAre C n l M → l[i]? = some e → ∃ rs le, M[i]? = some rs ∧ SeqD e le ∧ Nqs C n le rs ∧ le.length ≤ 1000
  | _, _, _, _, .nil, e => by simp at e
  | _, _, 0, _, .cons ⟨le, a, b, c⟩ _, e => by cases e; exact ⟨_, le, rfl, a, b, c⟩
  | _, _, i + 1, _, .cons _ t, e => RowsAre.get (i := i) t e
/-- the number at a place -/
def at2 (M : List (List Rat)) (i j : Nat) : Rat := ((M[i]?.getD [])[j]?).getD 0
def Sym (M : List (List Rat)) : Prop := ∀ i j, i < M.length → j < i → at2 M i j = at2 M j i
def Square (M : List (List Rat)) : Prop := ∀ rs ∈ M, rs.length = M.length
theorem matD_at {C : Addr} {M : List (List Rat)} {i j : Nat} (hs : Square M) (hi : i < M.length) (hj : j < M.length) : ∃ rs, atI (M.map (rowD C)) (i : Int) = some (rowD C rs) ∧ atI (rs.map fun r => Ra C (fr r)) (j : Int) = some (Ra C (fr (at2 M i j))) := by
  have e : M[i]? = some M[i] := List.getElem?_eq_getElem hi
  have lj : j < M[i].length := by rw [hs _ (List.getElem_mem hi)]; exact hj
  have e2 : M[i][j]? = some M[i][j] := List.getElem?_eq_getElem lj
  refine ⟨M[i], atI_nat (by rw [List.getElem?_map, e]; rfl), atI_nat ?_⟩
  rw [List.getElem?_map, e2]
  show some (Ra C (fr M[i][j])) = some (Ra C (fr (at2 M i j)))
  unfold at2
  rw [e, Option.getD_some, e2, Option.getD_some]
section
variable {P : Program} {w : World} {K : PySem.W.Frag} {mg : Str → Option Value} {base : Heap} {C : Addr}
abbrev spRows (C : Addr) : SpD := fun as Q => ∃ d l M, as = [.val d] ∧ SeqD d l ∧ RowsAre C 3000 l M ∧ l.length ≤ 1000 ∧ Q (matD C M)
theorem sc_rows : FnScope ["rows", "row"] ["rows"] (defScope sRatioRows) := ⟨rfl, rfl, rfl, by decide +kernel, rfl, by decide +kernel, by decide +kernel⟩
theorem fr_inj' {r s : Rat} (h : fr r = fr s) : r = s := Rat.ext (congrArg Prod.fst h) (Int.ofNat_inj.mp (congrArg Prod.snd h))
theorem nqs_uniq {m n : Nat} : ∀ {l : List D} {rs ss : List Rat}, Nqs C m l rs → Nqs C n l ss → rs = ss
  | _, _, _, .nil, .nil => rfl
  | _, _, _, .cons h t, .cons h' t' => by rw [fr_inj' (h.uniq h'), nqs_uniq t t']
theorem paired_rows {n : Nat} : ∀ {l : List D} {M : List (List Rat)} {out : List D}, RowsAre C n l M → Paired (fun d y => ∀ le rs, SeqD d le → Nqs C n le rs → y = rowD C rs) l out → out = M.map (rowD C)
  | _, _, _, .nil, .nil => rfl
  | _, _, _, .cons ⟨le, a, b, c⟩ t, .cons g s => by rw [List.map_cons, g le _ a b, paired_rows t s]
theorem seq_uniq {d : D} {l m : List D} (h : SeqD d l) (k : SeqD d m) : l = m := by
  rcases h with rfl | rfl <;> rcases k with e | e <;> cases e <;> rfl
theorem ok_rows {f : Addr} {fd : FuncData} (F : FunS K "ratio_rows" "ratio_rows" sRatioRows f fd) (G : Df P w K mg base "ratios_of" 5 1 (spRatios C)) : GnOk P w K mg base 6 f fd ["rows"] (lift K (spRows C)) := by
  refine gn_dl F sc_rows (fun as Q h => by obtain ⟨_, _, _, rfl, _⟩ := h; rfl) (fun cdv A outer s H hr hG W as Q h => ?_)
  obtain ⟨d, l, M, rfl, sd, hn, hl, q⟩ := h
  have nd := sc_rows.nd
  refine sds_cons (sd_ret (ed_fd (fd_relS (fun d y => ∀ le rs, SeqD d le → Nqs C 3000 le rs → y = rowD C rs) 1 (own := [("row", 1)]) rfl nd (blkOk_by (by show blkC ["rows", "row"] (defScope sRatioRows) _ _ = true; decide +kernel)) (fun _ _ _ _ _ => pg_name (i := 1) nd rfl (Or.inl rfl)) sd (by omega) (nm 0 rfl) (by simp) ?_ ?_)))
  · intro e he s2 H0 C2 cl fp
    obtain ⟨i, hi, ee⟩ := List.getElem_of_mem he
    obtain ⟨rs, le, _, se, nq, lle⟩ := hn.get (List.getElem?_eq_getElem hi)
    rw [ee] at se
    exact ed_call G hr hG (ad_cons (nm 1 (ad_nil ⟨e, le, rs, rfl, se, nq, lle, fun le' rs' s' n' => by
      have := seq_uniq se s'
      subst this
      rw [nqs_uniq n' nq]
      rfl⟩)))
  · intro out ho
    rw [paired_rows hn ho]
    exact q
/-! is it a table -/
/-- the number that a datum is -/
def valQ : D → Rat
  | .int i => i
  | .obj _ [(_, .int t), (_, .int b)] => Rat.divInt t b
  | _ => 0
theorem Nq.val {n : Nat} {d : D} {r : Rat} (h : Nq C n d r) : valQ d = r := by
  cases h with
  | rat r h => exact fr_val r
  | int i h => rfl
def items : D → List D
  | .lst l => l
  | .tup l => l
  | _ => []
theorem seq_items {d : D} {l : List D} (h : SeqD d l) : items d = l := by rcases h with rfl | rfl <;> rfl
def rowB (n : Nat) (e : D) : Bool := isL e && (decide ((items e).length = n) && (items e).all isN)
def ent (l : List D) (i j : Nat) : Rat := (((items ((l[i]?).getD .non))[j]?).map valQ).getD 0
def SymD (l : List D) : Prop := ∀ i j, i < l.length → j < i → ent l i j = ent l j i
open Classical in
noncomputable def tabB (l : List D) : Bool := decide (1 ≤ l.length) && (l.all (rowB l.length) && decide (SymD l))
/-- a row as it may be handed -/
def RowLike (C : Addr) (e : D) : Prop := (isL e = false ∧ Kn C e) ∨ ∃ le, SeqD e le ∧ le.length ≤ 1000 ∧ ∀ x ∈ le, Kn C x ∧ (isN x = true → ∃ r, Nq C 3000 x r)
theorem nqs_ex {n : Nat} : ∀ {l : List D}, (∀ x ∈ l, ∃ r, Nq C n x r) → ∃ rs, Nqs C n l rs
  | [], _ => ⟨[], .nil⟩
  | x :: l, h => by
    obtain ⟨r, q⟩ := h x (by simp)
    obtain ⟨rs, t⟩ := nqs_ex (l := l) fun y hy => h y (by simp [hy])
    exact ⟨r :: rs, .cons q t⟩
theorem rows_ex {n : Nat} : ∀ {l : List D}, (∀ e ∈ l, RowLike C e) → l.all (rowB n) = true → ∃ M, RowsAre C 3000 l M ∧ ∀ rs ∈ M, rs.length = n
  | [], _, _ => ⟨[], .nil, by simp⟩
  | e :: l, h, ha => by
    rw [List.all_cons, Bool.and_eq_true] at ha
    obtain ⟨a1, a2⟩ := ha
    obtain ⟨M, t, tl⟩ := rows_ex (l := l) (fun y hy => h y (by simp [hy])) a2
    unfold rowB at a1
    rw [Bool.and_eq_true, Bool.and_eq_true] at a1
    obtain ⟨b1, b2, b3⟩ := a1
    rcases h e (by simp) with ⟨z, _⟩ | ⟨le, se, ll, hx⟩
    · rw [z] at b1; cases b1
    · rw [seq_items se] at b2 b3
      obtain ⟨rs, nq⟩ := nqs_ex (C := C) (n := 3000) (l := le) fun x hm => (hx x hm).2 (List.all_eq_true.mp b3 x hm)
      refine ⟨rs :: M, .cons ⟨le, se, nq, ll⟩ t, fun r hr => ?_⟩
      rcases List.mem_cons.mp hr with rfl | hr
      · rw [← nq.len]; exact of_decide_eq_true b2
      · exact tl r hr
theorem ent_at {n : Nat} {l : List D} {M : List (List Rat)} (h : RowsAre C n l M) (hs : Square M) {i j : Nat} (hi : i < M.length) (hj : j < M.length) : ent l i j = at2 M i j := by
  have el : l[i]? = some (l[i]'(by rw [h.len]; exact hi)) := List.getElem?_eq_getElem _
  obtain ⟨rs, le, em, se, nq, _⟩ := h.get el
  have lr : rs.length = M.length := hs rs (List.mem_of_getElem? em)
  have ee : le[j]? = some (le[j]'(by rw [nq.len, lr]; exact hj)) := List.getElem?_eq_getElem _
  obtain ⟨r, er, q⟩ := nq.get ee
  unfold ent at2
  rw [el, em]
  simp only [Option.getD_some]
  rw [seq_items se, ee, er]
  exact q.val
theorem sym_iff {n : Nat} {l : List D} {M : List (List Rat)} (h : RowsAre C n l M) (hs : Square M) : SymD l ↔ Sym M := by
  unfold SymD Sym
  rw [h.len]
  constructor
  · intro k i j hi hj
    rw [← ent_at h hs hi (by omega), ← ent_at h hs (by omega) hi]
    exact k i j hi hj
  · intro k i j hi hj
    rw [ent_at h hs hi (by omega), ent_at h hs (by omega) hi]
    exact k i j hi hj
abbrev spTable (C : Addr) : SpD := fun as Q => ∃ d l, as = [.val d] ∧ SeqD d l ∧ l.length ≤ 20 ∧ (∀ e ∈ l, RowLike C e) ∧ Q (.bl (tabB l))
theorem sc_table : FnScope ["value", "rows", "row", "i", "j"] ["value"] (defScope sIsTable) := ⟨rfl, rfl, rfl, by decide +kernel, rfl, by decide +kernel, by decide +kernel⟩
theorem paired_mapB {f : D → Bool} : ∀ {l out : List D}, Paired (fun d y => y = .bl (f d)) l out → out = (l.map f).map D.bl
  | _, _, .nil => rfl
  | _, _, .cons h t => by rw [List.map_cons, List.map_cons, h, paired_mapB t]
open Classical in
theorem ok_table {f : Addr} {fd : FuncData} (F : FunS K "is_table" "is_table" sIsTable f fd) (L : Lv P w K mg base C) (G : Df P w K mg base "is_list" 1 1 (spB C isL)) (N : Df P w K mg base "is_numbers" 3 2 (spNums C)) (R : Df P w K mg base "ratio_rows" 6 1 (spRows C)) (mr : ∃ tk, mg "MOST_ROWS" = some (.int 20 tk)) : GnOk P w K mg base 7 f fd ["value"] (lift K (spTable C)) := by
  refine gn_dl F sc_table (fun as Q h => by obtain ⟨_, _, rfl, _⟩ := h; rfl) (fun cdv A outer s H hr hG W as Q h => ?_)
  obtain ⟨d, l, rfl, sd, hl, hx, q⟩ := h
  obtain ⟨tk, mr⟩ := mr
  have nd := sc_table.nd
  have T := L.V.T
  have r1 := hr.mono (j := 1) (by decide)
  obtain ⟨kn, il⟩ := seq_kn (C := C) sd
  unfold tabB at q
  refine sds_cons (sd_if (td_of (tw_or (td_not (td_val (ed_call G r1 hG (ad_cons (nm 0 (ad_nil ⟨d, rfl, kn, kB ?_⟩)))))))))
  rw [il]
  refine tw_or1 (td_not (td_chain (ed_int (ed_callB T.len (ad_cons (nm 0 (ad_nil (cd_len sd (od_le ⟨_, rfl, ?_⟩)))))))))
  by_cases c1 : 1 ≤ l.length
  rotate_left
  · rw [decide_eq_false (by omega)]
    rw [decide_eq_false c1] at q
    show SDs _ _ _ _ _ _
    exact sds_cons (sd_ret (ed_bl q))
  rw [decide_eq_true (by omega)]
  refine ed_globI mr (od_le (kB ?_))
  rw [decide_eq_true (by omega)]
  rw [decide_eq_true c1, Bool.true_and] at q
  refine sds_nil ?_
  refine sds_cons (sd_if (td_not (td_val (ed_callB T.all (ad_cons (ed_fd (fd_relS (fun d y => y = .bl (rowB l.length d)) 2 (own := [("row", 2)]) rfl nd (blkOk_by (by show blkC ["value", "rows", "row", "i", "j"] (defScope sIsTable) _ _ = true; decide +kernel)) (fun _ _ _ _ _ => pg_name (i := 2) nd rfl (Or.inl rfl)) sd (by omega) (nm 0 rfl) (by simp) ?_ ?_)))))))
  · intro e he s2 H0 C2 cl fp
    refine ed_call N (hr.mono (by decide)) hG (ad_cons (nm 2 (ad_cons (ed_callB T.len (ad_cons (nm 0 (ad_nil (cd_len sd (ad_nil ⟨e, _, rfl, ?_⟩)))))))))
    rcases hx e he with ⟨z, k⟩ | ⟨le, se, ll, hx'⟩
    · refine .inl ⟨z, k, ?_⟩
      unfold rowB
      rw [z]
      rfl
    · refine .inr ⟨le, se, fun x hm => (hx' x hm).1, by omega, ?_⟩
      unfold rowB
      rw [(seq_kn (C := C) se).2, seq_items se, Bool.true_and]
      congr 2
      exact decide_eq_decide.mpr Int.ofNat_inj
  intro out ho
  rw [paired_mapB ho]
  refine ad_nil (cd_all rfl (kB ?_))
  rw [all_id]
  cases ca : l.all (rowB l.length) with
  | false =>
    rw [ca] at q
    exact sds_cons (sd_ret (ed_bl q))
  | true =>
    rw [ca, Bool.true_and] at q
    refine sds_nil ?_
    obtain ⟨M, hM, sq⟩ := rows_ex hx ca
    have lM := hM.len
    have sqM : Square M := fun rs h => by rw [sq rs h, lM]
    refine sds_cons (sd_set 1 nd rfl (ed_call R hr hG (ad_cons (nm 0 (ad_nil ⟨d, l, M, rfl, sd, hM, by omega, ?_⟩)))))
    refine sds_cons (sd_ret (ed_callB T.all (ad_cons (ed_fd (fd_lcRR (n := (M.length : Int)) (own := [("i", 3), ("j", 4)]) (vs1 := [4]) (g := gName 3) (g1 := gName 4) (fun i => i) (fun i j acc => i ≤ M.length ∧ j ≤ i ∧ ∃ bs : List Bool, acc = bs.map D.bl ∧ bs.length ≤ 20 * i + j ∧ (bs.all id = true ↔ ∀ a b, b < a → (a < i ∨ (a = i ∧ b < j)) → at2 M a b = at2 M b a)) (fun i => [some (.val d), some (.val (matD C M)), none, some (.val (.int i)), none]) (fun i j => [some (.val d), some (.val (matD C M)), none, some (.val (.int i)), some (.val (.int j))]) rfl nd T.range (blkOk_by (by show blkC ["value", "rows", "row", "i", "j"] (defScope sIsTable) _ _ = true; decide +kernel)) (by simp) (fun _ _ _ _ _ => pg_name (i := 3) nd rfl (Or.inl rfl)) (fun _ _ _ _ _ => pg_name (i := 4) nd rfl (Or.inl rfl)) ?_ (fun i => pat_name 3 (by simp)) (fun i j => pat_name 4 (by simp)) ?_ ?_ (fun _ => rfl) ?_ ?_ ?_)))))
    · refine ad_cons (ed_callB T.len (ad_cons (nm 1 (ad_nil (cd_len (l := M.map (rowD C)) (.inl rfl) (ad_nil ⟨by rw [List.length_map], by omega, by omega, Nat.zero_le _, Nat.le_refl _, [], rfl, Nat.zero_le _, ?_⟩))))))
      exact ⟨fun _ a b _ h => by omega, fun _ => rfl⟩
    · intro i hi s2 H0 C2 cl fp
      exact ad_cons (nm 3 (ad_nil ⟨rfl, by omega⟩))
    · rintro i j acc hi hj ⟨h1, h2, bs, rfl, h3, h4⟩ s2 H0 C2 cl fp
      obtain ⟨rs, a1, a2⟩ := matD_at (C := C) sqM (i := i) (j := j) (by omega) (by omega)
      obtain ⟨ss, b1, b2⟩ := matD_at (C := C) sqM (i := j) (j := i) (by omega) (by omega)
      refine ed_cmp (ed_ix (ed_ix (nm 1 (nm 3 ⟨_, i, _, .inl rfl, rfl, a1, nm 4 ⟨_, j, _, .inl rfl, rfl, a2, ed_ix (ed_ix (nm 1 (nm 4 ⟨_, j, _, .inl rfl, rfl, b1, nm 3 ⟨_, i, _, .inl rfl, rfl, b2, od_eqQ L (hr.mono (by decide)) hG ⟨by omega, by omega, bs ++ [decide (at2 M i j = at2 M j i)], by rw [List.map_append]; rfl, by simp; omega, ?_⟩⟩⟩)))⟩⟩))))
      rw [List.all_append, Bool.and_eq_true, h4]
      simp only [List.all_cons, List.all_nil, id_eq, Bool.and_true, decide_eq_true_eq]
      constructor
      · rintro ⟨k, e⟩ a b hab h
        rcases h with h | ⟨rfl, h⟩
        · exact k a b hab (.inl h)
        · by_cases c : b < j
          · exact k a b hab (.inr ⟨rfl, c⟩)
          · have : b = j := by omega
            subst this
            exact e
      · intro k
        exact ⟨fun a b hab h => k a b hab (by omega), k i j hj (by omega)⟩
    · rintro i acc hi ⟨h1, h2, bs, rfl, h3, h4⟩
      refine ⟨by omega, Nat.zero_le _, bs, rfl, by omega, h4.trans ⟨fun k a b hab h => k a b hab (by omega), fun k a b hab h => k a b hab (by omega)⟩⟩
    · rintro acc ⟨h1, h2, bs, rfl, h3, h4⟩
      refine ad_nil (cd_all rfl ?_)
      have e : bs.all id = decide (SymD l) := by
        by_cases c : SymD l
        · rw [decide_eq_true c]
          refine h4.mpr fun a b hab h => (sym_iff hM sqM).mp c a b (by omega) hab
        · rw [decide_eq_false c]
          cases z : bs.all id with
          | false => rfl
          | true => exact absurd ((sym_iff hM sqM).mpr fun a b ha hab => h4.mp z a b hab (by omega)) c
      rw [e]
      exact q
    · rintro i j acc ⟨h1, h2, bs, rfl, h3, h4⟩
      rw [List.length_map]
      omega
end
end K31

set_option Elab.async false
set_option linter.all false
set_option maxRecDepth 100000
set_option maxHeartbeats 8000000
/-! k31: value_at; what the law draws -/
namespace K31
open PySem L2 DL
theorem dotQ_bd {C : Addr} {m n : Nat} {l l' : List D} {rs ss : List Rat} (h : Nqs C m l rs) (k : Nqs C n l' ss) (e : rs.length = ss.length) : Bq (1 + (m + n + 1) * rs.length) (dotQ rs ss) := by
  unfold dotQ
  have lz : (List.zipWith (· * ·) rs ss).length = rs.length := by rw [List.length_zipWith, ← e, Nat.min_self]
  have b := sumQ_bd (n := m + n) (rs := List.zipWith (· * ·) rs ss) (fun r hr => by
    obtain ⟨i, hi, ee⟩ := List.getElem_of_mem hr
    rw [List.getElem_zipWith] at ee
    rw [← ee]
    exact (h.bd _ (List.getElem_mem _)).mul (k.bd _ (List.getElem_mem _))) rs.length (by rw [lz]; exact Nat.le_refl _)
  rw [List.take_of_length_le (by rw [lz]; exact Nat.le_refl _)] at b
  exact b
def valM (M : List (List Rat)) (fs gs : List Rat) : Rat := dotQ fs (M.map fun row => dotQ row gs)
open Classical in
theorem tab_true {C : Addr} {n : Nat} {l : List D} {M : List (List Rat)} (h : RowsAre C n l M) (hs : Square M) (sy : Sym M) (h1 : 1 ≤ M.length) : tabB l = true := by
  unfold tabB
  rw [decide_eq_true (by rw [h.len]; exact h1), decide_eq_true ((sym_iff h hs).mpr sy), Bool.true_and, Bool.and_true]
  refine List.all_eq_true.mpr fun e he => ?_
  obtain ⟨i, hi, ee⟩ := List.getElem_of_mem he
  obtain ⟨rs, le, em, se, nq, _⟩ := h.get (List.getElem?_eq_getElem hi)
  rw [ee] at se
  unfold rowB
  rw [(seq_kn (C := C) se).2, seq_items se, nq.kn.2, decide_eq_true (by rw [nq.len, h.len]; exact hs rs (List.mem_of_getElem? em))]
  rfl
theorem rows_like {C : Addr} {n : Nat} {l : List D} {M : List (List Rat)} (h : RowsAre C n l M) (hn : n ≤ 3000) : ∀ e ∈ l, RowLike C e := fun e he => by
  obtain ⟨i, hi, ee⟩ := List.getElem_of_mem he
  obtain ⟨rs, le, em, se, nq, ll⟩ := h.get (List.getElem?_eq_getElem hi)
  rw [ee] at se
  refine .inr ⟨le, se, ll, fun x hx => ⟨nq.kn.1 x hx, fun _ => ?_⟩⟩
  obtain ⟨j, hj, ex⟩ := List.getElem_of_mem hx
  obtain ⟨r, _, q⟩ := nq.get (List.getElem?_eq_getElem hj)
  rw [ex] at q
  exact ⟨r, q.mono hn⟩
section
variable {P : Program} {w : World} {K : PySem.W.Frag} {mg : Str → Option Value} {base : Heap} {C : Addr}
abbrev spCheckT (C : Addr) : SpD := fun as Q => ∃ d l M, as = [.val d] ∧ SeqD d l ∧ RowsAre C 48 l M ∧ Square M ∧ Sym M ∧ 1 ≤ M.length ∧ M.length ≤ 5 ∧ Q .non
theorem sc_checkt : FnScope ["table"] ["table"] (defScope sCheckTable) := ⟨rfl, rfl, rfl, by decide +kernel, rfl, by decide +kernel, by decide +kernel⟩
theorem ok_checkt {f : Addr} {fd : FuncData} (F : FunS K "check_table" "check_table" sCheckTable f fd) (G : Df P w K mg base "is_table" 7 1 (spTable C)) : GnOk P w K mg base 8 f fd ["table"] (lift K (spCheckT C)) := by
  refine gn_dl F sc_checkt (fun as Q h => by obtain ⟨_, _, _, rfl, _⟩ := h; rfl) (fun cdv A outer s H hr hG W as Q h => ?_)
  obtain ⟨d, l, M, rfl, sd, hM, sq, sy, h1, h5, q⟩ := h
  refine sds_cons (sd_if (td_not (td_val (ed_call G hr hG (ad_cons (nm 0 (ad_nil ⟨d, l, rfl, sd, by rw [hM.len]; omega, rows_like hM (by decide), kB ?_⟩)))))))
  rw [tab_true hM sq sy h1]
  exact sds_nil (sds_nil q)
abbrev spVal (C : Addr) : SpD := fun as Q => ∃ d l M df lf fs dg lg gs, as = [.val d, .val df, .val dg] ∧ SeqD d l ∧ RowsAre C 48 l M ∧ Square M ∧ Sym M ∧ 1 ≤ M.length ∧ M.length ≤ 5 ∧ SeqD df lf ∧ Nqs C 43 lf fs ∧ SeqD dg lg ∧ Nqs C 20 lg gs ∧ lf.length = M.length ∧ lg.length = M.length ∧ Q (Ra C (fr (valM M fs gs)))
theorem sc_val : FnScope ["table", "first", "second", "row"] ["table", "first", "second"] (defScope sValueAt) := ⟨rfl, rfl, rfl, by decide +kernel, rfl, by decide +kernel, by decide +kernel⟩
theorem paired_dots {n : Nat} {gs : List Rat} : ∀ {l : List D} {M : List (List Rat)} {out : List D}, RowsAre C n l M → Paired (fun d y => ∀ le rs, SeqD d le → Nqs C n le rs → y = Ra C (fr (dotQ rs gs))) l out → out = (M.map fun row => dotQ row gs).map fun r => Ra C (fr r)
  | _, _, _, .nil, .nil => rfl
  | _, _, _, .cons ⟨le, a, b, c⟩ t, .cons g s => by rw [List.map_cons, List.map_cons, g le _ a b, paired_dots t s]
theorem vals_bd {l lg : List D} {M : List (List Rat)} {gs : List Rat} (hM : RowsAre C 48 l M) (sq : Square M) (h5 : M.length ≤ 5) (hg : Nqs C 20 lg gs) (lg' : lg.length = M.length) : ∀ r ∈ M.map fun row => dotQ row gs, Bq 346 r := fun r hr => by
  obtain ⟨row, hrow, rfl⟩ := List.mem_map.mp hr
  obtain ⟨i, hi, ee⟩ := List.getElem_of_mem hrow
  obtain ⟨rs, le, em, se, nq, _⟩ := hM.get (List.getElem?_eq_getElem (i := i) (by rw [hM.len]; exact hi))
  rw [List.getElem?_eq_getElem hi, ee] at em
  cases em
  have lr : row.length = M.length := sq row hrow
  have b := dotQ_bd nq hg (by rw [lr, ← hg.len, lg'])
  rw [lr] at b
  exact b.le (by have : (48 + 20 + 1) * M.length ≤ (48 + 20 + 1) * 5 := Nat.mul_le_mul_left _ h5; omega)
theorem ok_val {f : Addr} {fd : FuncData} (F : FunS K "value_at" "value_at" sValueAt f fd) (T : Txt K mg C) (CT : Df P w K mg base "check_table" 8 1 (spCheckT C)) (CD : Df P w K mg base "check_direction" 4 2 (spCheckDir C)) (G : Df P w K mg base "dotted" 8 2 (spDot C)) : GnOk P w K mg base 9 f fd ["table", "first", "second"] (lift K (spVal C)) := by
  refine gn_dl F sc_val (fun as Q h => by obtain ⟨_, _, _, _, _, _, _, _, _, rfl, _⟩ := h; rfl) (fun cdv A outer s H hr hG W as Q h => ?_)
  obtain ⟨d, l, M, df, lf, fs, dg, lg, gs, rfl, sd, hM, sq, sy, h1, h5, sf, nf, sg, ng, ef, eg, q⟩ := h
  have nd := sc_val.nd
  have r4 := hr.mono (j := 4) (by decide)
  have lM := hM.len
  refine sds_cons (sd_expr (ed_call CT hr hG (ad_cons (nm 0 (ad_nil ⟨d, l, M, rfl, sd, hM, sq, sy, h1, h5, ?_⟩)))))
  refine sds_cons (sd_expr (ed_call CD r4 hG (ad_cons (nm 1 (ad_cons (ed_callB T.len (ad_cons (nm 0 (ad_nil (cd_len sd (ad_nil ⟨df, lf, fs, 43, by rw [ef, ← lM], sf, nf, by omega, ?_⟩)))))))))))
  refine sds_cons (sd_expr (ed_call CD r4 hG (ad_cons (nm 2 (ad_cons (ed_callB T.len (ad_cons (nm 0 (ad_nil (cd_len sd (ad_nil ⟨dg, lg, gs, 20, by rw [eg, ← lM], sg, ng, by omega, ?_⟩)))))))))))
  refine sds_cons (sd_ret (ed_call G hr hG (ad_cons (nm 1 (ad_cons (ed_fd (fd_relS (fun d y => ∀ le rs, SeqD d le → Nqs C 48 le rs → y = Ra C (fr (dotQ rs gs))) 3 (own := [("row", 3)]) rfl nd (blkOk_by (by show blkC ["table", "first", "second", "row"] (defScope sValueAt) _ _ = true; decide +kernel)) (fun _ _ _ _ _ => pg_name (i := 3) nd rfl (Or.inl rfl)) sd (by omega) (nm 0 rfl) (by simp) ?_ ?_)))))))
  · intro e he s2 H0 C2 cl fp
    obtain ⟨i, hi, ee⟩ := List.getElem_of_mem he
    obtain ⟨rs, le, em, se, nq, ll⟩ := hM.get (List.getElem?_eq_getElem hi)
    rw [ee] at se
    have lr : le.length = M.length := by rw [nq.len]; exact sq rs (List.mem_of_getElem? em)
    refine ed_call G hr hG (ad_cons (nm 3 (ad_cons (nm 2 (ad_nil ⟨e, dg, le, lg, rs, gs, 48, 20, rfl, se, sg, nq, ng, by rw [lr, eg], by omega, by decide, by decide, ?_, ?_⟩)))))
    · have : (48 + 20 + 1) * le.length ≤ (48 + 20 + 1) * 5 := Nat.mul_le_mul_left _ (by omega)
      omega
    · intro le' rs' s' n'
      have := seq_uniq se s'
      subst this
      rw [nqs_uniq n' nq]
  · intro out ho
    rw [paired_dots hM ho]
    refine ad_nil ⟨df, _, lf, _, fs, _, 43, 346, rfl, sf, .inl rfl, nf, Nqs.rats (vals_bd hM sq h5 ng eg), by rw [List.length_map, List.length_map, ef], by omega, by decide, by decide, ?_, q⟩
    have : (43 + 346 + 1) * lf.length ≤ (43 + 346 + 1) * 5 := Nat.mul_le_mul_left _ (by omega)
    omega
end
end K31

set_option Elab.async false
set_option linter.all false
set_option maxRecDepth 100000
set_option maxHeartbeats 8000000
/-! k31: what the law draws; one square more -/
namespace K31
open PySem L2 DL
section
variable {X : Cx} {B : Hp} {S : En} {W0 : Wd} {st : Stmt} {E : Ends'}
theorem sd_mid (QS : En → Prop) (k : ∀ S', QS S' → E.nx S') (h : SD X B W0 S st { E with nx := QS }) : SD X B W0 S st E := sd_post QS h k
end
section
variable {P : Program} {w : World} {K : PySem.W.Frag} {mg : Str → Option Value} {base : Heap} {C : Addr}
abbrev spPot : SpN := fun as Q => ∃ ns, ∃ k : Nat, as = [.val (.frl ns), .val (.int (k : Int))] ∧ k < 100 ∧ ∀ a b : Int, 0 ≤ b ∧ b < 2 ^ 31 → Q [.int a, .int b]
theorem sc_pot : FnScope ["_law_script", "_law_k", "_law_cell"] ["_law_script", "_law_k"] (defScope (top 26)) := ⟨rfl, rfl, rfl, by decide +kernel, rfl, by decide +kernel, by decide +kernel⟩
theorem ok_pot {f : Addr} {fd : FuncData} (F : FunS K "_law_pot" "_law_pot" (top 26) f fd) (T : Txt K mg C) : GnOk P w K mg base 1 f fd ["_law_script", "_law_k"] (liftN K spPot) := by
  refine gn_new F sc_pot (fun as Q h => by obtain ⟨_, _, rfl, _⟩ := h; rfl) (fun cdv A outer s H hr hG W as Q h => ?_)
  obtain ⟨ns, k, rfl, hk, q⟩ := h
  have nd := sc_pot.nd
  have rest : ∀ z : Int, SN (Bx P w K mg base ["_law_script", "_law_k", "_law_cell"] "_law_pot" (top 26) f cdv A outer s H) H W [some (.val (.frl ns)), some (.val (.int (k : Int))), some (.val (.int z))] ((defBody (top 26)).drop 1) Q := fun z => by
    refine sn_ret (fd_lst (ad_cons (ed_callB T.max (ad_cons (ed_int (ad_cons (ed_bin (nm 2 (ed_bin (ed_int (ed_int (od_pow ⟨by decide, by decide, by decide⟩ (od_sub (ad_nil (cd_max rfl (ad_cons (ed_bin (ed_bin (ed_callTy T.int (ad_cons (ed_bin (ed_bin (ed_bin (ed_bin (ed_callTy T.int (ad_cons (nm 2 (ad_nil (cd_int (ed_int (od_mod (by decide) (ed_int (od_mulS (.inr (by decide)) (ed_bin (ed_int (nm 1 (od_mulS (.inl (by decide)) (od_add (ed_int (od_add (ad_nil (cd_int (ed_int (od_mod (by decide) (ed_int (od_add (ad_nil ⟨[.int _, .int _], rfl, by simp, q _ _ ?_⟩)))))))))))))))))))))))))))))))))))))))))))))))
    constructor <;> omega
  refine sn_cons (sd_mid (fun S' => ∃ z : Int, S' = [some (.val (.frl ns)), some (.val (.int (k : Int))), some (.val (.int z))]) ?_ (sd_set 2 nd rfl (ed_ifx (td_cmp (nm 1 (ed_callB T.len (ad_cons (nm 0 (ad_nil (cd_lenF (od_lt (kB ?_))))))))))))
  · rintro S' ⟨z, rfl⟩
    exact rest z
  · by_cases c : k < ns.length
    · rw [decide_eq_true (by omega)]
      exact ed_callB T.abs (ad_cons (ed_ixF (nm 0 (nm 1 ⟨_, k, ns[k], rfl, rfl, List.getElem?_eq_getElem c, ad_nil (cd_abs ⟨_, rfl⟩)⟩))))
    · rw [decide_eq_false (by omega)]
      exact ed_bin (ed_bin (ed_int (nm 1 (od_mulS (.inl (by decide)) (ed_int (od_add ⟨_, rfl⟩))))))
theorem sc_draw : FnScope ["_law_pot_here", "_law_size", "_law_digit"] ["_law_pot_here", "_law_size"] (defScope (top 27)) := ⟨rfl, rfl, rfl, by decide +kernel, rfl, by decide +kernel, by decide +kernel⟩
abbrev spDraw : SpD := fun as Q => ∃ n : Int, as = [.pot, .val (.int n)] ∧ 0 < n ∧ n < 1073741824 ∧ ∀ d : Nat, (d : Int) < n → Q (.int (d : Int))
theorem small_mul {a b : Int} (h : 0 ≤ a ∧ a < 2 ^ 31) (k : 0 ≤ b ∧ b < 2 ^ 31) : (-(2 ^ 64) < a ∧ a < 2 ^ 64) ∨ (-(2 ^ 64) < b ∧ b < 2 ^ 64) := .inl (by omega)
theorem ok_draw {f : Addr} {fd : FuncData} (F : FunS K "_law_draw" "_law_draw" (top 27) f fd) (T : Txt K mg C) : GnOk P w K mg base 1 f fd ["_law_pot_here", "_law_size"] (lift K spDraw) := by
  refine gn_dl F sc_draw (fun as Q h => by obtain ⟨n, rfl, _⟩ := h; rfl) (fun cdv A outer s H hr hG W as Q h => ?_)
  obtain ⟨n, rfl, h0, h1, q'⟩ := h
  have q : ∀ d : Int, 0 ≤ d → d < n → Q (.int d) := fun d d0 d1 => by
    have := q' d.toNat (by rw [Int.toNat_of_nonneg d0]; exact d1)
    rw [Int.toNat_of_nonneg d0] at this
    exact this
  have nd := sc_draw.nd
  refine sds_cons (sd_if (td_cmp (ed_potix (j := 0) 0 rfl rfl (by decide) fun z _ => ed_int (od_gt (kB ?_)))))
  cases decide (0 < z) with
  | true =>
    refine sds_cons (sd_asg (ed_callB T.divmod (ad_cons (ed_potix (j := 0) 0 rfl rfl (by decide) fun z _ => ad_cons (nm 1 (ad_nil (cd_divmod ⟨h0, h1⟩ ?_)))))))
    refine gd_tup rfl (gds_cons (gd_pot (j := 0) 0 rfl rfl (by decide) (fun z => absurd z (by decide)) (gds_cons (gd_name 2 nd rfl (gds_nil ?_))))) rfl
    exact sds_cons (sd_ret (nm 2 (q _ (Int.emod_nonneg _ (by omega)) (Int.emod_lt_of_pos _ h0))))
  | false =>
    refine sds_nil (sds_cons (sd_asg (ed_bin (ed_callTy T.int (ad_cons (ed_bin (ed_bin (ed_potix (j := 1) 0 rfl rfl (by decide) fun z hz => ed_int (od_mulS (.inr (by decide)) (ed_int (od_add (ad_nil (cd_int (ed_int (od_mod (by decide) ?_)))))))))))))))
    refine gd_pot (j := 1) 0 rfl rfl (by decide) (fun _ => ⟨Int.emod_nonneg _ (by decide), Int.lt_trans (Int.emod_lt_of_pos _ (by decide)) (by decide)⟩) ?_
    refine sds_cons (sd_ret (ed_bin (ed_callTy T.int (ad_cons (ed_bin (ed_bin (ed_callTy T.int (ad_cons (ed_bin (ed_potix (j := 1) 0 rfl rfl (by decide) fun y hy => ed_potix (j := 1) 0 rfl rfl (by decide) fun x hx => od_mulS (small_mul (hy rfl) (hx rfl)) (ad_nil (cd_int (ed_int (od_mod (by decide) (ed_int (od_fdiv ⟨by decide, by decide⟩ (ad_nil (cd_int (nm 1 (od_mod h0 ?_))))))))))))))))))))
    exact q _ (Int.emod_nonneg _ (by omega)) (Int.emod_lt_of_pos _ h0)
theorem sc_pick : FnScope ["_law_pot_here", "_law_some"] ["_law_pot_here", "_law_some"] (defScope (top 28)) := ⟨rfl, rfl, rfl, by decide +kernel, rfl, by decide +kernel, by decide +kernel⟩
abbrev spPick : SpD := fun as Q => ∃ l : List D, as = [.pot, .val (.lst l)] ∧ 0 < l.length ∧ l.length < 1000 ∧ ∀ d ∈ l, Q d
theorem ok_pick {f : Addr} {fd : FuncData} (F : FunS K "_law_pick" "_law_pick" (top 28) f fd) (T : Txt K mg C) (G : Df P w K mg base "_law_draw" 1 2 spDraw) : GnOk P w K mg base 2 f fd ["_law_pot_here", "_law_some"] (lift K spPick) := by
  refine gn_dl F sc_pick (fun as Q h => by obtain ⟨n, rfl, _⟩ := h; rfl) (fun cdv A outer s H hr hG W as Q h => ?_)
  obtain ⟨l, rfl, h0, h1, q⟩ := h
  refine sds_cons (sd_ret (ed_ix (nm 1 (ed_call G hr hG (ad_pot 0 rfl rfl (ad_cons (ed_callB T.len (ad_cons (nm 1 (ad_nil (cd_len (.inl rfl) (ad_nil ⟨(l.length : Int), rfl, by omega, by omega, fun d d1 => ?_⟩))))))))))))
  have hd : d < l.length := by omega
  exact ⟨l, d, l[d], .inl rfl, rfl, atI_nat (List.getElem?_eq_getElem hd), q _ (List.getElem_mem _)⟩
/-! a small fraction -/
theorem sc_small : FnScope ["_law_pot_here", "_law_most"] ["_law_pot_here", "_law_most"] (defScope (top 29)) := ⟨rfl, rfl, rfl, by decide +kernel, rfl, by decide +kernel, by decide +kernel⟩
abbrev spSmall (C : Addr) : SpD := fun as Q => ∃ m : Nat, as = [.pot, .val (.int (m : Int))] ∧ m ≤ 7 ∧ ∀ r, Bq 3 r → Q (Ra C (fr r))
theorem ok_small {f : Addr} {fd : FuncData} (F : FunS K "_law_small" "_law_small" (top 29) f fd) (V : Rt P w K mg base C) (G : Df P w K mg base "_law_draw" 1 2 spDraw) (R : Df P w K mg base "_law_pick" 2 2 spPick) : GnOk P w K mg base 4 f fd ["_law_pot_here", "_law_most"] (lift K (spSmall C)) := by
  refine gn_dl F sc_small (fun as Q h => by obtain ⟨n, rfl, _⟩ := h; rfl) (fun cdv A outer s H hr hG W as Q h => ?_)
  obtain ⟨m, rfl, hm, q⟩ := h
  refine sds_cons (sd_ret (ed_makeA V.mk2 hr hG (ad_cons (ed_bin (ed_call G (hr.mono (by decide)) hG (ad_pot 0 rfl rfl (ad_cons (ed_bin (ed_bin (ed_int (nm 1 (od_mulS (.inl (by decide)) (ed_int (od_add (ad_nil ⟨2 * (m : Int) + 1, rfl, by omega, by omega, fun d hd => nm 1 (od_sub (ad_cons (ed_call R (hr.mono (by decide)) hG (ad_pot 0 rfl rfl (ad_cons (ed_lst (ad_cons (ed_int (ad_cons (ed_int (ad_cons (ed_int (ad_cons ?_)))))))))))))⟩)))))))))))))))
  refine ed_int (ad_cons ?_)
  refine ed_int (ad_cons (ed_int (ad_nil ⟨[.int 1, .int 1, .int 1, .int 1, .int 2, .int 3], rfl, by simp, ad_nil ⟨_, rfl, by simp, by simp, fun x hx => ad_nil ?_⟩⟩)))
  have hb : ∃ b : Int, x = .int b ∧ b ≠ 0 ∧ b.natAbs < 2 ^ 3 := by
    simp only [List.mem_cons, List.not_mem_nil, or_false] at hx
    rcases hx with rfl | rfl | rfl | rfl | rfl | rfl <;> exact ⟨_, rfl, by decide, by decide⟩
  obtain ⟨b, rfl, b0, b3⟩ := hb
  have t3 : ((d : Int) - m).natAbs < 2 ^ 3 := by omega
  refine mk_ok (n := 3) b0 t3 b3 (by decide) ?_
  have bd := low_bd b0 t3 b3
  rw [low_fr b0] at bd ⊢
  exact q _ bd
end
end K31

set_option Elab.async false
set_option linter.all false
set_option maxRecDepth 100000
set_option maxHeartbeats 8000000
/-! k31: tables that the law draws -/
namespace K31
open PySem L2 DL
/-- a square table by its numbers -/
def mkM (n : Nat) (g : Nat → Nat → Rat) : List (List Rat) := (List.range n).map fun i => (List.range n).map (g i)
theorem mkM_len (n : Nat) (g : Nat → Nat → Rat) : (mkM n g).length = n := by unfold mkM; rw [List.length_map, List.length_range]
theorem mkM_sq (n : Nat) (g : Nat → Nat → Rat) : Square (mkM n g) := fun rs h => by
  rw [mkM_len]
  unfold mkM at h
  obtain ⟨i, _, rfl⟩ := List.mem_map.mp h
  rw [List.length_map, List.length_range]
theorem mkM_at {n : Nat} {g : Nat → Nat → Rat} {i j : Nat} (hi : i < n) (hj : j < n) : at2 (mkM n g) i j = g i j := by
  unfold at2 mkM
  rw [List.getElem?_map, List.getElem?_range hi, Option.map_some, Option.getD_some, List.getElem?_map, List.getElem?_range hj, Option.map_some, Option.getD_some]
theorem relab {c : Str → NameKind → Bool} {x : Str} {k : NameKind} : ∀ {l : List (Str × NameKind)}, l.lookup x = some k → (l.map fun (n, k) => if c n k = true then (n, NameKind.cell) else (n, k)).lookup x = some k ∨ (l.map fun (n, k) => if c n k = true then (n, NameKind.cell) else (n, k)).lookup x = some .cell
  | [], h => by simp at h
  | (n, k') :: l, h => by
    rw [List.map_cons]
    by_cases e : x == n
    · rw [List.lookup_cons, e] at h
      cases h
      by_cases cc : c n k = true
      · simp only [cc, if_true]
        right
        rw [List.lookup_cons, e]
      · simp only [cc]
        left
        show List.lookup x ((n, k) :: _) = _
        rw [List.lookup_cons, e]
    · have e' : (x == n) = false := by simpa using e
      rw [List.lookup_cons, e'] at h
      have := relab (c := c) (l := l) h
      by_cases cc : c n k' = true
      · simp only [cc, if_true]
        rw [List.lookup_cons, e']
        exact this
      · simp only [cc]
        show List.lookup x ((n, k') :: _) = _ ∨ List.lookup x ((n, k') :: _) = _
        rw [List.lookup_cons, e']
        exact this
theorem blkOk_in {N : List Str} {scope scope' : Scope} {own : List (Str × Nat)} {cl : List (Str × Addr)} {a : Addr} {env : Env} (h : BlkOk N scope scope' own) : BlkOk N (compEnvC scope cl a env).scope scope' own :=
  ⟨h.kind, h.uniq, h.ix, fun y hy e => by
    rcases h.free y hy e with k | k
    · rcases relab (c := fun n k => k == NameKind.free && env.scope.kind == .function && env.kindOf n == some .cell) k with z | z
      · exact .inl z
      · exact .inl z
    · rcases relab (c := fun n k => k == NameKind.free && env.scope.kind == .function && env.kindOf n == some .cell) k with z | z
      · exact .inr z
      · exact .inl z, h.own⟩
def Ent (b : Nat) (M : List (List Rat)) : Prop := ∀ i j, i < M.length → j < M.length → Bq b (at2 M i j)
structure Good (n b : Nat) (M : List (List Rat)) : Prop where
  len : M.length = n
  sq : Square M
  sy : Sym M
  en : Ent b M
theorem Good.mono {n b c : Nat} {M : List (List Rat)} (h : Good n b M) (k : b ≤ c) : Good n c M := ⟨h.len, h.sq, h.sy, fun i j a d => (h.en i j a d).le k⟩
theorem outs_map {f : Nat → D} {n : Nat} {out : List D} (h : Outs (fun i y => y = f i) n out) : out = (List.range n).map f := by
  refine List.ext_getElem? fun i => ?_
  by_cases c : i < n
  · obtain ⟨y, e, rfl⟩ := h.2 i c
    rw [e, List.getElem?_map, List.getElem?_range c]
    rfl
  · rw [List.getElem?_eq_none (by rw [h.1]; omega), List.getElem?_eq_none (by rw [List.length_map, List.length_range]; omega)]
theorem outs_ints {n b : Nat} {out : List D} (h : Outs (fun _ y => ∃ z : Int, y = .int z ∧ z.natAbs < 2 ^ b) n out) : ∃ fs : List Int, out = fs.map D.int ∧ fs.length = n ∧ ∀ z ∈ fs, z.natAbs < 2 ^ b := by
  have key : ∀ out : List D, (∀ y ∈ out, ∃ z : Int, y = .int z ∧ z.natAbs < 2 ^ b) → ∃ fs : List Int, out = fs.map D.int ∧ ∀ z ∈ fs, z.natAbs < 2 ^ b := by
    intro out
    induction out with
    | nil => exact fun _ => ⟨[], rfl, by simp⟩
    | cons y out ih =>
      intro hy
      obtain ⟨z, e, hz⟩ := hy y (by simp)
      obtain ⟨fs, e2, hf⟩ := ih fun x hx => hy x (by simp [hx])
      refine ⟨z :: fs, by rw [List.map_cons, e, e2], fun x hx => ?_⟩
      rcases List.mem_cons.mp hx with rfl | hx
      · exact hz
      · exact hf x hx
  obtain ⟨fs, e, hf⟩ := key out fun y hy => by
    obtain ⟨i, hi, rfl⟩ := List.getElem_of_mem hy
    obtain ⟨y, e, g⟩ := h.2 i (by rw [← h.1]; exact hi)
    rw [List.getElem?_eq_getElem hi] at e
    cases e
    exact g
  exact ⟨fs, e, by rw [← h.1, e, List.length_map], hf⟩
section
variable {P : Program} {w : World} {K : PySem.W.Frag} {mg : Str → Option Value} {base : Heap} {C : Addr}
abbrev spMore (C : Addr) : SpD := fun as Q => ∃ M n b q, ∃ fs : List Int, as = [.val (matD C M), .val (Ra C (fr q)), .val (.lst (fs.map D.int))] ∧ Good n b M ∧ n ≤ 5 ∧ b ≤ 100 ∧ 7 ≤ b ∧ Bq 3 q ∧ fs.length = n ∧ (∀ z ∈ fs, z.natAbs < 2 ^ 2) ∧ ∀ M', Good n (b + 8) M' → Q (matD C M')
theorem sc_more : FnScope ["_law_rows", "_law_number", "_law_form", "_law_i", "_law_j"] ["_law_rows", "_law_number", "_law_form"] (defScope (top 30)) := ⟨rfl, rfl, rfl, by decide +kernel, rfl, by decide +kernel, by decide +kernel⟩
theorem ok_more {f : Addr} {fd : FuncData} (F : FunS K "_law_more" "_law_more" (top 30) f fd) (L : Lv P w K mg base C) : GnOk P w K mg base 7 f fd ["_law_rows", "_law_number", "_law_form"] (lift K (spMore C)) := by
  refine gn_dl F sc_more (fun as Q h => by obtain ⟨_, _, _, _, _, rfl, _⟩ := h; rfl) (fun cdv A outer s H hr hG W as Q h => ?_)
  obtain ⟨M, n, b, q, fs, rfl, gM, hn, hb, hb7, hq, lf, hf, k⟩ := h
  have nd := sc_more.nd
  have T := L.V.T
  have lM : (M.map (rowD C)).length = n := by rw [List.length_map, gM.len]
  have ff : ∀ i, i < n → ∃ z : Int, atI (fs.map D.int) (i : Int) = some (.int z) ∧ fs[i]? = some z ∧ Nq C 2 (.int z) (z : Rat) := fun i hi => by
    have e : fs[i]? = some (fs[i]'(by omega)) := List.getElem?_eq_getElem _
    exact ⟨_, atI_nat (by rw [List.getElem?_map, e]; rfl), e, .int _ (Bq.int (hf _ (List.getElem_mem _)) (by decide))⟩
  let G : Nat → Nat → Rat := fun i j => at2 M i j + q * ((fs[i]?.getD 0 : Int) : Rat) * ((fs[j]?.getD 0 : Int) : Rat)
  refine sds_cons (sd_ret (ed_fd (fd_relR (n := n) (fun i y => y = rowD C ((List.range n).map (G i))) 3 (own := [("_law_i", 3)]) rfl nd T.range (blkOk_by (by show blkC ["_law_rows", "_law_number", "_law_form", "_law_i", "_law_j"] (defScope (top 30)) _ _ = true; decide +kernel)) (fun _ _ _ _ _ => pg_name (i := 3) nd rfl (Or.inr rfl)) (by omega) (ad_cons (ed_callB T.len (ad_cons (nm 0 (ad_nil (cd_len (.inl rfl) (ad_nil (by rw [lM])))))))) (by simp) ?_ ?_)))
  · intro i hi s2 H0 C2 cl fp
    refine ed_fd (fd_relR (n := n) (fun j y => y = Ra C (fr (G i j))) 4 (own := [("_law_j", 4)]) rfl nd T.range (blkOk_in (N := ["_law_rows", "_law_number", "_law_form", "_law_i", "_law_j"]) (blkOk_by (by decide +kernel))) (fun _ _ _ _ _ => pg_name (i := 4) nd rfl (Or.inl rfl)) (by omega) (ad_cons (ed_callB T.len (ad_cons (nm 0 (ad_nil (cd_len (.inl rfl) (ad_nil (by rw [lM])))))))) (by simp) ?_ ?_)
    · intro j hj s3 H3 C3 cl3 fp3
      obtain ⟨rs, a1, a2⟩ := matD_at (C := C) gM.sq (i := i) (j := j) (by rw [gM.len]; exact hi) (by rw [gM.len]; exact hj)
      obtain ⟨zi, b1, b2, b3⟩ := ff i hi
      obtain ⟨zj, c1, c2, c3⟩ := ff j hj
      have r6 := hr
      have eG : G i j = at2 M i j + q * (zi : Rat) * (zj : Rat) := by show at2 M i j + _ = _; rw [b2, c2]; rfl
      rw [eG]
      exact ed_bin (ed_ix (ed_ix (nm 0 (nm 3 ⟨_, (i : Int), _, .inl rfl, rfl, a1, nm 4 ⟨_, (j : Int), _, .inl rfl, rfl, a2, ed_bin (ed_bin (nm 1 (ed_ix (nm 2 (nm 3 ⟨_, (i : Int), _, .inl rfl, rfl, b1, od_mulQ L hr hG (.rat q hq) b3 (k := fun d hd => ed_ix (nm 2 (nm 4 ⟨_, (j : Int), _, .inl rfl, rfl, c1, od_mulQ L hr hG hd c3 (k := fun d' hd' => od_addQ L hr hG ((gM.en i j (by rw [gM.len]; exact hi) (by rw [gM.len]; exact hj)).le (by omega)) (hd'.mono (by decide)) rfl)⟩)))⟩)))))⟩⟩))))
    · intro out ho
      rw [outs_map ho]
      show D.lst _ = rowD C _
      unfold rowD
      rw [List.map_map]
      rfl
  · intro out ho
    rw [outs_map ho]
    have e : D.lst ((List.range n).map fun i => rowD C ((List.range n).map (G i))) = matD C (mkM n G) := by unfold matD mkM; rw [List.map_map]; rfl
    rw [e]
    have vals : ∀ i, i < n → (fs[i]?.getD 0).natAbs < 2 ^ 2 := fun i hi => by
      obtain ⟨z, _, e, _⟩ := ff i hi
      rw [e]
      exact hf z (List.mem_of_getElem? e)
    refine k _ ⟨mkM_len n G, mkM_sq n G, fun i j hi hj => ?_, fun i j hi hj => ?_⟩
    · rw [mkM_len] at hi
      rw [mkM_at hi (by omega), mkM_at (by omega) hi]
      show at2 M i j + _ = at2 M j i + _
      rw [gM.sy i j (by rw [gM.len]; exact hi) hj, Rat.mul_assoc, Rat.mul_assoc, Rat.mul_comm ((fs[i]?.getD 0 : Int) : Rat)]
    · rw [mkM_len] at hi hj
      rw [mkM_at hi hj]
      have x1 := gM.en i j (by rw [gM.len]; exact hi) (by rw [gM.len]; exact hj)
      have x2 := (hq.mul (Bq.int (vals i hi) (by decide))).mul (Bq.int (vals j hj) (by decide))
      exact (Bq.add x1 x2).le (by omega)
end
end K31

set_option Elab.async false
set_option linter.all false
set_option maxRecDepth 100000
set_option maxHeartbeats 8000000
/-! k31: a table drawn -/
namespace K31
open PySem L2 DL
abbrev NT : List Str := ["_law_pot_here", "_law_size", "_law_way", "_law_rows", "_law_turn", "_law_i", "_law_j", "_law_one", "_law_place"]
theorem matD_map {C : Addr} {M : List (List Rat)} : (M.map fun rs => rs.map fun r => Ra C (fr r)).map D.lst = M.map (rowD C) := by rw [List.map_map]; rfl
abbrev rowsD (C : Addr) (M : List (List Rat)) : List (List D) := M.map fun rs => rs.map fun r => Ra C (fr r)
theorem rep_mk {C : Addr} {n : Nat} : List.replicate n (List.replicate n (Ra C (fr 0))) = rowsD C (mkM n fun _ _ => 0) := by
  unfold rowsD mkM
  rw [List.map_map]
  have e : ∀ i, ((fun rs : List Rat => rs.map fun r => Ra C (fr r)) ∘ fun _ : Nat => (List.range n).map fun _ : Nat => (0 : Rat)) i = List.replicate n (Ra C (fr 0)) := fun i => by
    show ((List.range n).map fun _ => (0 : Rat)).map _ = _
    rw [List.map_map]
    exact List.eq_replicate_iff.mpr ⟨by rw [List.length_map, List.length_range], fun b hb => by
      obtain ⟨_, _, rfl⟩ := List.mem_map.mp hb
      rfl⟩
  exact (List.eq_replicate_iff.mpr ⟨by rw [List.length_map, List.length_range], fun b hb => by
    obtain ⟨i, _, rfl⟩ := List.mem_map.mp hb
    exact e i⟩).symm
theorem good_zero {n : Nat} : Good n 1 (mkM n fun _ _ => 0) :=
  ⟨mkM_len _ _, mkM_sq _ _, fun i j hi hj => by rw [mkM_len] at hi; rw [mkM_at hi (by omega), mkM_at (by omega) hi], fun i j hi hj => by
    rw [mkM_len] at hi hj
    rw [mkM_at hi hj]
    exact ⟨by show 0 < 2 ^ 1; decide, by show 1 < 2 ^ 1; decide, by show (0 : Int) < 1; decide⟩⟩
/-- one number put at a place -/
def putM (M : List (List Rat)) (i j : Nat) (x : Rat) : List (List Rat) := M.set i ((M[i]?.getD []).set j x)
theorem putM_len {M : List (List Rat)} {i j : Nat} {x : Rat} : (putM M i j x).length = M.length := by unfold putM; rw [List.length_set]
theorem putM_sq {M : List (List Rat)} {i j : Nat} {x : Rat} (h : Square M) : Square (putM M i j x) := fun rs hr => by
  rw [putM_len]
  unfold putM at hr
  rcases List.mem_or_eq_of_mem_set hr with z | z
  · exact h rs z
  · rw [z, List.length_set]
    by_cases c : i < M.length
    · rw [List.getElem?_eq_getElem c, Option.getD_some]
      exact h _ (List.getElem_mem c)
    · rw [List.set_eq_of_length_le (by omega)] at hr
      rw [← List.length_set (i := j) (a := x), ← z]
      exact h rs hr
theorem putM_at {M : List (List Rat)} {i j a b : Nat} {x : Rat} (h : Square M) (hi : i < M.length) (hj : j < M.length) : at2 (putM M i j x) a b = if a = i ∧ b = j then x else at2 M a b := by
  have lj : j < M[i].length := by rw [h _ (List.getElem_mem hi)]; exact hj
  unfold at2 putM
  rw [List.getElem?_eq_getElem hi, Option.getD_some]
  by_cases c : a = i
  · subst c
    rw [List.getElem?_set_self hi, Option.getD_some, List.getElem?_eq_getElem hi, Option.getD_some]
    by_cases d : b = j
    · subst d
      rw [List.getElem?_set_self lj, Option.getD_some, if_pos ⟨rfl, rfl⟩]
    · rw [List.getElem?_set_ne (fun z => d z.symm), if_neg (fun z => d z.2)]
  · rw [List.getElem?_set_ne (fun z => c z.symm), if_neg (fun z => c z.1)]
theorem putM_rows {C : Addr} {M : List (List Rat)} {i j : Nat} {x : Rat} (hi : i < M.length) : (rowsD C M).set i (((M[i]?.getD []).map fun r => Ra C (fr r)).set j (Ra C (fr x))) = rowsD C (putM M i j x) := by
  unfold rowsD putM
  rw [List.map_set, List.map_set]
theorem good_put {n b : Nat} {M : List (List Rat)} {i j : Nat} {x : Rat} (g : Good n b M) (hi : i < n) (hj : j ≤ i) (hx : Bq b x) : Good n b (putM (putM M i j x) j i x) := by
  have li : i < M.length := by rw [g.len]; exact hi
  have lj : j < M.length := by rw [g.len]; omega
  have s1 := putM_sq (i := i) (j := j) (x := x) g.sq
  have at_ : ∀ a c, at2 (putM (putM M i j x) j i x) a c = if a = j ∧ c = i then x else if a = i ∧ c = j then x else at2 M a c := fun a c => by
    rw [putM_at s1 (by rw [putM_len]; exact lj) (by rw [putM_len]; exact li), putM_at g.sq li lj]
  refine ⟨by rw [putM_len, putM_len]; exact g.len, putM_sq s1, fun a c ha hc => ?_, fun a c ha hc => ?_⟩
  · rw [putM_len, putM_len] at ha
    rw [at_, at_]
    by_cases z1 : a = j ∧ c = i
    · rw [if_pos z1]
      by_cases z2 : c = j ∧ a = i
      · rw [if_pos z2]
      · rw [if_neg z2, if_pos ⟨z1.2, z1.1⟩]
    · rw [if_neg z1]
      by_cases z2 : a = i ∧ c = j
      · rw [if_pos z2, if_pos ⟨z2.2, z2.1⟩]
      · rw [if_neg z2, if_neg (fun z => z2 ⟨z.2, z.1⟩), if_neg (fun z => z1 ⟨z.2, z.1⟩)]
        exact g.sy a c ha hc
  · rw [putM_len, putM_len] at ha hc
    rw [at_]
    split
    · exact hx
    · split
      · exact hx
      · exact g.en a c ha hc
theorem rowsD_get {C : Addr} {M : List (List Rat)} {i : Nat} (hi : i < M.length) : (rowsD C M)[i]? = some ((M[i]?.getD []).map fun r => Ra C (fr r)) := by
  unfold rowsD
  rw [List.getElem?_map, List.getElem?_eq_getElem hi]
  rfl
theorem rowsD_len {C : Addr} {M : List (List Rat)} {i : Nat} (h : Square M) (hi : i < M.length) : ((M[i]?.getD []).map fun r => Ra C (fr r)).length = M.length := by
  rw [List.length_map, List.getElem?_eq_getElem hi, Option.getD_some]
  exact h _ (List.getElem_mem hi)
theorem td_any {X : Cx} {B : Hp} {S : En} {e : Expr} {QB : Bool → Prop} (k : ∀ t, QB t) (h : TD X B S e fun _ => True) : TD X B S e QB := fun σ W H r R c => h σ W H r R fun t W' H' st ok _ => c t W' H' st ok (k t)
abbrev ov (o : Option D) : Option Sl := o.map Sl.val
section
variable {P : Program} {w : World} {K : PySem.W.Frag} {mg : Str → Option Value} {base : Heap} {C : Addr}
abbrev spTab (C : Addr) : SpD := fun as Q => ∃ n : Nat, as = [.pot, .val (.int (n : Int))] ∧ 1 ≤ n ∧ n ≤ 5 ∧ ∀ M, Good n 48 M → Q (matD C M)
theorem sc_tab : FnScope NT ["_law_pot_here", "_law_size"] (defScope (top 31)) := ⟨rfl, rfl, rfl, by decide +kernel, rfl, by decide +kernel, by decide +kernel⟩
theorem ok_tab {f : Addr} {fd : FuncData} (F : FunS K "_law_table" "_law_table" (top 31) f fd) (V : Rt P w K mg base C) (G : Df P w K mg base "_law_draw" 1 2 spDraw) (SM : Df P w K mg base "_law_small" 4 2 (spSmall C)) (MO : Df P w K mg base "_law_more" 7 3 (spMore C)) : GnOk P w K mg base 8 f fd ["_law_pot_here", "_law_size"] (lift K (spTab C)) := by
  refine gn_dl F sc_tab (fun as Q h => by obtain ⟨_, rfl, _⟩ := h; rfl) (fun cdv A outer s H hr hG W as Q h => ?_)
  obtain ⟨n, rfl, h1, h5, q⟩ := h
  have nd := sc_tab.nd
  have T := V.T
  have r1 := hr.mono (j := 1) (by decide)
  have r3 := hr.mono (j := 3) (by decide)
  have r4 := hr.mono (j := 4) (by decide)
  have noB : ∀ S, (Ends'.bk { nx := fun _ => Q .non, rt := Q } S) → False := fun S h => h
  refine sds_cons (sd_set 2 nd rfl (ed_call G r1 hG (ad_pot 0 rfl rfl (ad_cons (ed_int (ad_nil ⟨4, rfl, by decide, by decide, fun way hway => ?_⟩))))))
  show SDs _ _ _ [some .pot, some (.val (.int (n : Int))), some (.val (.int (way : Int))), none, none, none, none, none, none] _ _
  refine sds_nestLc (i := 3) (own := [("_law_i", 5)]) (g := gName 5) rfl nd rfl rfl (pi_range1 rfl T.range wa_pa) (blkOk_by (by show blkC NT (defScope (top 31)) _ _ = true; decide +kernel)) (fun _ _ _ _ _ => pg_name (i := 5) nd rfl (Or.inl rfl)) (nlc_R (n := (n : Int)) (fun i rows => rows = List.replicate i (List.replicate n (Ra C (fr 0)))) (fun d => itE [some .pot, some (.val (.int (n : Int))), some (.val (.int (way : Int))), none, none, none, none, none, none] [("_law_i", 5)] 5 d) (ad_cons (nm 1 (ad_nil ⟨rfl, by omega, by omega, rfl⟩))) (fun d => pat_name 5 (by simp)) ?_ ?_)
  · rintro i rows hi hl rfl s2 H0 C2 cl fp
    refine fd_relR (n := n) (fun _ y => y = Ra C (fr 0)) 6 (own := [("_law_j", 6)]) rfl nd T.range (blkOk_in (N := NT) (blkOk_by (by decide +kernel))) (fun _ _ _ _ _ => pg_name (i := 6) nd rfl (Or.inl rfl)) (by omega) (ad_cons (nm 1 (ad_nil rfl))) (by simp) ?_ ?_
    · intro j hj s3 H3 C3 cl3 fp3
      refine ed_make V.mk1 r3 hG (ad_cons (ed_int (ad_nil (mk_ok (n := 1) (by decide) (by decide) (by decide) (by decide) ?_))))
      rw [low_one]
      rfl
    · intro out ho
      rw [outs_map ho]
      rw [List.replicate_succ']
      congr 2
      exact List.eq_replicate_iff.mpr ⟨by rw [List.length_map, List.length_range], fun b hb => by
        obtain ⟨_, _, rfl⟩ := List.mem_map.mp hb
        rfl⟩
  rintro rows hl rfl
  rw [Int.toNat_natCast, rep_mk] at *
  refine ⟨rfl, fun p qs => ?_⟩
  show NFs _ _ _ p qs [some .pot, some (.val (.int (n : Int))), some (.val (.int (way : Int))), some (.val (.cls p)), none, none, none, none, none] _ _ _
  refine nfs_cons (nsd_if (td_cmp (nm 2 (ed_int (od_eqi (kB ?_)))))) (fun _ h => h) (fun _ h => h)
  by_cases c1 : (way : Int) = 1
  · rw [decide_eq_true c1]
    refine nsds_nf (nfs_own 3 rfl (sds_frz 3 _ rfl ?_))
    rw [matD_map]
    show SDs _ _ _ [some .pot, some (.val (.int (n : Int))), some (.val (.int (way : Int))), some (.val (matD C (mkM n fun _ _ => 0))), none, none, none, none, none] _ _
    refine sds_cons (sd_forRn (N := 5) PassesOwn.never rfl T.range (fun i S' => ∃ M v8, ∃ v4 : Option Sl, S' = [some .pot, some (.val (.int (n : Int))), some (.val (.int (way : Int))), some (.val (matD C M)), v4, none, none, none, v8] ∧ Good n (7 + 8 * i) M) (ad_cons (ed_call G r1 hG (ad_pot 0 rfl rfl (ad_cons (ed_bin (nm 1 (ed_int (od_add (ad_nil ⟨(n : Int) + 1, rfl, by omega, by omega, fun cnt hc => ad_nil ⟨cnt, rfl, by omega, by omega, _, none, none, rfl, good_zero.mono (by decide)⟩⟩))))))))) ?_ ?_)
    · rintro i S' hi ⟨M, v8, v4, rfl, gM⟩
      refine gd_name 4 nd rfl ?_
      refine sds_cons (sd_set 3 nd rfl (ed_call MO hr hG (ad_cons (nm 3 (ad_cons (ed_call SM r4 hG (ad_pot 0 rfl rfl (ad_cons (ed_int (ad_nil ⟨3, rfl, by decide, fun r hr3 => ad_cons (ed_fd (fd_relR (n := n) (fun _ y => ∃ z : Int, y = .int z ∧ z.natAbs < 2 ^ 2) 8 (own := [("_law_place", 8)]) rfl nd T.range (blkOk_by (by show blkC NT (defScope (top 31)) _ _ = true; decide +kernel)) (fun _ _ _ _ _ => pg_name (i := 8) nd rfl (Or.inl rfl)) (by omega) (ad_cons (nm 1 (ad_nil rfl))) (by simp) ?_ ?_))⟩))))))))))
      · intro j hj s3 H3 C3 cl3 fp3
        exact ed_bin (ed_call G r1 hG (ad_pot 0 rfl rfl (ad_cons (ed_int (ad_nil ⟨5, rfl, by decide, by decide, fun d hd => ed_int (od_sub ⟨_, rfl, by omega⟩)⟩)))))
      · intro out ho
        obtain ⟨fs, rfl, lf, hf⟩ := outs_ints ho
        exact ad_nil ⟨M, n, 7 + 8 * i, r, fs, rfl, gM, h5, by omega, by omega, hr3, lf, hf, fun M' g' => sds_nil ⟨M', v8, _, rfl, g'.mono (by omega)⟩⟩
    · rintro cnt S' hc ⟨M, v8, v4, rfl, gM⟩
      exact sds_cons (sd_ret (nm 3 (q M (gM.mono (by omega)))))
  · rw [decide_eq_false c1]
    refine nsds_nil ?_
    refine nfs_cons (nsd_forR (n := (n : Int)) 5 nd rfl PassesOwn.never T.range (fun i S' rows => ∃ M o5 o6 o7, S' = [some .pot, some (.val (.int (n : Int))), some (.val (.int (way : Int))), some (.val (.cls p)), none, ov o5, ov o6, ov o7, none] ∧ rows = rowsD C M ∧ Good n 3 M) (ad_cons (nm 1 (ad_nil ⟨rfl, by omega, by omega, _, none, none, none, rfl, rfl, good_zero.mono (by decide)⟩))) ?_ ?_ (hc := rfl)) (fun _ h => h) (fun _ h => h)
    · rintro i S' rows hi ⟨M, o5, o6, o7, rfl, rfl, gM⟩
      refine ⟨by cases o6 <;> cases o7 <;> rfl, ?_⟩
      show NSDs _ _ _ p qs [some .pot, some (.val (.int (n : Int))), some (.val (.int (way : Int))), some (.val (.cls p)), none, some (.val (.int (i : Int))), ov o6, ov o7, none] _ _ _
      refine nsds_cons (nsd_forR (n := (i : Int) + 1) 6 nd rfl PassesOwn.never T.range (fun j S' rows => ∃ M o6 o7, S' = [some .pot, some (.val (.int (n : Int))), some (.val (.int (way : Int))), some (.val (.cls p)), none, some (.val (.int (i : Int))), ov o6, ov o7, none] ∧ rows = rowsD C M ∧ Good n 3 M) (ad_cons (ed_bin (nm 5 (ed_int (od_add (ad_nil ⟨rfl, by omega, by omega, M, o6, o7, rfl, rfl, gM⟩)))))) ?_ ?_ (hc := rfl))
      · rintro j S' rows hj ⟨M, o6, o7, rfl, rfl, gM⟩
        refine ⟨by cases o7 <;> rfl, ?_⟩
        show NSDs _ _ _ p qs [some .pot, some (.val (.int (n : Int))), some (.val (.int (way : Int))), some (.val (.cls p)), none, some (.val (.int (i : Int))), some (.val (.int (j : Int))), ov o7, none] _ _ _
        have hin : i < n := by omega
        have hji : j ≤ i := by omega
        refine nsds_cons (nsd_of fun B W0 => sd_mid (fun S' => ∃ r, S' = [some .pot, some (.val (.int (n : Int))), some (.val (.int (way : Int))), some (.val (.cls p)), none, some (.val (.int (i : Int))), some (.val (.int (j : Int))), some (.val (Ra C (fr r))), none] ∧ Bq 3 r) ?_ (sd_set 7 nd rfl (ed_ifx (td_cmp (nm 2 (ed_int (od_eqi (kB ?_))))))))
        rotate_left
        · cases decide ((way : Int) = 0) with
          | true => exact ed_call SM r4 hG (ad_pot 0 rfl rfl (ad_cons (ed_int (ad_nil ⟨6, rfl, by decide, fun r hb => ⟨r, rfl, hb⟩⟩))))
          | false =>
            refine ed_make V.mk1 r3 hG (ad_cons (ed_call G r1 hG (ad_pot 0 rfl rfl (ad_cons (ed_int (ad_nil ⟨5, rfl, by decide, by decide, fun d hd => ad_nil (mk_ok (n := 3) (by decide) (by omega) (by decide) (by decide) ?_)⟩))))))
            rw [low_one]
            exact ⟨((d : Int) : Rat), rfl, Bq.int (by omega) (by decide)⟩
        rintro S' ⟨r, rfl, hb⟩
        refine ⟨rfl, ?_⟩
        refine nsds_cons (nsd_of fun B W0 => sd_mid (fun S' => ∃ r, S' = [some .pot, some (.val (.int (n : Int))), some (.val (.int (way : Int))), some (.val (.cls p)), none, some (.val (.int (i : Int))), some (.val (.int (j : Int))), some (.val (Ra C (fr r))), none] ∧ Bq 3 r) ?_ (sd_if (td_any (fun t => ?_) ?_)))
        rotate_left
        · cases t with
          | false => exact sds_nil ⟨r, rfl, hb⟩
          | true =>
            refine sds_cons (sd_set 7 nd rfl (ed_make V.mk1 r3 hG (ad_cons (ed_int (ad_nil (mk_ok (n := 1) (by decide) (by decide) (by decide) (by decide) ?_))))))
            rw [low_one]
            exact sds_nil ⟨0, rfl, ⟨by show 0 < 2 ^ 3; decide, by show 1 < 2 ^ 3; decide, by show (0 : Int) < 1; decide⟩⟩
        · refine td_of (tw_or (td_any (fun t => ?_) (td_of (tw_and (td_cmp (nm 2 (ed_int (od_eqi (kB ?_)))))))))
          · cases t with
            | true => trivial
            | false =>
              show TW _ _ _ _ _
              refine tw_or1 (td_of (tw_and (td_cmp (nm 2 (ed_int (od_eqi (kB ?_)))))))
              cases decide ((way : Int) = 2) with
              | false => trivial
              | true =>
                show TW _ _ _ _ _
                exact tw_and1 (td_cmp (nm 5 (nm 6 (od_eqi (kB trivial)))))
          · cases decide ((way : Int) = 3) with
            | false => trivial
            | true =>
              show TW _ _ _ _ _
              exact tw_and1 (td_cmp (ed_call G r1 hG (ad_pot 0 rfl rfl (ad_cons (ed_int (ad_nil ⟨3, rfl, by decide, by decide, fun d hd => ed_int (od_gt (kB trivial))⟩))))))
        rintro S' ⟨r, rfl, hb⟩
        refine ⟨rfl, ?_⟩
        have li : i < M.length := by rw [gM.len]; exact hin
        have lj : j < M.length := by rw [gM.len]; omega
        refine nsds_cons (nsd_asg (ned_tup2 (ned_of (nm 7 (ned_of (nm 7 ?_))))))
        refine ngd_tup2 rfl (ngd_at (d0 := .non) 3 5 6 rfl rfl rfl rfl rfl rfl (rowsD_get li) (by rw [rowsD_len gM.sq li]; exact lj) ?_)
        rw [putM_rows li]
        have s1 := putM_sq (i := i) (j := j) (x := r) gM.sq
        have li' : j < (putM M i j r).length := by rw [putM_len]; exact lj
        refine ngd_at (d0 := .non) 3 6 5 rfl rfl rfl rfl rfl rfl (rowsD_get li') (by rw [rowsD_len s1 li', putM_len]; exact li) ?_
        rw [putM_rows li']
        exact nsds_nil ⟨_, some (.int (j : Int)), some (Ra C (fr r)), rfl, rfl, good_put gM hin hji hb⟩
      · rintro S' rows ⟨M, o6, o7, rfl, rfl, gM⟩
        exact nsds_nil ⟨M, some (.int (i : Int)), o6, o7, rfl, rfl, gM⟩
    · rintro S' rows ⟨M, o5, o6, o7, rfl, rfl, gM⟩
      refine nfs_own 3 rfl (sds_frz 3 _ rfl ?_)
      rw [matD_map]
      exact sds_cons (sd_ret (nm 3 (q M (gM.mono (by decide)))))
end
end K31

set_option Elab.async false
set_option linter.all false
set_option maxRecDepth 100000
set_option maxHeartbeats 8000000
/-! k31: tables as they are handed; the law's own sums and lists -/
namespace K31
open PySem L2 DL
section
variable {X : Cx} {B : Hp} {W0 : Wd} {S : En} {pos : Pos} {e2 : Expr}
/-- x[e] = .., x the owner of its list -/
theorem gd_ownE {x : Str} {px : Pos} {d : D} {Q : En → Prop} (ix : Nat) (l : List D) (hx : X.N[ix]? = some x) (sx : S[ix]? = some (some (.own l))) (h : ED X B S e2 fun y => ∃ i : Nat, y = .int (i : Int) ∧ i < l.length ∧ Q (S.set ix (some (.own (l.set i d)))))
    (vx : Vis X.env.scope x := by first | exact Or.inl rfl | exact Or.inr (Or.inl rfl)) (x1 : (x == ("__debug__" : Str)) = false := by decide) (x2 : (x == ("__classdict__" : Str)) = false := by decide)
    (ha : ∀ v, assign (.Subscript (.Name x px) e2 pos) X.env v = (do
      let ov ← holding [v] (eval (.Name x px) X.env)
      let iv ← holding [v, ov] (eval e2 X.env)
      standAt pos
      holding [v, ov, iv] (setItem ov iv v)
      release [v, ov, iv] []) := by intro _; rfl) : GD X B W0 S (.Subscript (.Name x px) e2 pos) d Q := fun σ W H v r z nd R k => by
  obtain ⟨v1, e1, p, xs, ev, hB, n, hI, hH, d0⟩ := r.sl ix _ sx
  subst ev
  refine PG.w (pg_sub (pe_var hx vx x1 x2) we_pe set_list ha) ⟨_, e1, ?_⟩
  refine h σ W H r _ fun y u W1 H1 s1 ok1 n1 q1 => ?_
  obtain ⟨i, rfl, hi, q1⟩ := q1
  cases n1
  have hH1 : H1 p = some (.lst xs) := s1.keep _ _ hH n
  have nP : ¬ W1.P p := fun q => n (s1.oldP p _ hH q)
  have hI1 : W1.I p = none := s1.old p _ hH hI
  refine ⟨p, xs, i, i, rfl, rfl, hH1, ixN_lt (by rw [← d0.length]; exact hi), ?_⟩
  exact k _ σ W1 _ ((r.step s1 ok1).putOwn sx e1 hB nP hI1 hH1 (Dns.set (nd.mono s1.I) i (d0.mono s1.I))) (stp_upd (z.trans r.ok s1) hB) s1.I q1
end
theorem rat_num {r : Rat} (h : (fr r).2 = 1) : ((r.num : Int) : Rat) = r := by
  have h' : r.den = 1 := Int.ofNat_inj.mp h
  exact Rat.ext rfl (by rw [h']; rfl)
section
variable {P : Program} {w : World} {K : PySem.W.Frag} {mg : Str → Option Value} {base : Heap} {C : Addr}
abbrev spHanded (C : Addr) : SpD := fun as Q => ∃ rs b, as = [.pot, .val (rowD C rs)] ∧ (∀ r ∈ rs, Bq b r) ∧ rs.length ≤ 1000 ∧ ∀ d l, SeqD d l → Nqs C b l rs → Q d
theorem sc_handed : FnScope ["_law_pot_here", "_law_numbers", "_law_found", "_law_one"] ["_law_pot_here", "_law_numbers"] (defScope (top 32)) := ⟨rfl, rfl, rfl, by decide +kernel, rfl, by decide +kernel, by decide +kernel⟩
theorem ok_handed {f : Addr} {fd : FuncData} (F : FunS K "_law_handed" "_law_handed" (top 32) f fd) (V : Rt P w K mg base C) (G : Df P w K mg base "_law_draw" 1 2 spDraw) : GnOk P w K mg base 3 f fd ["_law_pot_here", "_law_numbers"] (lift K (spHanded C)) := by
  refine gn_dl F sc_handed (fun as Q h => by obtain ⟨_, _, rfl, _⟩ := h; rfl) (fun cdv A outer s H hr hG W as Q h => ?_)
  obtain ⟨rs, b, rfl, hb, hl, q⟩ := h
  have nd := sc_handed.nd
  have T := V.T
  have r1 := hr.mono (j := 1) (by decide)
  refine sds_cons (sd_ownLc (i := 2) (g := gName 3) (own := [("_law_one", 3)]) rfl nd rfl rfl (pi_list we_pe) (blkOk_by (by show blkC ["_law_pot_here", "_law_numbers", "_law_found", "_law_one"] (defScope (top 32)) _ _ = true; decide +kernel)) (fun _ _ _ _ _ => pg_name (i := 3) nd rfl (Or.inl rfl)) (lc_L (l := rs.map fun r => Ra C (fr r)) (fun i acc => Nqs C b acc (rs.take i)) (fun d => itE [some .pot, some (.val (rowD C rs)), none, none] [("_law_one", 3)] 3 d) (nm 1 ⟨rfl, by rw [List.length_map]; omega, .nil⟩) (fun d _ => pat_name 3 (by simp)) ?_ ?_))
  · rintro i d acc hi hacc hn s2 H0 C2 cl fp
    rw [List.getElem?_map] at hi
    cases e : rs[i]? with
    | none => rw [e] at hi; cases hi
    | some r =>
      rw [e] at hi
      cases hi
      have br := hb r (List.mem_of_getElem? e)
      have te : rs.take (i + 1) = rs.take i ++ [r] := by rw [List.take_add_one, e]; rfl
      refine ed_ifx (td_of (tw_and (td_cmp (pB V hr hG (nm 3 ⟨rfl, ed_int (od_eqi (kB ?_))⟩)))))
      by_cases c : (fr r).2 = 1
      · rw [decide_eq_true c]
        show TW _ _ _ _ _
        refine tw_and1 (td_cmp (ed_call G r1 hG (ad_pot 0 rfl rfl (ad_cons (ed_int (ad_nil ⟨2, rfl, by decide, by decide, fun d hd => ed_int (od_eqi (kB ?_))⟩))))))
        cases decide ((d : Int) = 0) with
        | true =>
          show ED _ _ _ _ _
          refine pT V hr hG (nm 3 ⟨rfl, ?_⟩)
          rw [te]
          refine Nqs.snoc ?_ hn
          have e2 := rat_num c
          have : Nq C b (.int (fr r).1) ((r.num : Int) : Rat) := .int r.num (by rw [e2]; exact br)
          rw [e2] at this
          exact this
        | false =>
          show ED _ _ _ _ _
          refine nm 3 ?_
          rw [te]
          exact Nqs.snoc (.rat r br) hn
      · rw [decide_eq_false c]
        show ED _ _ _ _ _
        refine nm 3 ?_
        rw [te]
        exact Nqs.snoc (.rat r br) hn
  rintro acc hacc hn
  rw [List.length_map, List.take_length] at hn
  refine sds_frz 2 _ rfl ?_
  refine sds_cons (sd_ret (ed_ifx (td_cmp (ed_call G r1 hG (ad_pot 0 rfl rfl (ad_cons (ed_int (ad_nil ⟨4, rfl, by decide, by decide, fun d hd => ed_int (od_eqi (kB ?_))⟩))))))))
  cases decide ((d : Int) = 0) with
  | true => exact ed_callTy T.tuple (ad_cons (nm 2 (ad_nil (cd_tuple (q _ acc (.inr rfl) hn)))))
  | false => exact nm 2 (q _ acc (.inl rfl) hn)
abbrev spGiven (C : Addr) : SpD := fun as Q => ∃ M b, as = [.pot, .val (matD C M)] ∧ (∀ rs ∈ M, rs.length ≤ 1000 ∧ ∀ r ∈ rs, Bq b r) ∧ M.length ≤ 1000 ∧ ∀ d l, SeqD d l → RowsAre C b l M → Q d
theorem sc_given : FnScope ["_law_pot_here", "_law_rows", "_law_found", "_law_row"] ["_law_pot_here", "_law_rows"] (defScope (top 33)) := ⟨rfl, rfl, rfl, by decide +kernel, rfl, by decide +kernel, by decide +kernel⟩
theorem ok_given {f : Addr} {fd : FuncData} (F : FunS K "_law_given" "_law_given" (top 33) f fd) (T : Txt K mg C) (G : Df P w K mg base "_law_draw" 1 2 spDraw) (HA : Df P w K mg base "_law_handed" 3 2 (spHanded C)) : GnOk P w K mg base 4 f fd ["_law_pot_here", "_law_rows"] (lift K (spGiven C)) := by
  refine gn_dl F sc_given (fun as Q h => by obtain ⟨_, _, rfl, _⟩ := h; rfl) (fun cdv A outer s H hr hG W as Q h => ?_)
  obtain ⟨M, b, rfl, hb, hl, q⟩ := h
  have nd := sc_given.nd
  have r1 := hr.mono (j := 1) (by decide)
  refine sds_cons (sd_ownLc (i := 2) (g := gName 3) (own := [("_law_row", 3)]) rfl nd rfl rfl (pi_list we_pe) (blkOk_by (by show blkC ["_law_pot_here", "_law_rows", "_law_found", "_law_row"] (defScope (top 33)) _ _ = true; decide +kernel)) (fun _ _ _ _ _ => pg_name (i := 3) nd rfl (Or.inl rfl)) (lc_L (l := M.map (rowD C)) (fun i acc => RowsAre C b acc (M.take i)) (fun d => itE [some .pot, some (.val (matD C M)), none, none] [("_law_row", 3)] 3 d) (nm 1 ⟨rfl, by rw [List.length_map]; omega, .nil⟩) (fun d _ => pat_name 3 (by simp)) ?_ ?_))
  · rintro i d acc hi hacc hn s2 H0 C2 cl fp
    rw [List.getElem?_map] at hi
    cases e : M[i]? with
    | none => rw [e] at hi; cases hi
    | some rs =>
      rw [e] at hi
      cases hi
      obtain ⟨b1, b2⟩ := hb rs (List.mem_of_getElem? e)
      refine ed_call HA hr hG (ad_pot 0 rfl rfl (ad_cons (nm 3 (ad_nil ⟨rs, b, rfl, b2, b1, fun d le sd nq => ?_⟩))))
      show RowsAre C b _ (M.take (i + 1))
      rw [List.take_add_one, e]
      exact Paired.snoc ⟨le, sd, nq, by rw [nq.len]; exact b1⟩ hn
  rintro acc hacc hn
  rw [List.length_map, List.take_length] at hn
  refine sds_frz 2 _ rfl ?_
  refine sds_cons (sd_ret (ed_ifx (td_cmp (ed_call G r1 hG (ad_pot 0 rfl rfl (ad_cons (ed_int (ad_nil ⟨4, rfl, by decide, by decide, fun d hd => ed_int (od_eqi (kB ?_))⟩))))))))
  cases decide ((d : Int) = 0) with
  | true => exact ed_callTy T.tuple (ad_cons (nm 2 (ad_nil (cd_tuple (q _ acc (.inr rfl) hn)))))
  | false => exact nm 2 (q _ acc (.inl rfl) hn)
theorem sc_lnum : FnScope ["_law_value"] ["_law_value"] (defScope (top 34)) := ⟨rfl, rfl, rfl, by decide +kernel, rfl, by decide +kernel, by decide +kernel⟩
theorem ok_lnum {f : Addr} {fd : FuncData} (F : FunS K "_law_is_number" "_law_is_number" (top 34) f fd) (T : Txt K mg C) : GnOk P w K mg base 1 f fd ["_law_value"] (lift K (spB C isN)) := by
  refine gn_dl F sc_lnum (fun as Q h => by obtain ⟨d, rfl, _⟩ := h; rfl) (fun cdv A outer s H hr hG W as Q h => ?_)
  obtain ⟨d, rfl, kn, q⟩ := h
  obtain ⟨t, ty, h1, h2, h3⟩ := kn.ty T
  refine sds_cons (sd_ret (ed_or (ed_callB T.isi (ad_cons (nm 0 (ad_cons (ed_cls T.mC (ad_nil (cd_isi ty (.cls _) h3 (kB ?_))))))))))
  unfold isN at q
  cases c : isO d with
  | true =>
    rw [c, Bool.or_true] at q
    exact q
  | false =>
    rw [c, Bool.or_false] at q
    show ED _ _ _ _ _
    refine ed_one (ed_and (ed_callB T.isi (ad_cons (nm 0 (ad_cons (ed_ty T.int (ad_nil (cd_isi ty (.ty _) h1 (kB ?_)))))))))
    have e : isI d = ((isI d || isB d) && !isB d) := by cases d <;> rfl
    rw [e] at q
    cases c2 : (isI d || isB d) with
    | false =>
      rw [c2] at q
      exact q
    | true =>
      rw [c2] at q
      show ED _ _ _ _ _
      exact ed_one (ed_not (ed_callB T.isi (ad_cons (nm 0 (ad_cons (ed_ty T.bool (ad_nil (cd_isi ty (.ty _) (h2 c2) (kB q)))))))))
/-! the law's own lists -/
abbrev spList (C : Addr) : SpD := fun as Q => ∃ n : Nat, as = [.pot, .val (.int (n : Int))] ∧ 1 ≤ n ∧ n ≤ 5 ∧ ∀ rs : List Rat, rs.length = n → (∀ r ∈ rs, Bq 20 r) → Q (rowD C rs)
theorem sc_list : FnScope ["_law_pot_here", "_law_size", "_law_found", "_law_place"] ["_law_pot_here", "_law_size"] (defScope (top 38)) := ⟨rfl, rfl, rfl, by decide +kernel, rfl, by decide +kernel, by decide +kernel⟩
theorem ok_list {f : Addr} {fd : FuncData} (F : FunS K "_law_list" "_law_list" (top 38) f fd) (V : Rt P w K mg base C) (G : Df P w K mg base "_law_draw" 1 2 spDraw) (R : Df P w K mg base "_law_pick" 2 2 spPick) (SM : Df P w K mg base "_law_small" 4 2 (spSmall C)) : GnOk P w K mg base 5 f fd ["_law_pot_here", "_law_size"] (lift K (spList C)) := by
  refine gn_dl F sc_list (fun as Q h => by obtain ⟨_, rfl, _⟩ := h; rfl) (fun cdv A outer s H hr hG W as Q h => ?_)
  obtain ⟨n, rfl, h1, h5, q⟩ := h
  have nd := sc_list.nd
  have T := V.T
  have r1 := hr.mono (j := 1) (by decide)
  have r2 := hr.mono (j := 2) (by decide)
  have r3 := hr.mono (j := 3) (by decide)
  refine sds_cons (sd_ownLc (i := 2) (g := gName 3) (own := [("_law_place", 3)]) rfl nd rfl rfl (pi_range1 rfl T.range wa_pa) (blkOk_by (by show blkC ["_law_pot_here", "_law_size", "_law_found", "_law_place"] (defScope (top 38)) _ _ = true; decide +kernel)) (fun _ _ _ _ _ => pg_name (i := 3) nd rfl (Or.inl rfl)) (lc_R (n := (n : Int)) (fun i acc => ∃ rs : List Rat, acc = rs.map (fun r => Ra C (fr r)) ∧ rs.length = i ∧ ∀ r ∈ rs, Bq 20 r) (fun d => itE [some .pot, some (.val (.int (n : Int))), none, none] [("_law_place", 3)] 3 d) (ad_cons (nm 1 (ad_nil ⟨rfl, by omega, by omega, [], rfl, rfl, by simp⟩))) (fun d => pat_name 3 (by simp)) ?_ ?_))
  · rintro i acc hi hacc ⟨rs, rfl, hl, hb⟩ s2 H0 C2 cl fp
    refine ed_call SM hr hG (ad_pot 0 rfl rfl (ad_cons (ed_int (ad_nil ⟨5, rfl, by decide, fun r hr3 => ⟨rs ++ [r], by rw [List.map_append]; rfl, by simp [hl], fun x hx => ?_⟩⟩))))
    rcases List.mem_append.mp hx with hx | hx
    · exact hb x hx
    · rw [List.mem_singleton.mp hx]
      exact hr3.le (by decide)
  rintro acc hacc ⟨rs, rfl, hl, hb⟩
  rw [Int.toNat_natCast] at hl
  show SDs _ _ _ [some .pot, some (.val (.int (n : Int))), some (.own (rs.map fun r => Ra C (fr r))), none] _ _
  refine sds_cons (sd_mid (fun S' => ∃ rs : List Rat, S' = [some .pot, some (.val (.int (n : Int))), some (.own (rs.map fun r => Ra C (fr r))), none] ∧ rs.length = n ∧ ∀ r ∈ rs, Bq 20 r) ?_ (sd_if (td_cmp (ed_call G r1 hG (ad_pot 0 rfl rfl (ad_cons (ed_int (ad_nil ⟨4, rfl, by decide, by decide, fun d hd => ed_int (od_eqi (kB ?_))⟩))))))))
  rotate_left
  · cases decide ((d : Int) = 0) with
    | false => exact sds_nil ⟨rs, rfl, hl, hb⟩
    | true =>
      refine sds_cons (sd_asg (ed_makeA V.mk2 r3 hG (ad_cons (ed_bin (ed_int (ed_call G r1 hG (ad_pot 0 rfl rfl (ad_cons (ed_int (ad_nil ⟨9, rfl, by decide, by decide, fun d hd => od_sub (ad_cons (ed_call R r2 hG (ad_pot 0 rfl rfl (ad_cons (ed_lst (ad_cons (ed_int (ad_cons (ed_int (ad_nil ⟨[.int 1, .int 999979], rfl, by simp, ad_nil ⟨_, rfl, by simp, by simp, fun x hx => ad_nil ?_⟩⟩))))))))))⟩))))))))))
      have hb' : ∃ b : Int, x = .int b ∧ b ≠ 0 ∧ b.natAbs < 2 ^ 20 := by
        simp only [List.mem_cons, List.not_mem_nil, or_false] at hx
        rcases hx with rfl | rfl <;> exact ⟨_, rfl, by decide, by decide⟩
      obtain ⟨b, rfl, b0, b20⟩ := hb'
      have t20 : ((999983 : Int) - (d : Int)).natAbs < 2 ^ 20 := by omega
      refine mk_ok (n := 20) b0 t20 b20 (by decide) ?_
      have bd := low_bd b0 t20 b20
      rw [low_fr b0] at bd ⊢
      refine gd_ownE 2 _ rfl rfl (ed_call G r1 hG (ad_pot 0 rfl rfl (ad_cons (nm 1 (ad_nil ⟨(n : Int), rfl, by omega, by omega, fun j hj => ⟨j, rfl, by rw [List.length_map]; omega, ?_⟩⟩)))))
      refine sds_nil ⟨rs.set j _, by rw [List.map_set]; rfl, by rw [List.length_set]; exact hl, fun x hx => ?_⟩
      rcases List.mem_or_eq_of_mem_set hx with z | z
      · exact hb x z
      · rw [z]; exact bd
  rintro S' ⟨rs, rfl, hl, hb⟩
  refine sds_frz 2 _ rfl ?_
  exact sds_cons (sd_ret (nm 2 (q rs hl hb)))
end
end K31

set_option Elab.async false
set_option linter.all false
set_option maxRecDepth 100000
set_option maxHeartbeats 8000000
/-! k31: the law's own sum -/
namespace K31
open PySem L2 DL
theorem sum_step {rs ss : List Rat} {j : Nat} {a b : Rat} (ha : rs[j]? = some a) (hb : ss[j]? = some b) : sumQ ((List.zipWith (· * ·) rs ss).take (j + 1)) = sumQ ((List.zipWith (· * ·) rs ss).take j) + a * b := by
  have e : (List.zipWith (· * ·) rs ss)[j]? = some (a * b) := by rw [List.getElem?_zipWith, ha, hb]
  rw [List.take_add_one, e]
  exact sumQ_snoc _ _
theorem sum_all {rs ss : List Rat} {n : Nat} (h : rs.length ≤ n) : sumQ ((List.zipWith (· * ·) rs ss).take n) = dotQ rs ss := by
  rw [List.take_of_length_le (by rw [List.length_zipWith]; omega)]
  rfl
section
variable {P : Program} {w : World} {K : PySem.W.Frag} {mg : Str → Option Value} {base : Heap} {C : Addr}
abbrev spSum (C : Addr) : SpD := fun as Q => ∃ M fs gs, as = [.val (matD C M), .val (rowD C fs), .val (rowD C gs)] ∧ Good M.length 48 M ∧ M.length ≤ 5 ∧ fs.length = M.length ∧ gs.length = M.length ∧ (∀ r ∈ fs, Bq 20 r) ∧ (∀ r ∈ gs, Bq 20 r) ∧ Q (Ra C (fr (valM M fs gs)))
theorem sc_sum : FnScope ["_law_rows", "_law_first", "_law_second", "_law_found", "_law_i", "_law_j"] ["_law_rows", "_law_first", "_law_second"] (defScope (top 37)) := ⟨rfl, rfl, rfl, by decide +kernel, rfl, by decide +kernel, by decide +kernel⟩
theorem row_at {fs : List Rat} {i : Nat} (h : i < fs.length) : ∃ f, fs[i]? = some f ∧ f ∈ fs ∧ atI (fs.map fun r => Ra C (fr r)) (i : Int) = some (Ra C (fr f)) :=
  ⟨fs[i], List.getElem?_eq_getElem h, List.getElem_mem h, atI_nat (by rw [List.getElem?_map, List.getElem?_eq_getElem h]; rfl)⟩
theorem ok_sum {f : Addr} {fd : FuncData} (F : FunS K "_law_sum" "_law_sum" (top 37) f fd) (L : Lv P w K mg base C) : GnOk P w K mg base 7 f fd ["_law_rows", "_law_first", "_law_second"] (lift K (spSum C)) := by
  refine gn_dl F sc_sum (fun as Q h => by obtain ⟨_, _, _, rfl, _⟩ := h; rfl) (fun cdv A outer s H hr hG W as Q h => ?_)
  obtain ⟨M, fs, gs, rfl, gM, h5, lf, lg, bf, bg, q⟩ := h
  have nd := sc_sum.nd
  have V := L.V
  have T := V.T
  refine sds_cons (sd_set 3 nd rfl (ed_make V.mk1 (hr.mono (by decide)) hG (ad_cons (ed_int (ad_nil (mk_ok (n := 1) (by decide) (by decide) (by decide) (by decide) ?_))))))
  rw [low_one]
  refine sds_cons (sd_forR (n := (M.length : Int)) PassesOwn.never rfl T.range (fun i S' => ∃ v o4 o5, S' = [some (.val (matD C M)), some (.val (rowD C fs)), some (.val (rowD C gs)), some (.val (Ra C (fr v))), o4, o5] ∧ v = sumQ ((List.zipWith (· * ·) fs (M.map fun row => dotQ row gs)).take i) ∧ Bq (1 + 89 * (5 * i)) v) (ad_cons (ed_callB T.len (ad_cons (nm 0 (ad_nil (cd_len (l := M.map (rowD C)) (.inl rfl) (ad_nil ⟨by rw [List.length_map], by omega, by omega, 0, none, none, rfl, rfl, ⟨by decide, by decide, by decide⟩⟩))))))) ?_ ?_)
  · rintro i S' hi ⟨v, o4, o5, rfl, hv, bv⟩
    have hi' : i < M.length := by omega
    refine gd_name 4 nd rfl ?_
    obtain ⟨f, ef, mf, af⟩ := row_at (C := C) (fs := fs) (i := i) (by rw [lf]; exact hi')
    refine sds_cons (sd_forR (n := (M.length : Int)) PassesOwn.never rfl T.range (fun j S' => ∃ v o5, S' = [some (.val (matD C M)), some (.val (rowD C fs)), some (.val (rowD C gs)), some (.val (Ra C (fr v))), some (.val (.int (i : Int))), o5] ∧ v = sumQ ((List.zipWith (· * ·) fs (M.map fun row => dotQ row gs)).take i) + f * sumQ ((List.zipWith (· * ·) M[i] gs).take j) ∧ Bq (1 + 89 * (5 * i + j)) v) (ad_cons (ed_callB T.len (ad_cons (nm 0 (ad_nil (cd_len (l := M.map (rowD C)) (.inl rfl) (ad_nil ⟨by rw [List.length_map], by omega, by omega, v, o5, rfl, ?_, bv⟩))))))) ?_ ?_)
    · show v = _ + f * 0
      rw [hv, Rat.mul_zero, Rat.add_zero]
    · rintro j S' hj ⟨u, o5, rfl, hu, bu⟩
      have hj' : j < M.length := by omega
      refine gd_name 5 nd rfl ?_
      obtain ⟨g, eg, mg, ag⟩ := row_at (C := C) (fs := gs) (i := j) (by rw [lg]; exact hj')
      obtain ⟨rs, a1, a2⟩ := matD_at (C := C) gM.sq (i := i) (j := j) hi' hj'
      have bm := gM.en i j hi' hj'
      have em : M[i][j]? = some (at2 M i j) := by
        have lj : j < M[i].length := by rw [gM.sq _ (List.getElem_mem hi')]; exact hj'
        unfold at2
        rw [List.getElem?_eq_getElem hi', Option.getD_some, List.getElem?_eq_getElem lj, Option.getD_some]
      refine sds_cons (sd_set 3 nd rfl (ed_bin (nm 3 (ed_bin (ed_bin (ed_ix (nm 1 (nm 4 ⟨_, i, _, .inl rfl, rfl, af, ed_ix (ed_ix (nm 0 (nm 4 ⟨_, i, _, .inl rfl, rfl, a1, nm 5 ⟨_, j, _, .inl rfl, rfl, a2, od_mulQ L hr hG (.rat f (bf f mf)) (.rat _ bm) (by decide) (by decide) fun d2 h2 => ed_ix (nm 2 (nm 5 ⟨_, j, _, .inl rfl, rfl, ag, od_mulQ L hr hG h2 (.rat g (bg g mg)) (by decide) (by decide) fun d3 h3 => od_addQ L hr hG (bu.le (by omega)) (h3.mono (by decide)) ?_⟩))⟩⟩)))⟩))))))))
      refine sds_nil ⟨_, _, rfl, ?_, (bu.add h3.b).le (by omega)⟩
      rw [sum_step em eg, hu, Rat.mul_add, Rat.add_assoc, Rat.mul_assoc]
    · rintro S' ⟨u, o5, rfl, hu, bu⟩
      refine sds_nil ⟨u, _, o5, rfl, ?_, bu.le (by omega)⟩
      rw [Int.toNat_natCast, sum_all (rs := M[i]) (by rw [gM.sq _ (List.getElem_mem hi')]; exact Nat.le_refl _)] at hu
      rw [sum_step ef (by rw [List.getElem?_map, List.getElem?_eq_getElem hi']; rfl), hu]
  · rintro S' ⟨u, o4, o5, rfl, hu, bu⟩
    rw [Int.toNat_natCast, sum_all (by omega)] at hu
    refine sds_cons (sd_ret (nm 3 ?_))
    rw [hu]
    exact q
end
end K31

set_option Elab.async false
set_option linter.all false
set_option maxRecDepth 100000
set_option maxHeartbeats 8000000
/-! k31: the law's own look -/
namespace DL
open PySem L2
section
variable {X : Cx} {B : Hp} {W0 : Wd} {S : En} {pos : Pos}
theorem sd_forS {E : Ends'} {tg iter : Expr} {body : List Stmt} {l : List D} {d0 : D} (hp : PassesOwn (model X.prog X.w) X.A X.env X.xe) (hc : X.calm = true) (Inv : Nat → En → Prop) (sd : SeqD d0 l) (h : ED X B S iter fun d => d = d0 ∧ Inv 0 S)
    (hs : ∀ (i : Nat) d S', l[i]? = some d → Inv i S' → GD X B W0 S' tg d fun S2 => SDs X B W0 S2 body { nx := Inv (i + 1), rt := E.rt, bk := E.nx, ct := Inv (i + 1) })
    (hd : ∀ S', Inv l.length S' → E.nx S') (hf : ∀ x, foldedSetIterable iter X.env x = pure x := by intro _; rfl) : SD X B W0 S (.For tg iter body [] pos) E := by
  rcases sd with rfl | rfl
  · exact sd_forL hp hc Inv h hs hd hf
  · exact sd_forT hp hc Inv h hs hd hf
/-- [x for x in e if ..] -/
theorem fd_lcSI {elt tg iter c : Expr} {scope : Scope} {own : List (Str × Nat)} {g : TG} {l : List D} {d0 : D} {Q : List D → Prop} (J : Nat → List D → Prop) (S' : D → En) (hc : X.calm = true) (hN : X.N.Nodup) (ok : BlkOk X.N X.env.scope scope own)
    (hg : ∀ (s : Shared) (H : Hp) (C : Addr) (cl : List (Str × Addr)) (fp : List Addr), PG (X.blk s H scope (compEnvC scope cl C X.env) fp) tg g) (sd : SeqD d0 l)
    (h : ED X B S iter fun d => d = d0 ∧ l.length ≤ 50000 ∧ J 0 []) (hp : ∀ d ∈ l, Pat X.K g (own.map (·.2)) S d (S' d))
    (he : ∀ (i : Nat) d acc, l[i]? = some d → acc.length ≤ i → J i acc → ∀ (s : Shared) (H0 : Hp) (C : Addr) (cl : List (Str × Addr)) (fp : List Addr), TD (X.blk s H0 scope (compEnvC scope cl C X.env) fp) B (S' d) c fun b =>
      if b = true then ∀ (s : Shared) (H0 : Hp) (C : Addr) (cl : List (Str × Addr)) (fp : List Addr), ED (X.blk s H0 scope (compEnvC scope cl C X.env) fp) B (S' d) elt fun y => J (i + 1) (acc ++ [y]) else J (i + 1) acc)
    (hd : ∀ acc, acc.length ≤ l.length → J l.length acc → Q acc) (hs : ∀ x, foldedSetIterable iter X.env x = pure x := by intro _; rfl) : FD X B S (.ListComp elt [⟨tg, iter, [c], 0⟩] scope pos) Q := by
  rcases sd with rfl | rfl
  · exact fd_lcLI J S' hc hN ok hg h hp he hd hs
  · exact fd_lcTI J S' hc hN ok hg h hp he hd hs
end
end DL
namespace K31
open PySem L2 DL
/-- a value that is no number, as it may stand in a row -/
def Odd (x : D) : Prop := ∃ p, PyD x p ∧ p.canLay0 = true ∧ p.depth ≤ 8
theorem odds : ∀ {l : List D}, (∀ x ∈ l, Odd x) → ∃ ps, PyDs l ps ∧ PyData.canLayAll0 ps = true ∧ PyData.depthAll ps ≤ 8
  | [], _ => ⟨[], .nil, rfl, by decide⟩
  | x :: l, h => by
    obtain ⟨p, a, b, b2⟩ := h x (by simp)
    obtain ⟨ps, c, d, d2⟩ := odds (l := l) fun y hy => h y (by simp [hy])
    refine ⟨p :: ps, .cons a c, ?_, ?_⟩
    · simp only [PyData.canLayAll0, b, d, Bool.and_self]
    · simp only [PyData.depthAll]
      omega
theorem shaped_of {ps : List PyData} (h : PyData.canLayAll0 ps = true) (k : PyData.depthAll ps ≤ 8) : SeqAt.shaped (.list ps) = true := by
  simp [SeqAt.shaped, PyData.canLay0, h, PyData.depth]
  omega
theorem pyds_nil {l : List D} {ps : List PyData} (h : PyDs l ps) : PyData.eqv (.list ps) (.list []) = l.isEmpty := by
  cases h <;> rfl
section
variable {X : Cx} {Q : D → Prop}
theorem od_neNil {k : Nat} {l : List D} (hr : Room k X.A) (h : ∀ x ∈ l, Odd x) (q : Q (.bl (!l.isEmpty))) : OD X (compareOp .NotEq) (.lst l) (.lst []) Q := by
  obtain ⟨ps, a, b, c⟩ := odds h
  exact od_ned (by have := hr.un; omega) (.lst a) (.lst .nil) (shaped_of b c) rfl (by rw [pyds_nil a]; exact q)
end
theorem all_idN {l : List Nat} {f : Nat → Bool} : (l.map f).all id = l.all f := by rw [List.all_map]; rfl
theorem outs_B {f : Nat → Bool} {n : Nat} {out : List D} (h : Outs (fun i y => y = .bl (f i)) n out) : out = ((List.range n).map f).map D.bl := by
  rw [outs_map (f := fun i => .bl (f i)) h, List.map_map]
  rfl
theorem pick2 {C : Addr} {n : Nat} {l : List D} {M : List (List Rat)} (h : RowsAre C n l M) (hs : Square M) {i j : Nat} (hi : i < M.length) (hj : j < M.length) : ∃ e le x, atI l (i : Int) = some e ∧ SeqD e le ∧ atI le (j : Int) = some x ∧ Nq C n x (at2 M i j) := by
  have el : l[i]? = some (l[i]'(by rw [h.len]; exact hi)) := List.getElem?_eq_getElem _
  obtain ⟨rs, le, em, se, nq, _⟩ := h.get el
  have lr : rs.length = M.length := hs rs (List.mem_of_getElem? em)
  have ee : le[j]? = some (le[j]'(by rw [nq.len, lr]; exact hj)) := List.getElem?_eq_getElem _
  obtain ⟨r, er, q⟩ := nq.get ee
  refine ⟨_, le, _, atI_nat el, se, atI_nat ee, ?_⟩
  unfold at2
  rw [em, Option.getD_some, er, Option.getD_some]
  exact q
theorem take_all {l : List D} {f : D → Bool} {i : Nat} {d : D} (h : l[i]? = some d) : (l.take (i + 1)).all f = ((l.take i).all f && f d) := by
  rw [List.take_add_one, h, List.all_append]
  simp
section
variable {P : Program} {w : World} {K : PySem.W.Frag} {mg : Str → Option Value} {base : Heap} {C : Addr}
abbrev spLooks (C : Addr) : SpD := fun as Q => ∃ d l, as = [.val d] ∧ SeqD d l ∧ l.length ≤ 20 ∧ (∀ e ∈ l, RowLike C e) ∧ (∀ e ∈ l, ∀ le, SeqD e le → ∀ x ∈ le, isN x = false → Odd x) ∧ Q (.bl (tabB l))
theorem sc_looks : FnScope ["_law_value", "_law_row", "_law_one", "_law_i", "_law_j"] ["_law_value"] (defScope (top 35)) := ⟨rfl, rfl, rfl, by decide +kernel, rfl, by decide +kernel, by decide +kernel⟩
open Classical in
theorem ok_looks {f : Addr} {fd : FuncData} (F : FunS K "_law_looks" "_law_looks" (top 35) f fd) (L : Lv P w K mg base C) (N : Df P w K mg base "_law_is_number" 1 1 (spB C isN)) : GnOk P w K mg base 7 f fd ["_law_value"] (lift K (spLooks C)) := by
  refine gn_dl F sc_looks (fun as Q h => by obtain ⟨_, _, rfl, _⟩ := h; rfl) (fun cdv A outer s H hr hG W as Q h => ?_)
  obtain ⟨d, l, rfl, sd, hl, hx, ho, q⟩ := h
  have nd := sc_looks.nd
  have V := L.V
  have T := V.T
  have r1 := hr.mono (j := 1) (by decide)
  have r3 := hr.mono (j := 3) (by decide)
  obtain ⟨kn, il⟩ := seq_kn (C := C) sd
  obtain ⟨t, ty, ka⟩ := kn.tl (T := T)
  rw [il] at ka
  unfold tabB at q
  refine sds_cons (sd_if (td_of (tw_or (td_not (td_val (ed_callB T.isi (ad_cons (nm 0 (ad_cons (ed_tup (ad_cons (ed_ty T.list (ad_cons (ed_ty T.tuple (ad_nil ⟨[.ty "list", .ty "tuple"], rfl, by decide, ad_nil (cd_isi2 ty (.ty _) (.ty _) ka (kB ?_))⟩)))))))))))))))
  refine tw_or1 (td_not (td_chain (ed_int (ed_callB T.len (ad_cons (nm 0 (ad_nil (cd_len sd (od_le ⟨_, rfl, ?_⟩)))))))))
  by_cases c1 : 1 ≤ l.length
  rotate_left
  · rw [decide_eq_false (by omega)]
    rw [decide_eq_false c1] at q
    show SDs _ _ _ _ _ _
    exact sds_cons (sd_ret (ed_bl q))
  rw [decide_eq_true (by omega)]
  refine ed_int (od_le (kB ?_))
  rw [decide_eq_true (by omega)]
  rw [decide_eq_true c1, Bool.true_and] at q
  refine sds_nil ?_
  refine sds_cons (sd_forS (l := l) PassesOwn.never rfl (fun i S' => ∃ o1, S' = [some (.val d), o1, none, none, none] ∧ (l.take i).all (rowB l.length) = true) sd (nm 0 ⟨rfl, none, rfl, rfl⟩) ?_ ?_)
  · rintro i e S' hi ⟨o1, rfl, ha⟩
    refine gd_name 1 nd rfl ?_
    have me := List.mem_of_getElem? hi
    have stop : rowB l.length e = false → Q (.bl false) := fun z => by
      have : l.all (rowB l.length) = false := by
        cases c : l.all (rowB l.length) with
        | false => rfl
        | true => rw [List.all_eq_true.mp c e me] at z; cases z
      rw [this] at q
      exact q
    have go : rowB l.length e = true → (l.take (i + 1)).all (rowB l.length) = true := fun z => by rw [take_all hi, ha, z]; rfl
    unfold rowB at stop go
    have ke : Kn C e := by
      rcases hx e me with ⟨_, k⟩ | ⟨le, se, _⟩
      · exact k
      · exact (seq_kn se).1
    obtain ⟨t, ty, ka⟩ := ke.tl (T := T)
    refine sds_cons (sd_if (td_of (tw_or (td_not (td_val (ed_callB T.isi (ad_cons (nm 1 (ad_cons (ed_tup (ad_cons (ed_ty T.list (ad_cons (ed_ty T.tuple (ad_nil ⟨[.ty "list", .ty "tuple"], rfl, by decide, ad_nil (cd_isi2 ty (.ty _) (.ty _) ka (kB ?_))⟩)))))))))))))))
    rcases hx e me with ⟨z, k⟩ | ⟨le, se, ll, hx'⟩
    · rw [z] at stop ⊢
      show SDs _ _ _ _ _ _
      exact sds_cons (sd_ret (ed_bl (stop rfl)))
    · rw [(seq_kn (C := C) se).2, seq_items se] at stop go
      rw [(seq_kn (C := C) se).2]
      show TW _ _ _ _ _
      refine tw_or (td_cmp (ed_callB T.len (ad_cons (nm 1 (ad_nil (cd_len se (ed_callB T.len (ad_cons (nm 0 (ad_nil (cd_len sd (od_nei (kB ?_)))))))))))))
      by_cases c2 : le.length = l.length
      rotate_left
      · rw [decide_eq_false c2] at stop
        rw [decide_eq_false (by omega)]
        show SDs _ _ _ _ _ _
        exact sds_cons (sd_ret (ed_bl (stop rfl)))
      rw [decide_eq_true c2, Bool.true_and, Bool.true_and] at stop go
      rw [decide_eq_true (by omega)]
      show TW _ _ _ _ _
      refine tw_or1 (td_cmp (ed_fd (fd_lcSI (l := le) (own := [("_law_one", 2)]) (g := gName 2) (fun i acc => acc = (le.take i).filter fun x => !isN x) (fun x => itE [some (.val d), some (.val e), none, none, none] [("_law_one", 2)] 2 x) rfl nd (blkOk_by (by show blkC ["_law_value", "_law_row", "_law_one", "_law_i", "_law_j"] (defScope (top 35)) _ _ = true; decide +kernel)) (fun _ _ _ _ _ => pg_name (i := 2) nd rfl (Or.inl rfl)) se (nm 1 ⟨rfl, by omega, rfl⟩) (fun d _ => pat_name 2 (by simp)) ?_ ?_)))
      · rintro m x acc hm hacc rfl s2 H0 C2 cl fp
        have mx := List.mem_of_getElem? hm
        refine td_not (td_val (ed_call N r1 hG (ad_cons (nm 2 (ad_nil ⟨x, rfl, (hx' x mx).1, kB ?_⟩)))))
        have e2 : (le.take (m + 1)).filter (fun x => !isN x) = (le.take m).filter (fun x => !isN x) ++ [x].filter fun x => !isN x := by
          rw [List.take_add_one, hm, List.filter_append]
          rfl
        cases c3 : isN x with
        | true =>
          rw [e2]
          simp [c3]
        | false =>
          rw [e2]
          simp only [Bool.not_false, if_true]
          intro s3 H3 C3 cl3 fp3
          refine nm 2 ?_
          simp [c3]
      rintro acc hacc rfl
      rw [List.take_length]
      refine ed_lst (ad_nil ⟨[], rfl, by simp, od_neNil hr (fun x h => ?_) (kB ?_)⟩)
      · rw [List.mem_filter] at h
        exact ho e me le se x h.1 (by simpa using h.2)
      · cases c4 : le.all isN with
        | true =>
          have : (le.filter fun x => !isN x) = [] := List.filter_eq_nil_iff.mpr fun x hx => by simp [List.all_eq_true.mp c4 x hx]
          rw [this]
          exact sds_nil (sds_nil ⟨_, rfl, go c4⟩)
        | false =>
          have : (le.filter fun x => !isN x).isEmpty = false := by
            rw [List.all_eq_false] at c4
            obtain ⟨x, hx, hn⟩ := c4
            rw [List.isEmpty_eq_false_iff]
            exact List.ne_nil_of_mem (a := x) (List.mem_filter.mpr ⟨hx, by simpa using hn⟩)
          rw [this]
          exact sds_cons (sd_ret (ed_bl (stop c4)))
  rintro S' ⟨o1, rfl, ha⟩
  rw [List.take_length] at ha
  rw [ha, Bool.true_and] at q
  obtain ⟨M, hM, sq⟩ := rows_ex hx ha
  have lM := hM.len
  have sqM : Square M := fun rs h => by rw [sq rs h, lM]
  have sq' : Q (.bl (decide (Sym M))) := by rw [← decide_eq_decide.mpr (sym_iff hM sqM)]; exact q
  refine sds_cons (sd_forR (n := (M.length : Int)) PassesOwn.never rfl T.range (fun i S' => ∃ o3, S' = [some (.val d), o1, none, o3, none] ∧ ∀ a b, a < i → b < a → at2 M a b = at2 M b a) (ad_cons (ed_callB T.len (ad_cons (nm 0 (ad_nil (cd_len sd (ad_nil ⟨by rw [lM], by omega, by omega, none, rfl, by omega⟩))))))) ?_ ?_)
  · rintro i S' hi ⟨o3, rfl, hs⟩
    have hi' : i < M.length := by omega
    refine gd_name 3 nd rfl ?_
    refine sds_cons (sd_if (td_not (td_val (ed_callB T.all (ad_cons (ed_fd (fd_relR (n := i) (fun j y => y = .bl (decide (at2 M i j = at2 M j i))) 4 (own := [("_law_j", 4)]) rfl nd T.range (blkOk_by (by show blkC ["_law_value", "_law_row", "_law_one", "_law_i", "_law_j"] (defScope (top 35)) _ _ = true; decide +kernel)) (fun _ _ _ _ _ => pg_name (i := 4) nd rfl (Or.inl rfl)) (by omega) (ad_cons (nm 3 (ad_nil rfl))) (by simp) ?_ ?_)))))))
    · intro j hj s2 H0 C2 cl fp
      have hj' : j < M.length := by omega
      obtain ⟨e, le, x, a1, a2, a3, a4⟩ := pick2 hM sqM hi' hj'
      obtain ⟨e', le', x', b1, b2, b3, b4⟩ := pick2 hM sqM hj' hi'
      refine ed_cmp (ed_bin (ed_make V.mk1 r3 hG (ad_cons (ed_int (ad_nil (mk_ok (n := 1) (by decide) (by decide) (by decide) (by decide) ?_))))))
      rw [low_one]
      refine ed_ix (ed_ix (nm 0 (nm 3 ⟨l, i, e, sd, rfl, a1, nm 4 ⟨le, j, x, a2, rfl, a3, od_addQ (r := 0) L hr hG ⟨by show 0 < 2 ^ 3000; exact Nat.pow_pos (by decide), by show 1 < 2 ^ 3000; exact Nat.one_lt_two_pow (by decide), by show (0 : Int) < 1; decide⟩ a4 ?_⟩⟩)))
      refine ed_bin (ed_make V.mk1 r3 hG (ad_cons (ed_int (ad_nil (mk_ok (n := 1) (by decide) (by decide) (by decide) (by decide) ?_)))))
      rw [low_one]
      refine ed_ix (ed_ix (nm 0 (nm 4 ⟨l, j, e', sd, rfl, b1, nm 3 ⟨le', i, x', b2, rfl, b3, od_addQ (r := 0) L hr hG ⟨by show 0 < 2 ^ 3000; exact Nat.pow_pos (by decide), by show 1 < 2 ^ 3000; exact Nat.one_lt_two_pow (by decide), by show (0 : Int) < 1; decide⟩ b4 ?_⟩⟩)))
      refine od_eqQ L r1 hG ?_
      rw [Rat.zero_add, Rat.zero_add]
    · intro out ho
      rw [outs_B ho]
      refine ad_nil (cd_all rfl (kB ?_))
      rw [all_idN]
      cases c : (List.range i).all fun j => decide (at2 M i j = at2 M j i) with
      | true =>
        refine sds_nil (sds_nil ⟨_, rfl, fun a b ha hb => ?_⟩)
        by_cases z : a < i
        · exact hs a b z hb
        · have : a = i := by omega
          subst this
          exact of_decide_eq_true (List.all_eq_true.mp c b (List.mem_range.mpr hb))
      | false =>
        refine sds_cons (sd_ret (ed_bl ?_))
        have : ¬ Sym M := fun z => by
          rw [List.all_eq_false] at c
          obtain ⟨j, hj, n⟩ := c
          exact n (decide_eq_true (z i j hi' (List.mem_range.mp hj)))
        rw [decide_eq_false this] at sq'
        exact sq'
  · rintro S' ⟨o3, rfl, hs⟩
    refine sds_cons (sd_ret (ed_bl ?_))
    rw [Int.toNat_natCast] at hs
    have : Sym M := hs
    rw [decide_eq_true this] at sq'
    exact sq'
end
end K31

set_option Elab.async false
set_option linter.all false
set_option maxRecDepth 100000
set_option maxHeartbeats 8000000
/-! k31: a table with something otherwise -/
namespace K31
open PySem L2 DL
def ElOk (C : Addr) (x : D) : Prop := Kn C x ∧ (isN x = true → ∃ r, Nq C 3000 x r) ∧ (isN x = false → Odd x)
def LsOk (C : Addr) (le : List D) : Prop := le.length ≤ 10 ∧ ∀ x ∈ le, ElOk C x
def RowsOk (C : Addr) (rows : List (List D)) : Prop := rows.length ≤ 10 ∧ ∀ le ∈ rows, LsOk C le
def RowOk (C : Addr) (e : D) : Prop := RowLike C e ∧ ∀ le, SeqD e le → ∀ x ∈ le, isN x = false → Odd x
theorem rowOk_lst {C : Addr} {le : List D} (h : LsOk C le) : RowOk C (.lst le) :=
  ⟨.inr ⟨le, .inl rfl, Nat.le_trans h.1 (by decide), fun x hx => ⟨(h.2 x hx).1, (h.2 x hx).2.1⟩⟩, fun le' s x hx => by
    rw [seq_uniq s (.inl rfl)] at hx
    exact (h.2 x hx).2.2⟩
theorem rowOk_non {C : Addr} {d : D} (h : isL d = false) (k : Kn C d) : RowOk C d :=
  ⟨.inl ⟨h, k⟩, fun le s => by rw [(seq_kn (C := C) s).2] at h; cases h⟩
theorem elOk_fr {C : Addr} {r : Rat} (h : Bq 3000 r) : ElOk C (Ra C (fr r)) := ⟨.rat _, fun _ => ⟨r, .rat r h⟩, fun h => by cases h⟩
theorem elOk_int {C : Addr} {i : Int} (h : Bq 3000 (i : Rat)) : ElOk C (.int i) := ⟨.int _, fun _ => ⟨_, .int i h⟩, fun h => by cases h⟩
theorem LsOk.set {C : Addr} {le : List D} {j : Nat} {x : D} (h : LsOk C le) (k : ElOk C x) : LsOk C (le.set j x) :=
  ⟨by rw [List.length_set]; exact h.1, fun y hy => by
    rcases List.mem_or_eq_of_mem_set hy with z | z
    · exact h.2 y z
    · rw [z]; exact k⟩
theorem RowsOk.set {C : Addr} {rows : List (List D)} {i : Nat} {l : List D} (h : RowsOk C rows) (k : LsOk C l) : RowsOk C (rows.set i l) :=
  ⟨by rw [List.length_set]; exact h.1, fun y hy => by
    rcases List.mem_or_eq_of_mem_set hy with z | z
    · exact h.2 y z
    · rw [z]; exact k⟩
/-- rows as they are told -/
def LOk (C : Addr) (l : List D) : Prop := l.length ≤ 20 ∧ ∀ e ∈ l, RowOk C e
theorem RowsOk.fin {C : Addr} {rows : List (List D)} (h : RowsOk C rows) : (rows.map D.lst).length ≤ 10 ∧ ∀ e ∈ rows.map D.lst, RowOk C e :=
  ⟨by rw [List.length_map]; exact h.1, fun e he => by
    obtain ⟨le, hl, rfl⟩ := List.mem_map.mp he
    exact rowOk_lst (h.2 le hl)⟩
theorem RowsOk.ok {C : Addr} {rows : List (List D)} (h : RowsOk C rows) : LOk C (rows.map D.lst) := ⟨Nat.le_trans h.fin.1 (by decide), h.fin.2⟩
theorem lsOk_rats {C : Addr} {rs : List Rat} (h : rs.length ≤ 10) (k : ∀ r ∈ rs, Bq 3000 r) : LsOk C (rs.map fun r => Ra C (fr r)) :=
  ⟨by rw [List.length_map]; exact h, fun x hx => by
    obtain ⟨r, hr, rfl⟩ := List.mem_map.mp hx
    exact elOk_fr (k r hr)⟩
theorem ent_mem {b : Nat} {M : List (List Rat)} (hs : Square M) (he : Ent b M) : ∀ rs ∈ M, ∀ r ∈ rs, Bq b r := fun rs hrs r hr => by
  obtain ⟨i, hi, rfl⟩ := List.getElem_of_mem hrs
  obtain ⟨j, hj, rfl⟩ := List.getElem_of_mem hr
  have := he i j hi (by rw [← hs _ hrs]; exact hj)
  unfold at2 at this
  rw [List.getElem?_eq_getElem hi, Option.getD_some, List.getElem?_eq_getElem hj, Option.getD_some] at this
  exact this
theorem rowsOk_M {C : Addr} {b : Nat} {M : List (List Rat)} (hl : M.length ≤ 5) (hs : Square M) (he : Ent b M) (hb : b ≤ 3000) : RowsOk C (rowsD C M) :=
  ⟨by show (M.map _).length ≤ 10; rw [List.length_map]; omega, fun le hle => by
    obtain ⟨rs, hrs, rfl⟩ := List.mem_map.mp hle
    exact lsOk_rats (by rw [hs rs hrs]; omega) fun r hr => (ent_mem hs he rs hrs r hr).le hb⟩
theorem ent_put {b : Nat} {M : List (List Rat)} {i j : Nat} {x : Rat} (hs : Square M) (he : Ent b M) (hi : i < M.length) (hj : j < M.length) (hx : Bq b x) : Ent b (putM M i j x) := fun a c ha hc => by
  rw [putM_len] at ha hc
  rw [putM_at hs hi hj]
  split
  · exact hx
  · exact he a c ha hc
theorem rowsD_el {C : Addr} {M : List (List Rat)} {i j : Nat} (hs : Square M) (hi : i < M.length) (hj : j < M.length) : ((M[i]?.getD []).map fun r => Ra C (fr r))[j]? = some (Ra C (fr (at2 M i j))) := by
  have lj : j < M[i].length := by rw [hs _ (List.getElem_mem hi)]; exact hj
  unfold at2
  rw [List.getElem?_map, List.getElem?_eq_getElem hi, Option.getD_some, List.getElem?_eq_getElem lj]
  rfl
theorem Ent.mono {b c : Nat} {M : List (List Rat)} (h : Ent b M) (k : b ≤ c) : Ent c M := fun i j a d => (h i j a d).le k
abbrev NB : List Str := ["_law_pot_here", "_law_rows", "_law_found", "_law_way", "_law_i", "_law_j", "_law_row"]
section
variable {P : Program} {w : World} {K : PySem.W.Frag} {mg : Str → Option Value} {base : Heap} {C : Addr}
abbrev spBent (C : Addr) : SpD := fun as Q => ∃ M, as = [.pot, .val (matD C M)] ∧ Good M.length 48 M ∧ 1 ≤ M.length ∧ M.length ≤ 5 ∧ ∀ l, LOk C l → Q (.lst l)
theorem sc_bent : FnScope NB ["_law_pot_here", "_law_rows"] (defScope (top 36)) := ⟨rfl, rfl, rfl, by decide +kernel, rfl, by decide +kernel, by decide +kernel⟩
theorem ok_bent {f : Addr} {fd : FuncData} (F : FunS K "_law_bent" "_law_bent" (top 36) f fd) (L : Lv P w K mg base C) (G : Df P w K mg base "_law_draw" 1 2 spDraw) (R : Df P w K mg base "_law_pick" 2 2 spPick) : GnOk P w K mg base 7 f fd ["_law_pot_here", "_law_rows"] (lift K (spBent C)) := by
  refine gn_dl F sc_bent (fun as Q h => by obtain ⟨_, rfl, _⟩ := h; rfl) (fun cdv A outer s H hr hG W as Q h => ?_)
  obtain ⟨M, rfl, gM, h1, h5, q⟩ := h
  have nd := sc_bent.nd
  have V := L.V
  have T := V.T
  have r1 := hr.mono (j := 1) (by decide)
  have r2 := hr.mono (j := 2) (by decide)
  have r3 := hr.mono (j := 3) (by decide)
  have ro : RowsOk C (rowsD C M) := rowsOk_M h5 gM.sq gM.en (by decide)
  refine sds_nestPar 2 3 rfl nd rfl rfl (by decide) rfl rfl (ne_lcL (own := [("_law_row", 6)]) (g := gName 6) rfl nd (blkOk_by (by show blkC NB (defScope (top 36)) _ _ = true; decide +kernel)) (fun _ _ _ _ _ => pg_name (i := 6) nd rfl (Or.inl rfl)) (nlc_L (l := M.map (rowD C)) (fun i rows => rows = rowsD C (M.take i)) (fun d => itE [some .pot, some (.val (matD C M)), none, none, none, none, none] [("_law_row", 6)] 6 d) (nm 1 ⟨rfl, by rw [List.length_map]; omega, rfl⟩) (fun d _ => pat_name 6 (by simp)) ?_ ?_))
  · rintro i d rows hi hl rfl s2 H0 C2 cl fp
    rw [List.getElem?_map] at hi
    cases e : M[i]? with
    | none => rw [e] at hi; cases hi
    | some rs =>
      rw [e] at hi
      cases hi
      refine fd_list T.list (nm 6 ⟨_, .inl rfl, ?_⟩)
      unfold rowsD
      rw [List.take_add_one, e, List.map_append]
      rfl
  rintro rows hl rfl
  rw [List.length_map, List.take_length]
  refine ⟨rfl, ed_call G r1 hG (ad_pot 0 rfl rfl (ad_cons (ed_int (ad_nil ⟨8, rfl, by decide, by decide, fun way hway p qs => ?_⟩))))⟩
  show NFs _ _ _ p qs [some .pot, some (.val (matD C M)), some (.val (.cls p)), some (.val (.int (way : Int))), none, none, none] _ _ _
  refine nfs_cons (nsd_of fun B W0 => sd_par 4 5 rfl nd rfl rfl (by decide) rfl rfl (ad_cons (ed_call G r1 hG (ad_pot 0 rfl rfl (ad_cons (ed_callB T.len (ad_cons (nm 1 (ad_nil (cd_len (l := M.map (rowD C)) (.inl rfl) (ad_nil ⟨_, rfl, by rw [List.length_map]; omega, by rw [List.length_map]; omega, fun i hi => ad_cons (ed_call G r1 hG (ad_pot 0 rfl rfl (ad_cons (ed_callB T.len (ad_cons (nm 1 (ad_nil (cd_len (l := M.map (rowD C)) (.inl rfl) (ad_nil ⟨_, rfl, by rw [List.length_map]; omega, by rw [List.length_map]; omega, fun j hj => ad_nil ⟨_, _, rfl, rfl, ?_⟩⟩)))))))))⟩))))))))))) (fun _ h => h) (fun _ h => h)
  rw [List.length_map] at hi hj
  show NFs _ _ _ p qs [some .pot, some (.val (matD C M)), some (.val (.cls p)), some (.val (.int (way : Int))), some (.val (.int (i : Int))), some (.val (.int (j : Int))), none] _ _ _
  have hi' : i < M.length := by omega
  have hj' : j < M.length := by omega
  have get := rowsD_get (C := C) hi'
  have len := rowsD_len (C := C) gM.sq hi'
  have lo : LsOk C ((M[i]?.getD []).map fun r => Ra C (fr r)) := ro.2 _ (List.mem_of_getElem? get)
  refine nfs_then (nf_if (td_cmp (nm 3 (ed_int (od_eqi (kB ?_))))))
  by_cases w0 : (way : Int) = 0
  · rw [decide_eq_true w0]
    refine nfs_cons (nsd_asg (ned_bin (ned_at 2 4 5 rfl rfl rfl rfl rfl rfl get (rowsD_el gM.sq hi' hj') (ned_of (ed_int (od_addQ L hr hG ((gM.en i j hi' hj').le (by decide)) (.int 1 (Bq.int (by decide) (by decide))) ?_)))))) (fun _ h => h) (fun _ h => h)
    refine ngd_at (d0 := .non) 2 4 5 rfl rfl rfl rfl rfl rfl get (by rw [len]; exact hj') ?_
    rw [putM_rows hi']
    refine nfs_own 2 rfl (sds_nil ?_)
    have bx : Bq 3000 (at2 M i j + ((1 : Int) : Rat)) := ((gM.en i j hi' hj').add (n := 1) (Bq.int (i := 1) (by decide) (by decide))).le (by decide)
    exact sds_frz 2 _ rfl (sds_cons (sd_ret (nm 2 (q _ (RowsOk.ok (rowsOk_M (b := 3000) (by rw [putM_len]; exact h5) (putM_sq gM.sq) (ent_put gM.sq (gM.en.mono (by decide)) hi' hj' bx) (by decide)))))))
  rw [decide_eq_false w0]
  refine nfs_then (nf_if (td_cmp (nm 3 (ed_int (od_eqi (kB ?_))))))
  by_cases w1 : (way : Int) = 1
  · rw [decide_eq_true w1]
    refine nfs_own 2 rfl (sds_cons (sd_popAt 2 _ rfl rfl (nm 4 ⟨i, rfl, by rw [List.length_map, List.length_map]; exact hi', by rw [List.length_map, List.length_map]; omega, sds_nil (sds_nil ?_)⟩)))
    refine sds_frz 2 _ rfl (sds_cons (sd_ret (nm 2 (q _ ⟨?_, fun e he => ro.fin.2 e (List.mem_of_mem_eraseIdx he)⟩))))
    exact Nat.le_trans (List.length_eraseIdx_le _ _) (Nat.le_trans ro.fin.1 (by decide))
  rw [decide_eq_false w1]
  refine nfs_then (nf_if (td_cmp (nm 3 (ed_int (od_eqi (kB ?_))))))
  by_cases w2 : (way : Int) = 2
  · rw [decide_eq_true w2]
    refine nfs_cons (nsd_append 2 4 rfl rfl rfl rfl get (by rw [len]; omega) (ed_make V.mk1 r3 hG (ad_cons (ed_int (ad_nil (mk_ok (n := 1) (by decide) (by decide) (by decide) (by decide) ?_))))))  (fun _ h => h) (fun _ h => h)
    rw [low_one]
    refine nfs_own 2 rfl (sds_nil (sds_nil (sds_nil ?_)))
    refine sds_frz 2 _ rfl (sds_cons (sd_ret (nm 2 (q _ (RowsOk.ok (ro.set ⟨?_, fun x hx => ?_⟩))))))
    · rw [List.length_append, len, List.length_singleton]; omega
    · rcases List.mem_append.mp hx with z | z
      · exact lo.2 x z
      · rw [List.mem_singleton.mp z]
        exact elOk_fr (r := 0) ⟨by show 0 < 2 ^ 3000; exact Nat.pow_pos (by decide), by show 1 < 2 ^ 3000; exact Nat.one_lt_two_pow (by decide), by show (0 : Int) < 1; decide⟩
  rw [decide_eq_false w2]
  refine nfs_then (nf_if (td_cmp (nm 3 (ed_int (od_eqi (kB ?_))))))
  by_cases w3 : (way : Int) = 3
  · rw [decide_eq_true w3]
    refine nfs_own 2 rfl (sds_cons (sd_append 2 _ rfl rfl (Nat.lt_of_le_of_lt ro.fin.1 (by decide)) (ed_bin (ed_lst (ad_cons (ed_make V.mk1 r3 hG (ad_cons (ed_int (ad_nil (mk_ok (n := 1) (by decide) (by decide) (by decide) (by decide) ?_))))))))))
    rw [low_one]
    refine ad_nil ⟨[Ra C (fr 0)], rfl, by simp, ed_callB T.len (ad_cons (nm 1 (ad_nil (cd_len (l := M.map (rowD C)) (.inl rfl) (od_repL (by omega) (by rw [List.length_map, Int.toNat_natCast, List.length_singleton]; omega) (by rw [List.length_map]; omega) ?_)))))⟩
    refine sds_nil (sds_nil (sds_nil (sds_nil ?_)))
    refine sds_frz 2 _ rfl (sds_cons (sd_ret (nm 2 (q _ ⟨?_, fun e he => ?_⟩))))
    · rw [List.length_append, List.length_singleton]
      have := ro.fin.1
      omega
    · rcases List.mem_append.mp he with z | z
      · exact ro.fin.2 e z
      · rw [List.mem_singleton.mp z, Int.toNat_natCast, List.length_map]
        refine rowOk_lst ⟨by rw [List.length_flatten, List.map_replicate, List.sum_replicate_nat, List.length_singleton]; omega, fun x hx => ?_⟩
        obtain ⟨l1, hl1, hx1⟩ := List.mem_flatten.mp hx
        rw [(List.mem_replicate.mp hl1).2] at hx1
        rw [List.mem_singleton.mp hx1]
        exact elOk_fr (r := 0) ⟨by show 0 < 2 ^ 3000; exact Nat.pow_pos (by decide), by show 1 < 2 ^ 3000; exact Nat.one_lt_two_pow (by decide), by show (0 : Int) < 1; decide⟩
  rw [decide_eq_false w3]
  refine nfs_then (nf_if (td_cmp (nm 3 (ed_int (od_eqi (kB ?_))))))
  by_cases w4 : (way : Int) = 4
  · rw [decide_eq_true w4]
    refine nfs_cons (nsd_asg (ned_of (ed_call R r2 hG (ad_pot 0 rfl rfl (ad_cons (ed_lst (ad_cons (ed_non (ad_cons (ed_bl (ad_cons (ed_str (ad_cons (ed_lst (ad_cons (ed_int (ad_nil ⟨[.int 0], rfl, by simp, ad_cons (ed_bl (ad_nil ⟨[.non, .bl true, .str "0", .lst [.int 0], .bl false], rfl, by simp, ad_nil ⟨_, rfl, by simp, by simp, fun x hx => ?_⟩⟩))⟩))))))))))))))))) (fun _ h => h) (fun _ h => h)
    have ex : ElOk C x := by
      simp only [List.mem_cons, List.not_mem_nil, or_false] at hx
      rcases hx with rfl | rfl | rfl | rfl | rfl
      · exact ⟨.non, fun h => (by cases h), fun _ => ⟨_, .non, rfl, by decide⟩⟩
      · exact ⟨.bl _, fun h => (by cases h), fun _ => ⟨_, .bl _, rfl, by decide⟩⟩
      · exact ⟨.str _, fun h => (by cases h), fun _ => ⟨_, .str _, by decide +kernel, by decide⟩⟩
      · exact ⟨.lst _, fun h => (by cases h), fun _ => ⟨_, .lst (.cons (.int 0) .nil), rfl, by decide⟩⟩
      · exact ⟨.bl _, fun h => (by cases h), fun _ => ⟨_, .bl _, rfl, by decide⟩⟩
    refine ngd_at (d0 := .non) 2 4 5 rfl rfl rfl rfl rfl rfl get (by rw [len]; exact hj') ?_
    refine nfs_own 2 rfl (sds_nil (sds_nil (sds_nil (sds_nil (sds_nil (?_))))))
    exact sds_frz 2 _ rfl (sds_cons (sd_ret (nm 2 (q _ (RowsOk.ok (ro.set (lo.set ex)))))))
  rw [decide_eq_false w4]
  refine nfs_then (nf_if (td_cmp (nm 3 (ed_int (od_eqi (kB ?_))))))
  by_cases w5 : (way : Int) = 5
  · rw [decide_eq_true w5]
    refine nfs_own 2 rfl (sds_cons (sd_asg (ed_call R r2 hG (ad_pot 0 rfl rfl (ad_cons (ed_lst (ad_cons (ed_non (ad_cons (ed_bin (ed_str (ed_callB T.len (ad_cons (nm 1 (ad_nil (cd_len (l := M.map (rowD C)) (.inl rfl) (od_repS rfl (by rw [List.length_map]; omega) (by rw [List.length_map]; omega) fun t => ad_cons (ed_int (ad_cons (ed_dct1 (ad_nil ⟨[.non, .str t, .int 0, .dct], rfl, by simp, ad_nil ⟨_, rfl, by simp, by simp, fun x hx => gd_ownAt 2 4 _ rfl rfl rfl rfl (by rw [List.length_map, List.length_map]; exact hi') ?_⟩⟩)))))))))))))))))))))
    have ex : RowOk C x := by
      simp only [List.mem_cons, List.not_mem_nil, or_false] at hx
      rcases hx with rfl | rfl | rfl | rfl
      · exact rowOk_non rfl .non
      · exact rowOk_non rfl (.str _)
      · exact rowOk_non rfl (.int _)
      · exact rowOk_non rfl .dct
    refine sds_nil (sds_nil (sds_nil (sds_nil (sds_nil (sds_nil (?_))))))
    refine sds_frz 2 _ rfl (sds_cons (sd_ret (nm 2 (q _ ⟨?_, fun e he => ?_⟩))))
    · rw [List.length_set]
      have := ro.fin.1
      omega
    · rcases List.mem_or_eq_of_mem_set he with z | z
      · exact ro.fin.2 e z
      · rw [z]; exact ex
  rw [decide_eq_false w5]
  refine nfs_then (nf_if (td_cmp (nm 3 (ed_int (od_eqi (kB ?_))))))
  by_cases w6 : (way : Int) = 6
  · rw [decide_eq_true w6]
    refine nfs_cons (nsd_asg (ned_tup2 (ned_bin (ned_at 2 4 5 rfl rfl rfl rfl rfl rfl get (rowsD_el gM.sq hi' hj') (ned_of (ed_int (od_subQ L hr hG ((gM.en i j hi' hj').le (by decide)) (.int 2 (Bq.int (by decide) (by decide))) (ned_bin (ned_at 2 5 4 rfl rfl rfl rfl rfl rfl (rowsD_get hj') (rowsD_el gM.sq hj' hi') (ned_of (ed_int (od_subQ L hr hG ((gM.en j i hj' hi').le (by decide)) (.int 2 (Bq.int (by decide) (by decide))) ?_)))))))))))) (fun _ h => h) (fun _ h => h)
    have bx : Bq 3000 (at2 M i j - ((2 : Int) : Rat)) := ((gM.en i j hi' hj').sub (n := 2) (Bq.int (i := 2) (by decide) (by decide))).le (by decide)
    have by' : Bq 3000 (at2 M j i - ((2 : Int) : Rat)) := ((gM.en j i hj' hi').sub (n := 2) (Bq.int (i := 2) (by decide) (by decide))).le (by decide)
    refine ngd_tup2 rfl (ngd_at (d0 := .non) 2 4 5 rfl rfl rfl rfl rfl rfl get (by rw [len]; exact hj') ?_)
    rw [putM_rows hi']
    have s1 := putM_sq (i := i) (j := j) (x := at2 M i j - ((2 : Int) : Rat)) gM.sq
    have li' : j < (putM M i j (at2 M i j - ((2 : Int) : Rat))).length := by rw [putM_len]; exact hj'
    have lj' : i < (putM M i j (at2 M i j - ((2 : Int) : Rat))).length := by rw [putM_len]; exact hi'
    refine ngd_at (d0 := .non) 2 5 4 rfl rfl rfl rfl rfl rfl (rowsD_get li') (by rw [rowsD_len s1 li', putM_len]; exact hi') ?_
    rw [putM_rows li']
    refine nfs_own 2 rfl (sds_nil (sds_nil (sds_nil (sds_nil (sds_nil (sds_nil (sds_nil (?_))))))))
    exact sds_frz 2 _ rfl (sds_cons (sd_ret (nm 2 (q _ (RowsOk.ok (rowsOk_M (b := 3000) (by rw [putM_len, putM_len]; exact h5) (putM_sq s1) (ent_put s1 (ent_put gM.sq (gM.en.mono (by decide)) hi' hj' bx) li' lj' by') (by decide)))))))
  rw [decide_eq_false w6]
  refine nfs_own 2 rfl (sds_nil (sds_nil (sds_nil (sds_nil (sds_nil (sds_nil (sds_nil (?_))))))))
  exact sds_frz 2 _ rfl (sds_cons (sd_ret (nm 2 (q _ ro.ok))))
end
end K31

set_option Elab.async false
set_option linter.all false
set_option maxRecDepth 100000
set_option maxHeartbeats 8000000
/-! k31: texts -/
namespace DL
open PySem PySem.Spec PyProof.Rows L2
theorem textFrom_up {n : Nat} : ∀ (ts : List Str) (k : Nat) (acc : Str), (∀ t ∈ ts, t.length ≤ n) → (textFrom k acc ts).length ≤ acc.length + (n + 2) * ts.length
  | [], k, acc, _ => Nat.le_add_right _ _
  | t :: r, k, acc, h => by
    have ih := textFrom_up r (k + 1) (acc ++ (if k > 0 then ", " else "" : String) ++ t) fun x hx => h x (by simp [hx])
    have e : (acc ++ (if k > 0 then ", " else "" : String) ++ t).length = acc.length + (if k > 0 then 2 else 0) + t.length := by
      rw [Str.length_append, Str.length_append]
      split <;> rfl
    rw [e] at ih
    have ht := h t (by simp)
    have : (if k > 0 then 2 else 0) ≤ 2 := by split <;> omega
    rw [List.length_cons, Nat.mul_succ]
    exact Nat.le_trans ih (by omega)
theorem listText_up {n : Nat} {ts : List Str} (h : ∀ t ∈ ts, t.length ≤ n) : (listText ts).length ≤ (n + 2) * ts.length + 4 := by
  unfold listText
  rw [Str.length_append]
  have := textFrom_up ts 0 "[" h
  have e1 : (("[" : String) : Str).length = 1 := rfl
  have e2 : (("]" : String) : Str).length = 1 := rfl
  omega
theorem join_up {n : Nat} : ∀ {ts : List Str}, (∀ t ∈ ts, t.length ≤ n) → (Str.join ", " ts).length ≤ (n + 2) * ts.length
  | [], _ => Nat.zero_le _
  | [x], h => by
    show x.length ≤ _
    have := h x (by simp)
    simp only [List.length_singleton]
    omega
  | x :: y :: r, h => by
    have ih := join_up (ts := y :: r) fun t ht => h t (by simp at ht ⊢; exact .inr ht)
    show (x ++ ", " ++ Str.join ", " (y :: r)).length ≤ _
    have e2 : ((", " : String) : Str).length = 2 := rfl
    rw [Str.length_append, Str.length_append, e2, List.length_cons, Nat.mul_succ]
    have := h x (by simp)
    omega
theorem tupleText_up {n : Nat} {ts : List Str} (h : ∀ t ∈ ts, t.length ≤ n) : (tupleText ts).length ≤ (n + 2) * ts.length + 4 := by
  unfold tupleText
  rw [Str.length_append, Str.length_append]
  have := join_up h
  have e1 : (("(" : String) : Str).length = 1 := rfl
  have e2 : ((if ts.length == 1 then ",)" else ")" : String) : Str).length ≤ 2 := by split <;> decide +kernel
  omega
/-- data with a text -/
def Tx (X : Cx) (k n : Nat) (d : D) : Prop := Rp d ∧ ∃ t, Wr X k d t ∧ t.length ≤ n
theorem tx_all {X : Cx} {k n : Nat} : ∀ {l : List D}, (∀ x ∈ l, Tx X k n x) → Rps l ∧ ∃ ts : List Str, ts.length = l.length ∧ (∀ t ∈ ts, t.length ≤ n) ∧ ∀ (i : Nat) d, l[i]? = some d → ∃ t, ts[i]? = some t ∧ Wr X k d t
  | [], _ => ⟨.nil, [], rfl, by simp, by simp⟩
  | x :: l, h => by
    obtain ⟨r, t, w, b⟩ := h x (by simp)
    obtain ⟨rs, ts, e, bs, ws⟩ := tx_all (l := l) fun y hy => h y (by simp [hy])
    refine ⟨.cons r rs, t :: ts, by rw [List.length_cons, List.length_cons, e], fun y hy => ?_, fun i d hd => ?_⟩
    · rcases List.mem_cons.mp hy with z | z
      · rw [z]; exact b
      · exact bs y z
    · cases i with
      | zero => cases hd; exact ⟨t, rfl, w⟩
      | succ i => exact ws i d hd
theorem tx_seq {X : Cx} {k n : Nat} {d : D} {l : List D} (sd : SeqD d l) (hl : l.length ≤ 1000) (h : ∀ x ∈ l, Tx X k n x) : Tx X (k + 1) ((n + 2) * l.length + 4) d := by
  obtain ⟨rs, ts, e, bs, ws⟩ := tx_all h
  rcases sd with rfl | rfl
  · exact ⟨.lst rs, _, wr_list hl rs e ws, by rw [← e]; exact listText_up bs⟩
  · exact ⟨.tup rs, _, wr_tup rs e ws, by rw [← e]; exact tupleText_up bs⟩
theorem Tx.mono {X : Cx} {k n m : Nat} {d : D} (h : Tx X k n d) (e : n ≤ m) : Tx X k m d := let ⟨r, t, w, b⟩ := h; ⟨r, t, w, Nat.le_trans b e⟩
end DL
namespace K31
open PySem L2 DL
section
variable {X : Cx} {C : Addr}
theorem tx_num (L : Lv X.prog X.w X.K X.mg X.base C) {d : D} {r : Rat} (h : Nq C 1900 d r) : Tx X 1 4000 d := by
  cases h with
  | rat r h =>
    refine ⟨.obj (.cons (.int _) (.cons (.int _) .nil)), reprF (fr r), wr_obj L.repr (fun Q q => ⟨fr r, rfl, h, q⟩), ?_⟩
    unfold reprF
    have l3 : (("Ratio(" : Str)).length ≤ 6 := by decide +kernel
    have l4 : ((", " : Str)).length ≤ 2 := by decide +kernel
    have l5 : ((")" : Str)).length ≤ 1 := by decide +kernel
    exact Nat.le_trans (app_len (app_len (app_len (app_len l3 (tlen h.t)) l4) (tlen h.b)) l5) (by decide)
  | int i h => exact ⟨.int _, _, wr_int (tl h.t), Nat.le_trans (tlen h.t) (by decide)⟩
theorem tx_nums (L : Lv X.prog X.w X.K X.mg X.base C) {d : D} {l : List D} {rs : List Rat} (sd : SeqD d l) (h : Nqs C 1900 l rs) (hl : l.length ≤ 5) : Tx X 2 20020 d := by
  refine (tx_seq (k := 1) (n := 4000) sd (by omega) fun x hx => ?_).mono ?_
  · obtain ⟨i, hi, e⟩ := List.getElem_of_mem hx
    obtain ⟨r, _, q⟩ := h.get (List.getElem?_eq_getElem hi)
    rw [e] at q
    exact tx_num L q
  · have : (4000 + 2) * l.length ≤ (4000 + 2) * 5 := Nat.mul_le_mul_left _ hl
    omega
theorem tx_rows (L : Lv X.prog X.w X.K X.mg X.base C) {d : D} {l : List D} {M : List (List Rat)} (sd : SeqD d l) (h : RowsAre C 1900 l M) (hs : Square M) (hl : M.length ≤ 5) : Tx X 3 101000 d := by
  have ll := h.len
  refine (tx_seq (k := 2) (n := 20020) sd (by omega) fun x hx => ?_).mono ?_
  · obtain ⟨i, hi, e⟩ := List.getElem_of_mem hx
    obtain ⟨rs, le, em, se, nq, _⟩ := h.get (List.getElem?_eq_getElem hi)
    rw [e] at se
    exact tx_nums L se nq (by rw [nq.len, hs rs (List.mem_of_getElem? em)]; exact hl)
  · have : (20020 + 2) * l.length ≤ (20020 + 2) * 5 := Nat.mul_le_mul_left _ (by omega)
    omega
end
end K31

set_option Elab.async false
set_option linter.all false
set_option maxRecDepth 100000
set_option maxHeartbeats 4000000
/-! texts at several depths; is not True -/
namespace DL
open PySem PySem.Spec PyProof.Rows L2
theorem op_notB {X : Cx} : OpR X (compareOp .IsNot) (fun x y H Q => ∃ a b, x = .bl a ∧ y = .bl b ∧ Q (.bl (a != b)) H) := by
  intro pins s σ H x y v u Q I rx ry h
  obtain ⟨a, b, rfl, rfl, q⟩ := h
  cases rx
  cases ry
  exact isnot_bool ⟨.bl _, H, I, rfl, q⟩
theorem od_notB {X : Cx} {Q : D → Prop} {a b : Bool} (q : Q (.bl (a != b))) : OD X (compareOp .IsNot) (.bl a) (.bl b) Q := by
  refine od_of op_notB fun v u W H ok h1 h2 R c => ?_
  cases h1; cases h2
  exact ⟨a, b, rfl, rfl, c.now ok (.bl _) q⟩
theorem Wr.up {X : Cx} {j k : Nat} {d : D} {t : Str} (h : Wr X j d t) (e : j ≤ k) : Wr X k d t := fun A g W H pins σ s v u base Q E hA => h A g W H pins σ s v u base Q E (hA.mono e)
theorem Tx.up {X : Cx} {j k m n : Nat} {d : D} (h : Tx X j m d) (e : j ≤ k) (e2 : m ≤ n) : Tx X k n d := let ⟨r, t, w, b⟩ := h; ⟨r, t, w.up e, Nat.le_trans b e2⟩
theorem cd_reprT {X : Cx} {k n : Nat} {l : List D} (hr : Room (k + 2) X.A) (hG : X.A.guards = some (gOf X)) (hl : l.length ≤ 1000) (h : ∀ x ∈ l, Tx X k n x) (hn : n ≤ 10000) : ∃ t, ∀ Q : D → Prop, Q (.str t) → CD X (.builtin "repr") [.val (.lst l)] Q := by
  obtain ⟨rs, ts, e, bs, ws⟩ := tx_all h
  refine ⟨listText ts, fun Q q => cd_reprL hr hG hl rs e ws ?_ q⟩
  have := listText_up bs
  have : (n + 2) * ts.length ≤ 10002 * 1000 := Nat.mul_le_mul (by omega) (by omega)
  have : 10002 * 1000 + 4 ≤ sizeLine := by decide
  omega
theorem cd_reprT2 {X : Cx} {k n : Nat} {l : List D} (hr : Room (k + 2) X.A) (hG : X.A.guards = some (gOf X)) (hl : l.length ≤ 3) (h : ∀ x ∈ l, Tx X k n x) (hn : n ≤ 110000) : ∃ t, ∀ Q : D → Prop, Q (.str t) → CD X (.builtin "repr") [.val (.lst l)] Q := by
  obtain ⟨rs, ts, e, bs, ws⟩ := tx_all h
  refine ⟨listText ts, fun Q q => cd_reprL hr hG (by omega) rs e ws ?_ q⟩
  have := listText_up bs
  have : (n + 2) * ts.length ≤ 110002 * 3 := Nat.mul_le_mul (by omega) (by omega)
  have : 110002 * 3 + 4 ≤ sizeLine := by decide
  omega
theorem wr_bl {X : Cx} {k : Nat} (b : Bool) : Tx X k 10 (.bl b) := by
  refine ⟨.bl b, _, wr_is (t := if b = true then "True" else "False") (fun K I v u n r => ?_), by cases b <;> decide +kernel⟩
  cases n
  cases r
  exact ReprIs.bool b
end DL

set_option Elab.async false
set_option linter.all false
set_option maxRecDepth 100000
set_option maxHeartbeats 4000000
/-! k31: values at lists: sums over places -/
namespace K31
open PySem L2 DL
def sumN : Nat → (Nat → Rat) → Rat
  | 0, _ => 0
  | n + 1, f => sumN n f + f n
theorem sumN_congr {f g : Nat → Rat} : ∀ {n : Nat}, (∀ i, i < n → f i = g i) → sumN n f = sumN n g
  | 0, _ => rfl
  | n + 1, h => by
    show sumN n f + f n = sumN n g + g n
    rw [sumN_congr (n := n) fun i hi => h i (by omega), h n (by omega)]
theorem sumN_add {f g : Nat → Rat} : ∀ n, sumN n (fun i => f i + g i) = sumN n f + sumN n g
  | 0 => by show (0 : Rat) = 0 + 0; grind
  | n + 1 => by
    show sumN n _ + _ = (sumN n f + f n) + (sumN n g + g n)
    rw [sumN_add n]
    grind
theorem sumN_mul {c : Rat} {f : Nat → Rat} : ∀ n, c * sumN n f = sumN n fun i => c * f i
  | 0 => Rat.mul_zero c
  | n + 1 => by
    show c * (sumN n f + f n) = sumN n _ + c * f n
    rw [← sumN_mul n]
    grind
theorem sumN_zero : ∀ n, sumN n (fun _ => 0) = 0
  | 0 => rfl
  | n + 1 => by show sumN n _ + 0 = 0; rw [sumN_zero n]; exact Rat.add_zero 0
theorem sumN_swap {a : Nat → Nat → Rat} (m : Nat) : ∀ n, sumN n (fun i => sumN m fun j => a i j) = sumN m fun j => sumN n fun i => a i j
  | 0 => (sumN_zero m).symm
  | n + 1 => by
    show sumN n _ + sumN m _ = sumN m fun j => sumN n (fun i => a i j) + a n j
    rw [sumN_swap m n, sumN_add]
def nth (rs : List Rat) (i : Nat) : Rat := (rs[i]?).getD 0
theorem dot_sum {rs ss : List Rat} (e : rs.length = ss.length) : dotQ rs ss = sumN rs.length fun i => nth rs i * nth ss i := by
  have key : ∀ i, i ≤ rs.length → sumQ ((List.zipWith (· * ·) rs ss).take i) = sumN i fun i => nth rs i * nth ss i := by
    intro i
    induction i with
    | zero => intro _; rfl
    | succ i ih =>
      intro hi
      have a : rs[i]? = some rs[i] := List.getElem?_eq_getElem (by omega)
      have b : ss[i]? = some ss[i] := List.getElem?_eq_getElem (by omega)
      rw [sum_step a b, ih (by omega)]
      show _ = sumN i _ + nth rs i * nth ss i
      unfold nth
      rw [a, b]
      rfl
  rw [← key _ (Nat.le_refl _), sum_all (Nat.le_refl _)]
theorem val_sum {M : List (List Rat)} {fs gs : List Rat} (hs : Square M) (hf : fs.length = M.length) (hg : gs.length = M.length) : valM M fs gs = sumN M.length fun i => nth fs i * sumN M.length fun j => at2 M i j * nth gs j := by
  unfold valM
  rw [dot_sum (by rw [List.length_map, hf]), hf]
  refine sumN_congr fun i hi => ?_
  have e : nth (M.map fun row => dotQ row gs) i = dotQ M[i] gs := by
    unfold nth
    rw [List.getElem?_map, List.getElem?_eq_getElem hi]
    rfl
  have l : M[i].length = M.length := hs _ (List.getElem_mem hi)
  rw [e, dot_sum (by rw [l, hg]), l]
  congr 1
  refine sumN_congr fun j hj => ?_
  congr 1
  unfold at2 nth
  rw [List.getElem?_eq_getElem hi]
  rfl
theorem val_sym {M : List (List Rat)} {fs gs : List Rat} (hs : Square M) (sy : Sym M) (hf : fs.length = M.length) (hg : gs.length = M.length) : valM M gs fs = valM M fs gs := by
  rw [val_sum hs hg hf, val_sum hs hf hg]
  have e1 : (fun i => nth gs i * sumN M.length fun j => at2 M i j * nth fs j) = fun i => sumN M.length fun j => nth gs i * (at2 M i j * nth fs j) := funext fun i => sumN_mul _
  have e2 : (fun i => nth fs i * sumN M.length fun j => at2 M i j * nth gs j) = fun i => sumN M.length fun j => nth fs i * (at2 M i j * nth gs j) := funext fun i => sumN_mul _
  rw [e1, e2, sumN_swap]
  refine sumN_congr fun i hi => sumN_congr fun j hj => ?_
  have : at2 M j i = at2 M i j := by
    rcases Nat.lt_trichotomy i j with z | z | z
    · exact sy j i hj z
    · rw [z]
    · exact (sy i j hi z).symm
  rw [this]
  grind
theorem val_lin {M : List (List Rat)} {fs hs' bs gs : List Rat} (hs : Square M) (hf : fs.length = M.length) (hh : hs'.length = M.length) (hb : bs.length = M.length) (hg : gs.length = M.length) (e : ∀ i, i < M.length → nth bs i = nth fs i * 2 - nth hs' i) : valM M bs gs = valM M fs gs * 2 - valM M hs' gs := by
  rw [val_sum hs hb hg, val_sum hs hf hg, val_sum hs hh hg]
  have key : ∀ (s : Nat → Rat) n, n ≤ M.length → sumN n (fun i => nth bs i * s i) = sumN n (fun i => nth fs i * s i) * 2 - sumN n (fun i => nth hs' i * s i) := by
    intro s n
    induction n with
    | zero => intro _; show (0 : Rat) = 0 * 2 - 0; grind
    | succ n ih =>
      intro hn
      show sumN n _ + nth bs n * s n = (sumN n _ + nth fs n * s n) * 2 - (sumN n _ + nth hs' n * s n)
      rw [ih (by omega), e n (by omega)]
      grind
  exact key _ _ (Nat.le_refl _)
theorem val_zero {M : List (List Rat)} {zs gs : List Rat} (hs : Square M) (hz : zs.length = M.length) (hg : gs.length = M.length) (z : ∀ r ∈ zs, r = 0) : valM M zs gs = 0 := by
  rw [val_sum hs hz hg, ← sumN_zero M.length]
  refine sumN_congr fun i hi => ?_
  have : nth zs i = 0 := by
    unfold nth
    rw [List.getElem?_eq_getElem (by omega)]
    exact z _ (List.getElem_mem _)
  rw [this, Rat.zero_mul]
end K31

set_option Elab.async false
set_option linter.all false
set_option maxRecDepth 100000
set_option maxHeartbeats 8000000
/-! k31: a table is right -/
namespace K31
open PySem L2 DL
section
variable {P : Program} {w : World} {K : PySem.W.Frag} {mg : Str → Option Value} {base : Heap} {C : Addr}
/-- the law's own defs and the program's -/
structure Lw (P : Program) (w : World) (K : PySem.W.Frag) (mg : Str → Option Value) (base : Heap) (C : Addr) : Prop where
  L : Lv P w K mg base C
  draw : Df P w K mg base "_law_draw" 1 2 spDraw
  table : Df P w K mg base "_law_table" 8 2 (spTab C)
  given : Df P w K mg base "_law_given" 4 2 (spGiven C)
  handed : Df P w K mg base "_law_handed" 3 2 (spHanded C)
  list : Df P w K mg base "_law_list" 5 2 (spList C)
  sum : Df P w K mg base "_law_sum" 7 3 (spSum C)
  bent : Df P w K mg base "_law_bent" 7 2 (spBent C)
  looks : Df P w K mg base "_law_looks" 7 1 (spLooks C)
  isT : Df P w K mg base "is_table" 7 1 (spTable C)
  isTK : DfK P w K mg base "is_table" 7 ["value"] id (spTable C)
  val : Df P w K mg base "value_at" 9 3 (spVal C)
  valK : DfK P w K mg base "value_at" 9 ["second", "first", "table"] List.reverse (spVal C)
abbrev NR : List Str := ["_law_pot_here", "_law_size", "_law_rows", "_law_given_here", "_law_first", "_law_second", "_law_third", "_law_left", "_law_right_here", "_law_stay", "_law_due", "_law_both", "_law_one", "_law_other", "_law_turn", "_law_value"]
theorem val_bd {M : List (List Rat)} {fs gs : List Rat} {C : Addr} (gM : Good M.length 48 M) (h5 : M.length ≤ 5) (hf : fs.length = M.length) (hg : gs.length = M.length) {m : Nat} (bf : ∀ r ∈ fs, Bq m r) (bg : ∀ r ∈ gs, Bq 20 r) (hm : m ≤ 43) : Bq (1 + (m + 347) * 5) (valM M fs gs) := by
  have bv : ∀ r ∈ M.map fun row => dotQ row gs, Bq 346 r := fun r hr => by
    obtain ⟨row, hrow, rfl⟩ := List.mem_map.mp hr
    have lr := gM.sq row hrow
    have b := dotQ_bd (C := C) (Nqs.rats (n := 48) fun r hr => ent_mem gM.sq gM.en row hrow r hr) (Nqs.rats bg) (by rw [lr, hg])
    rw [lr] at b
    exact b.le (by have : (48 + 20 + 1) * M.length ≤ (48 + 20 + 1) * 5 := Nat.mul_le_mul_left _ h5; omega)
  have b := dotQ_bd (C := C) (Nqs.rats bf) (Nqs.rats bv) (by rw [List.length_map, hf])
  rw [hf] at b
  exact b.le (by have : (m + 346 + 1) * M.length ≤ (m + 346 + 1) * 5 := Nat.mul_le_mul_left _ h5; omega)
theorem rows_plain {C : Addr} {b : Nat} {M : List (List Rat)} (hs : Square M) (he : Ent b M) (h5 : M.length ≤ 5) : RowsAre C b (M.map (rowD C)) M := by
  have key : ∀ N : List (List Rat), (∀ rs ∈ N, rs.length ≤ 1000 ∧ ∀ r ∈ rs, Bq b r) → RowsAre C b (N.map (rowD C)) N := by
    intro N
    induction N with
    | nil => intro _; exact .nil
    | cons rs N ih =>
      intro h
      exact .cons ⟨_, .inl rfl, Nqs.rats (h rs (by simp)).2, by rw [List.length_map]; exact (h rs (by simp)).1⟩ (ih fun x hx => h x (by simp [hx]))
  exact key M fun rs hrs => ⟨by rw [hs rs hrs]; omega, ent_mem hs he rs hrs⟩
theorem Ra_inj {C : Addr} {p q : Fr} (h : Ra C p = Ra C q) : p = q := by
  have e1 : p.1 = q.1 := by injection h with _ e; injection e with e _; injection e with _ e; injection e
  have e2 : p.2 = q.2 := by injection h with _ e; injection e with _ e; injection e with e _; injection e with _ e; injection e
  exact Prod.ext e1 e2
theorem ne_strQ {X : Cx} {Q : D → Prop} {s : Str} (q : Q (.bl false)) : OD X (compareOp .NotEq) (.str s) (.str s) Q := od_nes (by rw [decide_eq_true rfl]; exact q)
section
variable {X : Cx} {Q : D → Prop} {y : D} {r s : Rat}
theorem od_mulR (L : Lv X.prog X.w X.K X.mg X.base C) (hr : Room 6 X.A) (hG : X.A.guards = some (gOf X)) (hx : Bq 3000 r) (hy : Nq C 3000 y s) (k : Q (Ra C (fr (r * s)))) : OD X (binaryOp .Mult) (Ra C (fr r)) y Q := by
  have r5 := hr.mono (j := 5) (by decide)
  rw [← mulF_fr] at k
  cases hy with
  | rat s h => exact od_oo (op := .Mult) L.V.T.nu L.mul r5 hG ⟨_, _, _, rfl, hx, .rat _ h, k⟩
  | int i h => exact od_oi (op := .Mult) L.V.T.nu L.mul L.rmul r5 hG ⟨_, _, _, rfl, hx, .int i h.t h.b, k⟩ PySem.F.fills_int_mul L.lm
end
theorem rep1 {x : D} (k : Nat) : (List.replicate k [x]).flatten = List.replicate k x := by simp
theorem nqs_zero {n : Nat} : ∀ k, Nqs C (n + 1) (List.replicate k (.int 0)) (List.replicate k ((0 : Int) : Rat))
  | 0 => .nil
  | k + 1 => .cons (.int 0 (Bq.int (Nat.pow_pos (by decide)) (by omega))) (nqs_zero k)
theorem sc_right : FnScope NR ["_law_pot_here"] (defScope (top 39)) := ⟨rfl, rfl, rfl, by decide +kernel, rfl, by decide +kernel, by decide +kernel⟩
theorem ok_right {f : Addr} {fd : FuncData} (F : FunS K "_law_right" "_law_right" (top 39) f fd) (Y : Lw P w K mg base C) : GnOk P w K mg base 10 f fd ["_law_pot_here"] (lift K fun as Q => as = [.pot] ∧ Q (.bl true)) := by
  refine gn_dl F sc_right (fun as Q h => by obtain ⟨rfl, _⟩ := h; rfl) (fun cdv A outer s H hr hG W as Q h => ?_)
  obtain ⟨rfl, q⟩ := h
  have nd := sc_right.nd
  have L := Y.L
  have V := L.V
  have T := V.T
  have r1 := hr.mono (j := 1) (by decide)
  have r2 := hr.mono (j := 2) (by decide)
  have r3 := hr.mono (j := 3) (by decide)
  have r4 := hr.mono (j := 4) (by decide)
  have r5 := hr.mono (j := 5) (by decide)
  have r6 := hr.mono (j := 6) (by decide)
  have r7 := hr.mono (j := 7) (by decide)
  have r8 := hr.mono (j := 8) (by decide)
  refine sds_cons (sd_set 1 nd rfl (ed_bin (ed_int (ed_call Y.draw r1 hG (ad_pot 0 rfl rfl (ad_cons (ed_int (ad_nil ⟨5, rfl, by decide, by decide, fun d0 hd0 => od_add ?_⟩))))))))
  obtain ⟨n, en, h1, h5⟩ : ∃ n : Nat, (1 : Int) + (d0 : Int) = (n : Int) ∧ 1 ≤ n ∧ n ≤ 5 := ⟨d0 + 1, by omega, by omega, by omega⟩
  rw [en]
  refine sds_cons (sd_set 2 nd rfl (ed_call Y.table r8 hG (ad_pot 0 rfl rfl (ad_cons (nm 1 (ad_nil ⟨n, rfl, h1, h5, fun M gM => ?_⟩))))))
  obtain rfl := gM.len
  have rp := rows_plain (C := C) gM.sq gM.en h5
  refine sds_cons (sd_asg (ed_tup (ad_cons (ed_call Y.given r4 hG (ad_pot 0 rfl rfl (ad_cons (nm 2 (ad_nil ⟨M, 48, rfl, fun rs hrs => ⟨by rw [gM.sq rs hrs]; omega, ent_mem gM.sq gM.en rs hrs⟩, by omega, fun dg lg sg hg => ad_cons (ed_call Y.list r5 hG (ad_pot 0 rfl rfl (ad_cons (nm 1 (ad_nil ⟨M.length, rfl, h1, h5, fun fs lf bf => ad_cons (ed_call Y.list r5 hG (ad_pot 0 rfl rfl (ad_cons (nm 1 (ad_nil ⟨M.length, rfl, h1, h5, fun gs lgs bg => ad_cons (ed_call Y.list r5 hG (ad_pot 0 rfl rfl (ad_cons (nm 1 (ad_nil ⟨M.length, rfl, h1, h5, fun hs lh bh => ad_nil ⟨[dg, rowD C fs, rowD C gs, rowD C hs], rfl, by simp, gd_tup rfl ?_ rfl⟩⟩)))))⟩)))))⟩)))))⟩))))))))
  refine gds_cons (gd_name 3 nd rfl (gds_cons (gd_name 4 nd rfl (gds_cons (gd_name 5 nd rfl (gds_cons (gd_name 6 nd rfl (gds_nil ?_))))))))
  have lM := hg.len
  refine sds_cons (sd_par 7 8 rfl nd rfl rfl (by decide) rfl rfl (ad_cons (ed_call Y.handed r3 hG (ad_pot 0 rfl rfl (ad_cons (nm 4 (ad_nil ⟨fs, 20, rfl, bf, by omega, fun da la sa ha => ad_cons (ed_call Y.handed r3 hG (ad_pot 0 rfl rfl (ad_cons (nm 5 (ad_nil ⟨gs, 20, rfl, bg, by omega, fun db lb sb hb => ad_nil ⟨_, _, rfl, ?_⟩⟩)))))⟩)))))))
  have lla : la.length = M.length := by rw [ha.len, lf]
  have llb : lb.length = M.length := by rw [hb.len, lgs]
  have tt : ∀ x ∈ [dg, da, db], Tx (Bx P w K mg base NR "_law_right" (top 39) f cdv A outer s H) 3 110000 x := by
    intro x hx
    simp only [List.mem_cons, List.not_mem_nil, or_false] at hx
    rcases hx with rfl | rfl | rfl
    · exact (tx_rows L sg (hg.mono (by decide)) gM.sq h5).mono (by decide)
    · exact (tx_nums L sa (ha.mono (by decide)) (by omega)).up (by decide) (by decide)
    · exact (tx_nums L sb (hb.mono (by decide)) (by omega)).up (by decide) (by decide)
  obtain ⟨t0, T0⟩ := cd_reprT2 r5 hG (by simp) tt (by decide)
  have bv := val_bd (C := C) gM h5 lf lgs bf bg (by decide)
  refine sds_cons (sd_par 9 10 rfl nd rfl rfl (by decide) rfl rfl (ad_cons (ed_callB T.repr (ad_cons (ed_lst (ad_cons (nm 3 (ad_cons (nm 7 (ad_cons (nm 8 (ad_nil ⟨[dg, da, db], rfl, by simp, ad_nil (T0 _ (ad_cons (ed_call Y.sum r7 hG (ad_cons (nm 2 (ad_cons (nm 4 (ad_cons (nm 5 (ad_nil ⟨M, fs, gs, rfl, gM, h5, lf, lgs, bf, bg, ad_nil ⟨_, _, rfl, ?_⟩⟩))))))))))⟩))))))))))))
  refine sds_cons (sd_if (td_of (tw_or (td_cmp (ed_call Y.isT r7 hG (ad_cons (nm 3 (ad_nil ⟨dg, lg, rfl, sg, by omega, rows_like hg (by decide), ed_bl (od_notB (kB ?_))⟩))))))))
  rw [tab_true hg gM.sq gM.sy h1]
  show TW _ _ _ _ _
  refine tw_or1 (td_cmp (ed_callB T.repr (ad_cons (ed_call Y.val hr hG (ad_cons (nm 3 (ad_cons (nm 7 (ad_cons (nm 8 (ad_nil ⟨dg, lg, M, da, la, fs, db, lb, gs, rfl, sg, hg, gM.sq, gM.sy, h1, h5, sa, ha.mono (by decide), sb, hb, lla, llb, ad_nil (cd_reprO L.repr r2 hG ⟨fr _, rfl, bv.le (by decide), _, rfl, ed_callB T.repr (ad_cons (nm 10 (ad_nil (cd_reprO L.repr r2 hG ⟨fr _, rfl, bv.le (by decide), _, rfl, ne_strQ (kB ?_)⟩))))⟩)⟩)))))))))))
  refine sds_nil ?_
  have t1 : ∀ x ∈ [Ra C (fr (valM M fs gs)), Ra C (fr (valM M fs gs))], Tx (Bx P w K mg base NR "_law_right" (top 39) f cdv A outer s H) 3 110000 x := by
    intro x hx
    simp only [List.mem_cons, List.not_mem_nil, or_false, or_self] at hx
    rw [hx]
    exact (tx_num L (.rat _ (bv.le (by decide)))).up (by decide) (by decide)
  obtain ⟨t1', T1⟩ := cd_reprT2 r5 hG (by simp) t1 (by decide)
  refine sds_cons (sd_if (td_cmp (ed_callB T.repr (ad_cons (ed_lst (ad_cons (ed_callK0 Y.valK hr hG (kd_cons (nm 7 (kd_cons (nm 8 (kd_cons (nm 3 (kd_nil ⟨rfl, dg, lg, M, db, lb, gs, da, la, fs, rfl, sg, hg, gM.sq, gM.sy, h1, h5, sb, hb.mono (by decide), sa, ha, llb, lla, ?_⟩))))))))))))))
  rw [val_sym gM.sq gM.sy lf lgs]
  refine ad_cons (ed_call Y.val hr hG (ad_cons (nm 2 (ad_cons (ed_callTy T.tuple (ad_cons (nm 4 (ad_nil (cd_tuple (ad_cons (nm 5 (ad_nil ⟨_, _, M, _, _, fs, _, _, gs, rfl, .inl rfl, rp, gM.sq, gM.sy, h1, h5, .inr rfl, (Nqs.rats bf).mono (by decide), .inl rfl, Nqs.rats bg, by rw [List.length_map, lf], by rw [List.length_map, lgs], ad_nil ⟨[Ra C (fr (valM M fs gs)), Ra C (fr (valM M fs gs))], rfl, by simp, ad_nil (T1 _ (ed_callB T.repr (ad_cons (ed_bin (ed_lst (ad_cons (nm 10 (ad_nil ⟨[Ra C (fr (valM M fs gs))], rfl, by simp, ed_int (od_repL (by decide) (by simp) (by decide) (ad_nil (T1 _ (ne_strQ (kB ?_)))))⟩))))))))⟩⟩))))))))))))
  refine sds_nil ?_
  have e2 : (((2 : Int) : Rat)) = 2 := rfl
  refine sds_cons (sd_mid (fun S' => ∃ bs : List Rat, S' = [some .pot, some (.val (.int (M.length : Int))), some (.val (matD C M)), some (.val dg), some (.val (rowD C fs)), some (.val (rowD C gs)), some (.val (rowD C hs)), some (.val da), some (.val db), some (.val (.str t0)), some (.val (Ra C (fr (valM M fs gs)))), some (.own (bs.map fun r => Ra C (fr r))), none, none, none, none] ∧ bs.length = M.length ∧ (∀ r ∈ bs, Bq 43 r) ∧ ∀ i, i < M.length → nth bs i = nth fs i * 2 - nth hs i) ?_ (sd_ownLc (i := 11) (g := gTup K 2 (gCons (gName 12) (gCons (gName 13) gNil))) (own := [("_law_one", 12), ("_law_other", 13)]) rfl nd rfl rfl (pi_zm rfl T.zip wa_pa rfl rfl) (blkOk_by (by show blkC NR (defScope (top 39)) _ _ = true; decide +kernel)) (fun _ _ _ _ _ => pg_tup rfl (pgs_cons (pg_name (i := 12) nd rfl (Or.inl rfl)) (pgs_cons (pg_name (i := 13) nd rfl (Or.inl rfl)) pgs_nil rfl) rfl)) (lc_relZ (l := fs.map fun r => Ra C (fr r)) (l' := hs.map fun r => Ra C (fr r)) (fun a b y => ∀ r t, a = Ra C (fr r) → b = Ra C (fr t) → y = Ra C (fr (r * 2 - t))) 12 13 (by rw [List.length_map, List.length_map, lf, lh]) (by rw [List.length_map]; omega) (.inl rfl) (.inl rfl) (ad_cons (nm 4 (ad_cons (nm 6 (ad_nil rfl))))) (by simp) (by simp) ?_ ?_)))
  rotate_left
  · intro i a b ha' hb' s2 H0 C2 cl fp
    rw [List.getElem?_map] at ha' hb'
    cases e : fs[i]? with
    | none => rw [e] at ha'; cases ha'
    | some r =>
      cases e' : hs[i]? with
      | none => rw [e'] at hb'; cases hb'
      | some t =>
        rw [e] at ha'
        rw [e'] at hb'
        cases ha'
        cases hb'
        refine ed_bin (ed_bin (nm 12 (ed_int (od_mulR L r6 hG ((bf r (List.mem_of_getElem? e)).le (by decide)) (.int 2 (Bq.int (by show (2 : Int).natAbs < 2 ^ 3000; exact Nat.lt_of_lt_of_le (by decide : 2 < 2 ^ 2) (Nat.pow_le_pow_right (by decide) (by decide))) (by decide))) (nm 13 (od_subQ L r6 hG (((bf r (List.mem_of_getElem? e)).mul (n := 2) (Bq.int (by decide) (by decide))).le (by decide)) (.rat t ((bh t (List.mem_of_getElem? e')).le (by decide))) ?_))))))
        intro r' t' h1' h2'
        have z1 : r = r' := fr_inj' (Ra_inj h1')
        have z2 : t = t' := fr_inj' (Ra_inj h2')
        rw [← z1, ← z2]
        rfl
  · intro out lo ho
    have eo : out = (List.zipWith (fun r t => r * 2 - t) fs hs).map fun r => Ra C (fr r) := by
      refine List.ext_getElem? fun i => ?_
      rw [List.length_map, lf] at lo
      by_cases c : i < M.length
      · have a1 : fs[i]? = some fs[i] := List.getElem?_eq_getElem (by omega)
        have a2 : hs[i]? = some hs[i] := List.getElem?_eq_getElem (by omega)
        have a3 : out[i]? = some out[i] := List.getElem?_eq_getElem (by omega)
        rw [List.getElem?_map, List.getElem?_zipWith, a1, a2, a3]
        have := ho i _ _ _ (by rw [List.getElem?_map, a1]; rfl) (by rw [List.getElem?_map, a2]; rfl) a3 _ _ rfl rfl
        rw [this]
        rfl
      · rw [List.getElem?_eq_none (by omega), List.getElem?_eq_none (by rw [List.length_map, List.length_zipWith]; omega)]
    rw [eo]
    refine ⟨_, rfl, by rw [List.length_zipWith]; omega, fun r hr' => ?_, fun i hi => ?_⟩
    · obtain ⟨i, hi, e⟩ := List.getElem_of_mem hr'
      rw [List.getElem_zipWith] at e
      rw [← e]
      exact (((bf _ (List.getElem_mem _)).mul (n := 2) (s := ((2 : Int) : Rat)) (Bq.int (by decide) (by decide))).sub (bh _ (List.getElem_mem _))).le (by decide)
    · have a1 : fs[i]? = some fs[i] := List.getElem?_eq_getElem (by omega)
      have a2 : hs[i]? = some hs[i] := List.getElem?_eq_getElem (by omega)
      unfold nth
      rw [List.getElem?_zipWith, a1, a2]
      rfl
  rintro S' ⟨bs, rfl, lb', bb, eb⟩
  refine sds_frz 11 _ rfl ?_
  have bvh := val_bd (C := C) gM h5 lh lgs bh bg (by decide)
  have lin := val_lin gM.sq lf lh lb' lgs eb
  refine sds_cons (sd_if (td_cmp (ed_call Y.val hr hG (ad_cons (nm 3 (ad_cons (nm 11 (ad_cons (nm 5 (ad_nil ⟨dg, lg, M, _, _, bs, _, _, gs, rfl, sg, hg, gM.sq, gM.sy, h1, h5, .inl rfl, Nqs.rats bb, .inl rfl, Nqs.rats bg, by rw [List.length_map, lb'], by rw [List.length_map, lgs], ?_⟩))))))))))
  refine ed_bin (ed_bin (nm 10 (ed_int (od_mulR L r6 hG (bv.le (by decide)) (.int 2 (Bq.int (by show (2 : Int).natAbs < 2 ^ 3000; exact Nat.lt_of_lt_of_le (by decide : 2 < 2 ^ 2) (Nat.pow_le_pow_right (by decide) (by decide))) (by decide))) ?_))))
  refine ed_call Y.val hr hG (ad_cons (nm 3 (ad_cons (nm 6 (ad_cons (nm 5 (ad_nil ⟨dg, lg, M, _, _, hs, _, _, gs, rfl, sg, hg, gM.sq, gM.sy, h1, h5, .inl rfl, (Nqs.rats bh).mono (by decide), .inl rfl, Nqs.rats bg, by rw [List.length_map, lh], by rw [List.length_map, lgs], od_subQ L r6 hG ((bv.mul (n := 2) (Bq.int (by decide) (by decide))).le (by decide)) (.rat _ (bvh.le (by decide))) (od_neQ L r2 hG (kB ?_))⟩)))))))
  rw [decide_eq_true (by rw [lin]; rfl)]
  refine sds_nil ?_
  have bz : ∀ r ∈ List.replicate M.length ((0 : Int) : Rat), r = 0 := fun r h => (List.mem_replicate.mp h).2
  have vz := val_zero gM.sq (List.length_replicate) lgs bz
  have bff := val_bd (C := C) gM h5 lf lf bf bf (by decide)
  refine sds_cons (sd_if (td_of (tw_or (td_cmp (ed_call Y.val hr hG (ad_cons (nm 3 (ad_cons (ed_bin (ed_lst (ad_cons (ed_int (ad_nil ⟨[.int 0], rfl, by simp, nm 1 (od_repL (k := (M.length : Int)) (l := [.int 0]) (by omega) (by rw [Int.toNat_natCast, List.length_singleton]; omega) (by omega) ?_)⟩)))))))))))))
  rw [rep1, Int.toNat_natCast]
  refine ad_cons (nm 8 (ad_nil ⟨dg, lg, M, _, _, _, db, lb, gs, rfl, sg, hg, gM.sq, gM.sy, h1, h5, .inl rfl, (nqs_zero (n := 0) M.length).mono (by decide), sb, hb, List.length_replicate, llb, ed_make V.mk1 r3 hG (ad_cons (ed_int (ad_nil (mk_ok (n := 1) (by decide) (by decide) (by decide) (by decide) ?_))))⟩))
  rw [low_one]
  refine od_neQ (s := 0) L r2 hG (kB ?_)
  rw [decide_eq_true vz]
  show TW _ _ _ _ _
  refine tw_or1 (td_cmp (ed_call Y.val hr hG (ad_cons (nm 2 (ad_cons (nm 4 (ad_cons (nm 4 (ad_nil ⟨_, _, M, _, _, fs, _, _, fs, rfl, .inl rfl, rp, gM.sq, gM.sy, h1, h5, .inl rfl, (Nqs.rats bf).mono (by decide), .inl rfl, Nqs.rats bf, by rw [List.length_map, lf], by rw [List.length_map, lf], ed_call Y.sum r7 hG (ad_cons (nm 2 (ad_cons (nm 4 (ad_cons (nm 4 (ad_nil ⟨M, fs, fs, rfl, gM, h5, lf, lf, bf, bf, od_neQ L r2 hG (kB ?_)⟩)))))))⟩)))))))))
  rw [decide_eq_true rfl]
  refine sds_nil ?_
  refine sds_cons (sd_forR (n := 4) PassesOwn.never rfl T.range (fun _ S' => ∃ o14 o15, S' = [some .pot, some (.val (.int (M.length : Int))), some (.val (matD C M)), some (.val dg), some (.val (rowD C fs)), some (.val (rowD C gs)), some (.val (rowD C hs)), some (.val da), some (.val db), some (.val (.str t0)), some (.val (Ra C (fr (valM M fs gs)))), some (.val (rowD C bs)), none, none, o14, o15]) (ad_cons (ed_int (ad_nil ⟨rfl, by decide, by decide, none, none, rfl⟩))) ?_ ?_)
  · rintro i S' hi ⟨o14, o15, rfl⟩
    refine gd_name 14 nd rfl ?_
    refine sds_cons (sd_set 15 nd rfl (ed_call Y.bent r7 hG (ad_pot 0 rfl rfl (ad_cons (nm 2 (ad_nil ⟨M, rfl, gM, h1, h5, fun l lo => ?_⟩))))))
    have t2 : ∀ x ∈ [D.bl (tabB l), D.bl (tabB l)], Tx (Bx P w K mg base NR "_law_right" (top 39) f cdv A outer s H) 3 110000 x := by
      intro x hx
      simp only [List.mem_cons, List.not_mem_nil, or_false, or_self] at hx
      rw [hx]
      exact (wr_bl (k := 3) _).up (by decide) (by decide)
    obtain ⟨t2', T2⟩ := cd_reprT2 r5 hG (by simp) t2 (by decide)
    refine sds_cons (sd_if (td_cmp (ed_callB T.repr (ad_cons (ed_lst (ad_cons (ed_call Y.isT r7 hG (ad_cons (nm 15 (ad_nil ⟨_, l, rfl, .inl rfl, lo.1, fun e he => (lo.2 e he).1, ad_cons (ed_callK0 Y.isTK r7 hG (kd_cons (ed_callTy T.tuple (ad_cons (nm 15 (ad_nil (cd_tuple (kd_nil ⟨rfl, _, l, rfl, .inr rfl, lo.1, fun e he => (lo.2 e he).1, ad_nil ⟨[.bl (tabB l), .bl (tabB l)], rfl, by simp, ad_nil (T2 _ (ed_callB T.repr (ad_cons (ed_bin (ed_lst (ad_cons (ed_call Y.looks r7 hG (ad_cons (nm 15 (ad_nil ⟨_, l, rfl, .inl rfl, lo.1, fun e he => (lo.2 e he).1, fun e he => (lo.2 e he).2, ad_nil ⟨[.bl (tabB l)], rfl, by simp, ed_int (od_repL (by decide) (by simp) (by decide) (ad_nil (T2 _ (ne_strQ (kB ?_)))))⟩⟩))))))))))⟩⟩))))))))⟩))))))))))
    exact sds_nil (sds_nil ⟨_, _, rfl⟩)
  · rintro S' ⟨o14, o15, rfl⟩
    refine sds_cons (sd_ret (ed_cmp (ed_callB T.repr (ad_cons (ed_lst (ad_cons (nm 3 (ad_cons (nm 7 (ad_cons (nm 8 (ad_nil ⟨[dg, da, db], rfl, by simp, ad_nil (T0 _ (nm 9 (od_eqs ?_)))⟩))))))))))))
    rw [decide_eq_true rfl]
    exact q
end
end K31

set_option Elab.async false
set_option linter.all false
set_option maxRecDepth 100000
set_option maxHeartbeats 8000000
/-! k31: the law -/
namespace DL
open PySem L2
theorem cd_min {X : Cx} {Q : D → Prop} {i j : Int} (hc : X.calm = true) (q : Q (.int (if j < i then j else i))) : CD X (.builtin "min") [.val (.int i), .val (.int j)] Q := cd_of (call_min2 hc) fun vs W H ok ha R c => by
  obtain ⟨v, u, rfl, h, h'⟩ := two_args ha
  cases h
  cases h'
  exact ⟨_, _, rfl, c.now ok (.int _) q⟩
end DL
namespace K31
open PySem L2 DL
section
variable {P : Program} {w : World} {K : PySem.W.Frag} {mg : Str → Option Value} {base : Heap} {C : Addr}
abbrev spRight : SpD := fun as Q => as = [.pot] ∧ Q (.bl true)
abbrev spLaw : SpD := fun as Q => ∃ ns : List Int, as = [.val (.frl ns)] ∧ Q (.bl true)
theorem sc_law : FnScope ["_law_script", "_law_k"] ["_law_script"] (defScope (top 40)) := ⟨rfl, rfl, rfl, by decide +kernel, rfl, by decide +kernel, by decide +kernel⟩
theorem ok_law {f : Addr} {fd : FuncData} (F : FunS K "law" "law" (top 40) f fd) (T : Txt K mg C) (hmin : mg "min" = none) (Pt : Nf P w K mg base "_law_pot" 1 spPot) (R : Df P w K mg base "_law_right" 10 1 spRight) : GnOk P w K mg base 11 f fd ["_law_script"] (lift K spLaw) := by
  refine gn_dl F sc_law (fun as Q h => by obtain ⟨_, rfl, _⟩ := h; rfl) (fun cdv A outer s H hr hG W as Q h => ?_)
  obtain ⟨ns, rfl, q⟩ := h
  have nd := sc_law.nd
  obtain ⟨n, en, hn⟩ : ∃ n : Nat, (if (if (ns.length : Int) < 3 then (ns.length : Int) else 3) > 1 then (if (ns.length : Int) < 3 then (ns.length : Int) else 3) else 1) = (n : Int) ∧ n ≤ 3 := by
    by_cases c : (ns.length : Int) < 3
    · rw [if_pos c]
      by_cases d : (ns.length : Int) > 1
      · rw [if_pos d]; exact ⟨ns.length, rfl, by omega⟩
      · rw [if_neg d]; exact ⟨1, rfl, by decide⟩
    · rw [if_neg c]; exact ⟨3, by decide, by decide⟩
  refine sds_cons (sd_ret (ed_callB T.all (ad_cons (ed_fd (fd_relR (n := n) (fun _ y => y = .bl true) 1 (own := [("_law_k", 1)]) rfl nd T.range (blkOk_by (by show blkC ["_law_script", "_law_k"] (defScope (top 40)) _ _ = true; decide +kernel)) (fun _ _ _ _ _ => pg_name (i := 1) nd rfl (Or.inl rfl)) (by omega) ?_ (by simp) ?_ ?_)))))
  · refine ad_cons (ed_callB T.max (ad_cons (ed_int (ad_cons (ed_callB hmin (ad_cons (ed_int (ad_cons (ed_callB T.len (ad_cons (nm 0 (ad_nil (cd_lenF (ad_nil (cd_min rfl (ad_nil (cd_max rfl (ad_nil ?_))))))))))))))))))
    rw [en]
  · intro i hi s2 H0 C2 cl fp
    exact ed_call R hr hG (ad_newpot (fd_callN Pt (hr.mono (by decide)) hG (ad_cons (nm 0 (ad_cons (nm 1 (ad_nil ⟨ns, i, rfl, by omega, fun a b h => ⟨a, b, rfl, h, ad_nil ⟨rfl, rfl⟩⟩⟩)))))))
  · intro out ho
    rw [outs_B (f := fun _ => true) ho]
    refine ad_nil (cd_all rfl ?_)
    rw [all_idN]
    have : ((List.range n).all fun _ => true) = true := List.all_eq_true.mpr fun _ _ => rfl
    rw [this]
    exact q
end
end K31

set_option Elab.async false
set_option linter.all false
set_option maxRecDepth 100000
set_option maxHeartbeats 8000000
/-! k31: what the top has written, put together -/
namespace K31
open PySem L2 DL PySem.Spec PyProof.Rows
theorem kit_ref {K : PySem.W.Frag} {t : Value} {C : Addr} {b : Bool} (hd : PySem.W.hasDictIn K C = true) (ty : PySem.W.typeIn K (.ref C) = some (.type "type")) (n : ¬ t = .ref C) (s : PySem.W.subIn K t (.ref C) = some b) : PySem.W.kitOne K t (.ref C) = some b := by
  obtain ⟨cd, hc, _⟩ := PySem.W.any_some hd
  unfold PySem.W.kitOne
  rw [if_neg (by simpa using n)]
  show (if ((PySem.W.clsIn K C).isSome && PySem.W.typeIn K (.ref C) == some (.type "type")) = true then PySem.W.subIn K t (.ref C) else none) = some b
  rw [hc, ty, if_pos (by simp)]
  exact s
theorem kit_tyc {K : PySem.W.Frag} {C : Addr} {T : String} {b : Bool} (m : PySem.W.kitMeta T = true) (s : PySem.W.subIn K (.ref C) (.type T) = some b) : PySem.W.kitOne K (.ref C) (.type T) = some b := by
  unfold PySem.W.kitOne
  rw [if_neg (by simp)]
  show (if PySem.W.kitMeta T = true then PySem.W.subIn K (.ref C) (.type T) else none) = some b
  rw [if_pos m]
  exact s
theorem fun_kbn {K : PySem.W.Frag} {x qual : Str} {st : Stmt} {f : Addr} {fd : FuncData} {ps : List Str} {n : Nat} {ks : List Str} (F : Fun K x qual st f fd)
    (h : ∀ (kV doc pm : Value) (an : Option Addr) (cdv ct : Value) (us ws : List Value), us.length = n → ws.length = ks.length → bindArgs (PySem.W.fnOf x qual (defArgs st) (defBody st) (defScope st) .none kV doc pm an cdv ct) ⟨us, ks.zip ws⟩ = pure (ps.zip (us ++ ws))) :
    KBn K fd ps n ks (fun us ws => us ++ ws) (fun vs zs => vs ++ zs) := by
  obtain ⟨oc, od, kV, doc, pm, an, cdv, ct, osl, rfl, lk, hcd⟩ := F.ex
  exact ⟨fun s us ws _ l1 l2 => .of_eq (h kV doc pm an cdv ct us ws l1 l2), fun r1 r2 => r1.append r2⟩
theorem paired_rev {α β : Type} {R : α → β → Prop} : ∀ {l : List α} {m : List β}, Paired R l m → Paired R l.reverse m.reverse
  | _, _, .nil => .nil
  | _, _, .cons h t => by
    rw [List.reverse_cons, List.reverse_cons]
    exact Paired.snoc h (paired_rev t)
theorem fun_kbnR {K : PySem.W.Frag} {x qual : Str} {st : Stmt} {f : Addr} {fd : FuncData} {ps : List Str} {n : Nat} {ks : List Str} (F : Fun K x qual st f fd)
    (h : ∀ (kV doc pm : Value) (an : Option Addr) (cdv ct : Value) (us ws : List Value), us.length = n → ws.length = ks.length → bindArgs (PySem.W.fnOf x qual (defArgs st) (defBody st) (defScope st) .none kV doc pm an cdv ct) ⟨us, ks.zip ws⟩ = pure (ps.zip (us ++ ws.reverse))) :
    KBn K fd ps n ks (fun us ws => us ++ ws.reverse) (fun vs zs => vs ++ zs.reverse) := by
  obtain ⟨oc, od, kV, doc, pm, an, cdv, ct, osl, rfl, lk, hcd⟩ := F.ex
  exact ⟨fun s us ws _ l1 l2 => .of_eq (h kV doc pm an cdv ct us ws l1 l2), fun r1 r2 => r1.append (paired_rev r2)⟩
theorem fund1 {K : PySem.W.Frag} {x qual : Str} {st : Stmt} {f T : Addr} {oc : Value} {od an : Option Addr} {osl : Array (Option Value)} {kV doc pm cdv ct : Value} {tk : Tok} {oT : Value} {dT : Option Addr} {n : Nat} {sT : Array (Option Value)}
    (l : K.lookup f = some ⟨oc, od, .func (PySem.W.fnOf x qual (defArgs st) (defBody st) (defScope st) (.ref T) kV doc pm an cdv ct), osl⟩) (c : PySem.W.codeIn K cdv qual = true) (k : PySem.W.keepIn K (.ref f) = true) (t : K.lookup T = some ⟨oT, dT, .seq [Value.int 1 tk].toArray n, sT⟩) :
    FunD K x qual (defArgs st) (defBody st) (defScope st) [.int 1] [] f (PySem.W.fnOf x qual (defArgs st) (defBody st) (defScope st) (.ref T) kV doc pm an cdv ct) :=
  ⟨⟨oc, od, .ref T, kV, doc, pm, an, cdv, ct, osl, rfl, l, c, .inr ⟨by simp, T, _, [.int 1 tk], n, rfl, t, rfl, .cons ⟨tk, rfl⟩ .nil⟩, .inl rfl⟩, k⟩
theorem law_gives {K : PySem.W.Frag} (H : Hp) (a : Addr) (ns : List Int) (h : SqL K H a (ns.map V.int)) : lift K spLaw [] [.ref a] H fun v _ => v = .bl true :=
  ⟨[.val (.frl ns)], ⟨H, fun _ => False⟩, fun d => d = .bl true, ⟨fun b ⟨_, _, _, z⟩ => absurd z List.not_mem_nil, Ex.refl H, fun _ z => z.elim⟩, .cons (.frl h) .nil, ⟨ns, rfl, rfl⟩, fun d v W' H' _ _ n q => by
    cases n <;> first | rfl | (cases q; done) | (cases q; rfl)⟩
theorem lw_mk {P : Program} {w : World} {K : PySem.W.Frag} {h : Heap} {mg : Str → Option Value} {fa : Addr} (X : K.In h) (G : h.Ns mainGlobals mg) (hfa : mg "law" = some (.ref fa))
    {C f_init f_isint f_islist f_isnum f_nums f_ratof f_ratios f_checkdir f_istab f_checkt f_rrows f_val f_dot f_pot f_draw f_pick f_small f_more f_ltab f_handed f_given f_lnum f_looks f_bent f_sum f_llist f_right f_law f_add f_radd f_sub f_rsub f_mul f_rmul f_eq f_repr f_ptop f_pbot p_ptop p_pbot f_total p_total : Addr} {r_ptop r_pbot r_total : List Value} {rla rlm rls : Option Value} {tk : Tok}
    (aC : PySem.W.nsIn K mainGlobals "Ratio" = some (some (.ref C)))
    (a_isint : PySem.W.nsIn K mainGlobals "is_integer" = some (some (.ref f_isint)))
    (F_isint : ∃ fd, Fun K "is_integer" "is_integer" (top 3) f_isint fd)
    (a_islist : PySem.W.nsIn K mainGlobals "is_list" = some (some (.ref f_islist)))
    (F_islist : ∃ fd, Fun K "is_list" "is_list" (top 4) f_islist fd)
    (a_isnum : PySem.W.nsIn K mainGlobals "is_number" = some (some (.ref f_isnum)))
    (F_isnum : ∃ fd, Fun K "is_number" "is_number" (top 12) f_isnum fd)
    (a_nums : PySem.W.nsIn K mainGlobals "is_numbers" = some (some (.ref f_nums)))
    (F_nums : ∃ fd, Fun K "is_numbers" "is_numbers" (top 13) f_nums fd)
    (a_ratof : PySem.W.nsIn K mainGlobals "ratio_of" = some (some (.ref f_ratof)))
    (F_ratof : ∃ fd, Fun K "ratio_of" "ratio_of" (top 14) f_ratof fd)
    (a_ratios : PySem.W.nsIn K mainGlobals "ratios_of" = some (some (.ref f_ratios)))
    (F_ratios : ∃ fd, Fun K "ratios_of" "ratios_of" (top 15) f_ratios fd)
    (a_checkdir : PySem.W.nsIn K mainGlobals "check_direction" = some (some (.ref f_checkdir)))
    (F_checkdir : ∃ fd, Fun K "check_direction" "check_direction" (top 17) f_checkdir fd)
    (a_istab : PySem.W.nsIn K mainGlobals "is_table" = some (some (.ref f_istab)))
    (F_istab : ∃ fd, Fun K "is_table" "is_table" (top 20) f_istab fd)
    (a_checkt : PySem.W.nsIn K mainGlobals "check_table" = some (some (.ref f_checkt)))
    (F_checkt : ∃ fd, Fun K "check_table" "check_table" (top 21) f_checkt fd)
    (a_rrows : PySem.W.nsIn K mainGlobals "ratio_rows" = some (some (.ref f_rrows)))
    (F_rrows : ∃ fd, Fun K "ratio_rows" "ratio_rows" (top 22) f_rrows fd)
    (a_val : PySem.W.nsIn K mainGlobals "value_at" = some (some (.ref f_val)))
    (F_val : ∃ fd, Fun K "value_at" "value_at" (top 23) f_val fd)
    (a_dot : PySem.W.nsIn K mainGlobals "dotted" = some (some (.ref f_dot)))
    (F_dot : ∃ fd, Fun K "dotted" "dotted" (top 24) f_dot fd)
    (a_pot : PySem.W.nsIn K mainGlobals "_law_pot" = some (some (.ref f_pot)))
    (F_pot : ∃ fd, Fun K "_law_pot" "_law_pot" (top 26) f_pot fd)
    (a_draw : PySem.W.nsIn K mainGlobals "_law_draw" = some (some (.ref f_draw)))
    (F_draw : ∃ fd, Fun K "_law_draw" "_law_draw" (top 27) f_draw fd)
    (a_pick : PySem.W.nsIn K mainGlobals "_law_pick" = some (some (.ref f_pick)))
    (F_pick : ∃ fd, Fun K "_law_pick" "_law_pick" (top 28) f_pick fd)
    (a_small : PySem.W.nsIn K mainGlobals "_law_small" = some (some (.ref f_small)))
    (F_small : ∃ fd, Fun K "_law_small" "_law_small" (top 29) f_small fd)
    (a_more : PySem.W.nsIn K mainGlobals "_law_more" = some (some (.ref f_more)))
    (F_more : ∃ fd, Fun K "_law_more" "_law_more" (top 30) f_more fd)
    (a_ltab : PySem.W.nsIn K mainGlobals "_law_table" = some (some (.ref f_ltab)))
    (F_ltab : ∃ fd, Fun K "_law_table" "_law_table" (top 31) f_ltab fd)
    (a_handed : PySem.W.nsIn K mainGlobals "_law_handed" = some (some (.ref f_handed)))
    (F_handed : ∃ fd, Fun K "_law_handed" "_law_handed" (top 32) f_handed fd)
    (a_given : PySem.W.nsIn K mainGlobals "_law_given" = some (some (.ref f_given)))
    (F_given : ∃ fd, Fun K "_law_given" "_law_given" (top 33) f_given fd)
    (a_lnum : PySem.W.nsIn K mainGlobals "_law_is_number" = some (some (.ref f_lnum)))
    (F_lnum : ∃ fd, Fun K "_law_is_number" "_law_is_number" (top 34) f_lnum fd)
    (a_looks : PySem.W.nsIn K mainGlobals "_law_looks" = some (some (.ref f_looks)))
    (F_looks : ∃ fd, Fun K "_law_looks" "_law_looks" (top 35) f_looks fd)
    (a_bent : PySem.W.nsIn K mainGlobals "_law_bent" = some (some (.ref f_bent)))
    (F_bent : ∃ fd, Fun K "_law_bent" "_law_bent" (top 36) f_bent fd)
    (a_sum : PySem.W.nsIn K mainGlobals "_law_sum" = some (some (.ref f_sum)))
    (F_sum : ∃ fd, Fun K "_law_sum" "_law_sum" (top 37) f_sum fd)
    (a_llist : PySem.W.nsIn K mainGlobals "_law_list" = some (some (.ref f_llist)))
    (F_llist : ∃ fd, Fun K "_law_list" "_law_list" (top 38) f_llist fd)
    (a_right : PySem.W.nsIn K mainGlobals "_law_right" = some (some (.ref f_right)))
    (F_right : ∃ fd, Fun K "_law_right" "_law_right" (top 39) f_right fd)
    (a_law : PySem.W.nsIn K mainGlobals "law" = some (some (.ref f_law)))
    (F_law : ∃ fd, Fun K "law" "law" (top 40) f_law fd)
    (a_init : PySem.W.findIn K (.ref C) "__init__" = some (some (.ref f_init)))
    (i_init : PySem.W.isFn K (.ref f_init) = true)
    (F_init : ∃ fd, FunD K "__init__" "Ratio.__init__" (defArgs sInit) (defBody sInit) (defScope sInit) [.int 1] [] f_init fd)
    (a_add : PySem.W.findIn K (.ref C) "__add__" = some (some (.ref f_add)))
    (i_add : PySem.W.isFn K (.ref f_add) = true)
    (F_add : ∃ fd, Fun K "__add__" "Ratio.__add__" (rat 5) f_add fd)
    (a_radd : PySem.W.findIn K (.ref C) "__radd__" = some (some (.ref f_radd)))
    (i_radd : PySem.W.isFn K (.ref f_radd) = true)
    (F_radd : ∃ fd, Fun K "__radd__" "Ratio.__radd__" (rat 6) f_radd fd)
    (a_sub : PySem.W.findIn K (.ref C) "__sub__" = some (some (.ref f_sub)))
    (i_sub : PySem.W.isFn K (.ref f_sub) = true)
    (F_sub : ∃ fd, Fun K "__sub__" "Ratio.__sub__" (rat 7) f_sub fd)
    (a_rsub : PySem.W.findIn K (.ref C) "__rsub__" = some (some (.ref f_rsub)))
    (i_rsub : PySem.W.isFn K (.ref f_rsub) = true)
    (F_rsub : ∃ fd, Fun K "__rsub__" "Ratio.__rsub__" (rat 8) f_rsub fd)
    (a_mul : PySem.W.findIn K (.ref C) "__mul__" = some (some (.ref f_mul)))
    (i_mul : PySem.W.isFn K (.ref f_mul) = true)
    (F_mul : ∃ fd, Fun K "__mul__" "Ratio.__mul__" (rat 9) f_mul fd)
    (a_rmul : PySem.W.findIn K (.ref C) "__rmul__" = some (some (.ref f_rmul)))
    (i_rmul : PySem.W.isFn K (.ref f_rmul) = true)
    (F_rmul : ∃ fd, Fun K "__rmul__" "Ratio.__rmul__" (rat 10) f_rmul fd)
    (a_eq : PySem.W.findIn K (.ref C) "__eq__" = some (some (.ref f_eq)))
    (i_eq : PySem.W.isFn K (.ref f_eq) = true)
    (F_eq : ∃ fd, Fun K "__eq__" "Ratio.__eq__" (rat 17) f_eq fd)
    (a_repr : PySem.W.findIn K (.ref C) "__repr__" = some (some (.ref f_repr)))
    (i_repr : PySem.W.isFn K (.ref f_repr) = true)
    (F_repr : ∃ fd, Fun K "__repr__" "Ratio.__repr__" (rat 19) f_repr fd)
    (a_ptop : PySem.W.findIn K (.ref C) "top" = some (some (.ref p_ptop)))
    (g_ptop : PySem.W.specialIn K (.ref p_ptop) "__get__" = some (some (.builtin "property.__get__")))
    (t_ptop : PySem.W.takesIn K (.ref p_ptop) = some true)
    (c_ptop : PySem.W.recIn K p_ptop "property" = some (.ref f_ptop :: r_ptop))
    (F_ptop : ∃ fd, Fun K "top" "Ratio.top" (rat 1) f_ptop fd)
    (a_pbot : PySem.W.findIn K (.ref C) "bottom" = some (some (.ref p_pbot)))
    (g_pbot : PySem.W.specialIn K (.ref p_pbot) "__get__" = some (some (.builtin "property.__get__")))
    (t_pbot : PySem.W.takesIn K (.ref p_pbot) = some true)
    (c_pbot : PySem.W.recIn K p_pbot "property" = some (.ref f_pbot :: r_pbot))
    (F_pbot : ∃ fd, Fun K "bottom" "Ratio.bottom" (rat 2) f_pbot fd)
    (m1 : PySem.W.readsIn K C (.type "type") = true)
    (m2 : PySem.W.specialIn K (.ref C) "__getattribute__" = some (some (.builtin "type.__getattribute__")))
    (m3 : PySem.W.findCls K (.ref C) (.type "type") "total" = some (.get (.builtin "classmethod.__get__") (.ref p_total) .none (.ref C)))
    (m4 : PySem.W.recIn K p_total "classmethod" = some (.ref f_total :: r_total))
    (m5 : PySem.W.fnIn K f_total = true)
    (F_total : ∃ fd, Fun K "total" "Ratio.total" (rat 16) f_total fd)
    (pg : PySem.W.plainGet K C Str.empty = true)
    (hd : PySem.W.hasDictIn K C = true)
    (po : PySem.W.plainOver K C = true)
    (sa : PySem.W.findIn K (.ref C) "__setattr__" = some (some (.builtin "object.__setattr__")))
    (mk : PySem.W.makesIn K C = true)
    (kc : PySem.W.keepIn K (.ref C) = true)
    (nT : PySem.W.findIn K (.ref C) "_top" = some none)
    (nB : PySem.W.findIn K (.ref C) "_bottom" = some none)
    (ne : PySem.W.findIn K (.ref C) "__ne__" = some (some (.builtin "object.__ne__")))
    (sf : PySem.W.selfFirst K C = true)
    (nf : PySem.W.notFirst K C (.ref C) = true)
    (ni : PySem.W.notFirst K C (.type "int") = true)
    (sub_is : PySem.W.subIn K (.ref C) (.type "int") = some false)
    (sub_ob : PySem.W.subIn K (.ref C) (.type "object") = some true)
    (sub_li : PySem.W.subIn K (.ref C) (.type "list") = some false)
    (sub_tu : PySem.W.subIn K (.ref C) (.type "tuple") = some false)
    (ca : PySem.W.findIn K (.ref C) "__class__" = some (some (.builtin "object.__class__")))
    (cn : PySem.W.specialIn K (.builtin "object.__class__") "__get__" = some (some (.builtin "getset_descriptor.__get__")))
    (ct : PySem.W.takesIn K (.builtin "object.__class__") = some true)
    (cm : PySem.W.mroIn K C (.type "object") = some true)
    (tyC : PySem.W.typeIn K (.ref C) = some (.type "type"))
    (s_NoneType : PySem.W.subIn K (.type "NoneType") (.ref C) = some false)
    (s_bool : PySem.W.subIn K (.type "bool") (.ref C) = some false)
    (s_str : PySem.W.subIn K (.type "str") (.ref C) = some false)
    (s_tuple : PySem.W.subIn K (.type "tuple") (.ref C) = some false)
    (s_list : PySem.W.subIn K (.type "list") (.ref C) = some false)
    (s_int : PySem.W.subIn K (.type "int") (.ref C) = some false)
    (s_dict : PySem.W.subIn K (.type "dict") (.ref C) = some false)
    (la : PySem.W.findIn K (.type "int") "__radd__" = some rla)
    (lm : PySem.W.findIn K (.type "int") "__rmul__" = some rlm)
    (ls : PySem.W.findIn K (.type "int") "__rsub__" = some rls)
    (z_gcd : PySem.W.nsIn K mainGlobals "gcd" = some (some (.builtin "math.gcd")))
    (z_rows : PySem.W.nsIn K mainGlobals "MOST_ROWS" = some (some (.int 20 tk)))
    (z_isinstance : PySem.W.nsIn K mainGlobals "isinstance" = some none)
    (z_int : PySem.W.nsIn K mainGlobals "int" = some none)
    (z_bool : PySem.W.nsIn K mainGlobals "bool" = some none)
    (z_list : PySem.W.nsIn K mainGlobals "list" = some none)
    (z_tuple : PySem.W.nsIn K mainGlobals "tuple" = some none)
    (z_abs : PySem.W.nsIn K mainGlobals "abs" = some none)
    (z_len : PySem.W.nsIn K mainGlobals "len" = some none)
    (z_max : PySem.W.nsIn K mainGlobals "max" = some none)
    (z_divmod : PySem.W.nsIn K mainGlobals "divmod" = some none)
    (z_str : PySem.W.nsIn K mainGlobals "str" = some none)
    (z_repr : PySem.W.nsIn K mainGlobals "repr" = some none)
    (z_range : PySem.W.nsIn K mainGlobals "range" = some none)
    (z_all : PySem.W.nsIn K mainGlobals "all" = some none)
    (z_zip : PySem.W.nsIn K mainGlobals "zip" = some none)
    (z_min : PySem.W.nsIn K mainGlobals "min" = some none)
    : ∃ fd : FuncData, (∀ (s : Shared) (v : Value), BindsTo s fd ⟨[v], []⟩ [("_law_script", v)]) ∧ ∀ base : Heap, K.In base → base.Ns mainGlobals mg → GnOk P w K mg base 11 fa fd ["_law_script"] (lift K spLaw) := by
  have e := hfa.symm.trans (PySem.W.mg_of X G a_law)
  cases e
  obtain ⟨d_isint, F_isint⟩ := F_isint
  obtain ⟨d_islist, F_islist⟩ := F_islist
  obtain ⟨d_isnum, F_isnum⟩ := F_isnum
  obtain ⟨d_nums, F_nums⟩ := F_nums
  obtain ⟨d_ratof, F_ratof⟩ := F_ratof
  obtain ⟨d_ratios, F_ratios⟩ := F_ratios
  obtain ⟨d_checkdir, F_checkdir⟩ := F_checkdir
  obtain ⟨d_istab, F_istab⟩ := F_istab
  obtain ⟨d_checkt, F_checkt⟩ := F_checkt
  obtain ⟨d_rrows, F_rrows⟩ := F_rrows
  obtain ⟨d_val, F_val⟩ := F_val
  obtain ⟨d_dot, F_dot⟩ := F_dot
  obtain ⟨d_pot, F_pot⟩ := F_pot
  obtain ⟨d_draw, F_draw⟩ := F_draw
  obtain ⟨d_pick, F_pick⟩ := F_pick
  obtain ⟨d_small, F_small⟩ := F_small
  obtain ⟨d_more, F_more⟩ := F_more
  obtain ⟨d_ltab, F_ltab⟩ := F_ltab
  obtain ⟨d_handed, F_handed⟩ := F_handed
  obtain ⟨d_given, F_given⟩ := F_given
  obtain ⟨d_lnum, F_lnum⟩ := F_lnum
  obtain ⟨d_looks, F_looks⟩ := F_looks
  obtain ⟨d_bent, F_bent⟩ := F_bent
  obtain ⟨d_sum, F_sum⟩ := F_sum
  obtain ⟨d_llist, F_llist⟩ := F_llist
  obtain ⟨d_right, F_right⟩ := F_right
  obtain ⟨d_law, F_law⟩ := F_law
  obtain ⟨d_init, F_init⟩ := F_init
  obtain ⟨d_add, F_add⟩ := F_add
  obtain ⟨d_radd, F_radd⟩ := F_radd
  obtain ⟨d_sub, F_sub⟩ := F_sub
  obtain ⟨d_rsub, F_rsub⟩ := F_rsub
  obtain ⟨d_mul, F_mul⟩ := F_mul
  obtain ⟨d_rmul, F_rmul⟩ := F_rmul
  obtain ⟨d_eq, F_eq⟩ := F_eq
  obtain ⟨d_repr, F_repr⟩ := F_repr
  obtain ⟨d_ptop, F_ptop⟩ := F_ptop
  obtain ⟨d_pbot, F_pbot⟩ := F_pbot
  obtain ⟨d_total, F_total⟩ := F_total
  have b_isint := F_isint.binds (ps := ["value"]) fun _ _ _ _ _ _ us hl => match us, hl with | [_], _ => rfl
  have b_islist := F_islist.binds (ps := ["value"]) fun _ _ _ _ _ _ us hl => match us, hl with | [_], _ => rfl
  have b_isnum := F_isnum.binds (ps := ["value"]) fun _ _ _ _ _ _ us hl => match us, hl with | [_], _ => rfl
  have b_nums := F_nums.binds (ps := ["value", "many"]) fun _ _ _ _ _ _ us hl => match us, hl with | [_, _], _ => rfl
  have b_ratof := F_ratof.binds (ps := ["value"]) fun _ _ _ _ _ _ us hl => match us, hl with | [_], _ => rfl
  have b_ratios := F_ratios.binds (ps := ["numbers"]) fun _ _ _ _ _ _ us hl => match us, hl with | [_], _ => rfl
  have b_checkdir := F_checkdir.binds (ps := ["direction", "many"]) fun _ _ _ _ _ _ us hl => match us, hl with | [_, _], _ => rfl
  have b_istab := F_istab.binds (ps := ["value"]) fun _ _ _ _ _ _ us hl => match us, hl with | [_], _ => rfl
  have b_checkt := F_checkt.binds (ps := ["table"]) fun _ _ _ _ _ _ us hl => match us, hl with | [_], _ => rfl
  have b_rrows := F_rrows.binds (ps := ["rows"]) fun _ _ _ _ _ _ us hl => match us, hl with | [_], _ => rfl
  have b_val := F_val.binds (ps := ["table", "first", "second"]) fun _ _ _ _ _ _ us hl => match us, hl with | [_, _, _], _ => rfl
  have b_dot := F_dot.binds (ps := ["numbers", "others"]) fun _ _ _ _ _ _ us hl => match us, hl with | [_, _], _ => rfl
  have b_pot := F_pot.binds (ps := ["_law_script", "_law_k"]) fun _ _ _ _ _ _ us hl => match us, hl with | [_, _], _ => rfl
  have b_draw := F_draw.binds (ps := ["_law_pot_here", "_law_size"]) fun _ _ _ _ _ _ us hl => match us, hl with | [_, _], _ => rfl
  have b_pick := F_pick.binds (ps := ["_law_pot_here", "_law_some"]) fun _ _ _ _ _ _ us hl => match us, hl with | [_, _], _ => rfl
  have b_small := F_small.binds (ps := ["_law_pot_here", "_law_most"]) fun _ _ _ _ _ _ us hl => match us, hl with | [_, _], _ => rfl
  have b_more := F_more.binds (ps := ["_law_rows", "_law_number", "_law_form"]) fun _ _ _ _ _ _ us hl => match us, hl with | [_, _, _], _ => rfl
  have b_ltab := F_ltab.binds (ps := ["_law_pot_here", "_law_size"]) fun _ _ _ _ _ _ us hl => match us, hl with | [_, _], _ => rfl
  have b_handed := F_handed.binds (ps := ["_law_pot_here", "_law_numbers"]) fun _ _ _ _ _ _ us hl => match us, hl with | [_, _], _ => rfl
  have b_given := F_given.binds (ps := ["_law_pot_here", "_law_rows"]) fun _ _ _ _ _ _ us hl => match us, hl with | [_, _], _ => rfl
  have b_lnum := F_lnum.binds (ps := ["_law_value"]) fun _ _ _ _ _ _ us hl => match us, hl with | [_], _ => rfl
  have b_looks := F_looks.binds (ps := ["_law_value"]) fun _ _ _ _ _ _ us hl => match us, hl with | [_], _ => rfl
  have b_bent := F_bent.binds (ps := ["_law_pot_here", "_law_rows"]) fun _ _ _ _ _ _ us hl => match us, hl with | [_, _], _ => rfl
  have b_sum := F_sum.binds (ps := ["_law_rows", "_law_first", "_law_second"]) fun _ _ _ _ _ _ us hl => match us, hl with | [_, _, _], _ => rfl
  have b_llist := F_llist.binds (ps := ["_law_pot_here", "_law_size"]) fun _ _ _ _ _ _ us hl => match us, hl with | [_, _], _ => rfl
  have b_right := F_right.binds (ps := ["_law_pot_here"]) fun _ _ _ _ _ _ us hl => match us, hl with | [_], _ => rfl
  have b_law := F_law.binds (ps := ["_law_script"]) fun _ _ _ _ _ _ us hl => match us, hl with | [_], _ => rfl
  have b_add := F_add.binds (ps := ["self", "other"]) fun _ _ _ _ _ _ us hl => match us, hl with | [_, _], _ => rfl
  have b_radd := F_radd.binds (ps := ["self", "other"]) fun _ _ _ _ _ _ us hl => match us, hl with | [_, _], _ => rfl
  have b_sub := F_sub.binds (ps := ["self", "other"]) fun _ _ _ _ _ _ us hl => match us, hl with | [_, _], _ => rfl
  have b_rsub := F_rsub.binds (ps := ["self", "other"]) fun _ _ _ _ _ _ us hl => match us, hl with | [_, _], _ => rfl
  have b_mul := F_mul.binds (ps := ["self", "other"]) fun _ _ _ _ _ _ us hl => match us, hl with | [_, _], _ => rfl
  have b_rmul := F_rmul.binds (ps := ["self", "other"]) fun _ _ _ _ _ _ us hl => match us, hl with | [_, _], _ => rfl
  have b_eq := F_eq.binds (ps := ["self", "other"]) fun _ _ _ _ _ _ us hl => match us, hl with | [_, _], _ => rfl
  have b_repr := F_repr.binds (ps := ["self"]) fun _ _ _ _ _ _ us hl => match us, hl with | [_], _ => rfl
  have b_ptop := F_ptop.binds (ps := ["self"]) fun _ _ _ _ _ _ us hl => match us, hl with | [_], _ => rfl
  have b_pbot := F_pbot.binds (ps := ["self"]) fun _ _ _ _ _ _ us hl => match us, hl with | [_], _ => rfl
  have b_total := F_total.binds (ps := ["cls", "numbers"]) fun _ _ _ _ _ _ us hl => match us, hl with | [_, _], _ => rfl
  obtain ⟨ds2, v2, b2⟩ := F_init.binds1 (ps := ["self", "top", "bottom"]) 3 1 (by simp) rfl fun T kV doc pm an cdv ct us its l1 l2 => match us, its, l1, l2 with | [_, _, _], [_], _, _ => ⟨_, rfl, rfl⟩
  obtain ⟨ds1, v1, b1⟩ := F_init.binds1 (ps := ["self", "top", "bottom"]) 2 0 (by simp) rfl fun T kV doc pm an cdv ct us its l1 l2 => match us, its, l1, l2 with | [_, _], [_], _, _ => ⟨_, rfl, rfl⟩
  have bIK := fun_kbn (ps := ["value"]) (n := 0) (ks := ["value"]) F_istab fun _ _ _ _ _ _ us ws l1 l2 => match us, ws, l1, l2 with | [], [_], _, _ => rfl
  have bVK := fun_kbnR (ps := ["table", "first", "second"]) (n := 0) (ks := ["second", "first", "table"]) F_val fun _ _ _ _ _ _ us ws l1 l2 => match us, ws, l1, l2 with | [], [_, _, _], _, _ => rfl
  have cl : Cls K C := ⟨pg, hd, po, sa⟩
  have T : Txt K mg C := {
    nu := ⟨cl, sf, nf, ni, s_int, sub_is, sub_ob⟩
    is := ⟨cl, ca, cn, ct, cm⟩
    nT := nT
    nB := nB
    ne := ne
    mC := PySem.W.mg_of X G aC
    gcd := PySem.W.mg_of X G z_gcd
    isi := PySem.W.mg_none_of X G z_isinstance
    int := PySem.W.mg_none_of X G z_int
    bool := PySem.W.mg_none_of X G z_bool
    list := PySem.W.mg_none_of X G z_list
    tuple := PySem.W.mg_none_of X G z_tuple
    abs := PySem.W.mg_none_of X G z_abs
    len := PySem.W.mg_none_of X G z_len
    max := PySem.W.mg_none_of X G z_max
    divmod := PySem.W.mg_none_of X G z_divmod
    str := PySem.W.mg_none_of X G z_str
    repr := PySem.W.mg_none_of X G z_repr
    range := PySem.W.mg_none_of X G z_range
    all := PySem.W.mg_none_of X G z_all
    zip := PySem.W.mg_none_of X G z_zip
    k1 := kit_ty (by decide +kernel)
    k2 := kit_ty (by decide +kernel)
    k3 := kit_ty (by decide +kernel)
    k4 := kit_ty (by decide +kernel)
    k5 := kit_ty (by decide +kernel)
    k7 := kit_ty (by decide +kernel)
    k8 := kit_ty (by decide +kernel)
    k6 := kit_tyc (by decide +kernel) sub_is
    r1 := kit_ref hd tyC (fun z => by cases z) s_NoneType
    r2 := kit_ref hd tyC (fun z => by cases z) s_bool
    r3 := kit_ref hd tyC (fun z => by cases z) s_str
    r4 := kit_ref hd tyC (fun z => by cases z) s_tuple
    r5 := kit_ref hd tyC (fun z => by cases z) s_list
    r7 := kit_ref hd tyC (fun z => by cases z) s_int
    r8 := kit_ref hd tyC (fun z => by cases z) s_dict
    l0 := fun T h => by rcases h with rfl | rfl | rfl | rfl | rfl <;> exact kitAny_cons (b := false) (kit_ty (by decide +kernel)) (fun _ => kitAny_cons (b := false) (kit_ty (by decide +kernel)) (fun _ => rfl) (fun z => Bool.noConfusion z)) (fun z => Bool.noConfusion z)
    l3 := kitAny_cons (b := false) (kit_tyc (by decide +kernel) sub_li) (fun _ => kitAny_cons (b := false) (kit_tyc (by decide +kernel) sub_tu) (fun _ => rfl) (fun z => Bool.noConfusion z)) (fun z => Bool.noConfusion z)
    l1 := kitAny_cons (b := true) (same (beq_self_eq_true _)) (fun z => Bool.noConfusion z) (fun _ => rfl)
    l2 := kitAny_cons (b := false) (kit_ty (by decide +kernel)) (fun _ => kitAny_cons (b := true) (same (beq_self_eq_true _)) (fun z => Bool.noConfusion z) (fun _ => rfl)) (fun z => Bool.noConfusion z) }
  have M : Mk K C f_init := ⟨mk, a_init, i_init, kc⟩
  have bL : ∀ (s : Shared) (v : Value), BindsTo s d_law ⟨[v], []⟩ [("_law_script", v)] := by
    obtain ⟨oc, od, kV, doc, pm, an, cdv, ct, osl, rfl, _⟩ := F_law.ex
    exact fun s v => .of_eq rfl
  refine ⟨d_law, bL, fun base _ _ => ?_⟩
  have D_isint : Df P w K mg base "is_integer" 1 1 (spB C isI) := df_of (fun_s F_isint) (ok_isint (fun_s F_isint) T) (PySem.W.mg_of X G a_isint) b_isint rfl
  have D_islist : Df P w K mg base "is_list" 1 1 (spB C isL) := df_of (fun_s F_islist) (ok_islist2 (fun_s F_islist) T) (PySem.W.mg_of X G a_islist) b_islist rfl
  have D_isnum : Df P w K mg base "is_number" 2 1 (spB C isN) := df_of (fun_s F_isnum) (ok_isnumber (fun_s F_isnum) T D_isint) (PySem.W.mg_of X G a_isnum) b_isnum rfl
  have GI := ok_init (P := P) (w := w) (base := base) (fund_s F_init) T D_isint
  have mk2 : Kl P w K mg base "Ratio" C 2 [] spInit := ⟨f_init, d_init, _, [], ds2, GI, M, T.mC, b2, v2, fun _ => .nil⟩
  have mk1 : Kl P w K mg base "Ratio" C 2 [.int 1] spInit := ⟨f_init, d_init, _, [.int 1], ds1, GI, M, T.mC, b1, v1, fun _ => .cons (.int 1) .nil⟩
  have D_ptop : Pr P w K mg base C "top" 1 (sp1 C fun p => .int p.1) := ⟨p_ptop, f_ptop, d_ptop, _, ok_top (fun_s F_ptop) T, ⟨a_ptop, g_ptop, t_ptop, _, c_ptop⟩, b_ptop⟩
  have D_pbot : Pr P w K mg base C "bottom" 1 (sp1 C fun p => .int p.2) := ⟨p_pbot, f_pbot, d_pbot, _, ok_bot (fun_s F_pbot) T, ⟨a_pbot, g_pbot, t_pbot, _, c_pbot⟩, b_pbot⟩
  have V : Rt P w K mg base C := ⟨T, mk2, mk1, D_ptop, D_pbot⟩
  have D_ratof : Df P w K mg base "ratio_of" 4 1 (spRat C) := df_of (fun_s F_ratof) (ok_ratof (fun_s F_ratof) V) (PySem.W.mg_of X G a_ratof) b_ratof rfl
  have D_add : Sm P w K mg base C "__add__" 5 (spOp C fun p q => Ra C (addF p q)) := ⟨f_add, d_add, _, ok_add (fun_s F_add) V D_ratof, a_add, i_add, b_add⟩
  have D_radd : Sm P w K mg base C "__radd__" 6 (spOp C fun p q => Ra C (addF q p)) := ⟨f_radd, d_radd, _, ok_radd (fun_s F_radd) V D_ratof D_add, a_radd, i_radd, b_radd⟩
  have D_sub : Sm P w K mg base C "__sub__" 5 (spOp C fun p q => Ra C (subF p q)) := ⟨f_sub, d_sub, _, ok_sub (fun_s F_sub) V D_ratof, a_sub, i_sub, b_sub⟩
  have D_rsub : Sm P w K mg base C "__rsub__" 6 (spOp C fun p q => Ra C (subF q p)) := ⟨f_rsub, d_rsub, _, ok_rsub (fun_s F_rsub) V D_ratof D_sub, a_rsub, i_rsub, b_rsub⟩
  have D_mul : Sm P w K mg base C "__mul__" 5 (spOp C fun p q => Ra C (mulF p q)) := ⟨f_mul, d_mul, _, ok_mul (fun_s F_mul) V D_ratof, a_mul, i_mul, b_mul⟩
  have D_rmul : Sm P w K mg base C "__rmul__" 6 (spOp C fun p q => Ra C (mulF q p)) := ⟨f_rmul, d_rmul, _, ok_rmul (fun_s F_rmul) V D_ratof D_mul, a_rmul, i_rmul, b_rmul⟩
  have D_eq : Sm P w K mg base C "__eq__" 1 (spEq C) := ⟨f_eq, d_eq, _, ok_eq (fun_s F_eq) T, a_eq, i_eq, b_eq⟩
  have D_repr : Sm P w K mg base C "__repr__" 1 (sp1b C 1900 fun p => .str (reprF p)) := ⟨f_repr, d_repr, _, ok_repr (fun_s F_repr) T, a_repr, i_repr, b_repr⟩
  have V2 : Lv P w K mg base C := { V := V, ratof := D_ratof, isnum := D_isnum, add := D_add, radd := D_radd, sub := D_sub, rsub := D_rsub, mul := D_mul, rmul := D_rmul, eq := D_eq, repr := D_repr, la := ⟨_, la⟩, lm := ⟨_, lm⟩, ls := ⟨_, ls⟩ }
  have GT := ok_total2 (P := P) (w := w) (base := base) (fun_s F_total) V2 D_islist
  have D_total : Cm P w K mg base C "total" 7 (spTot C) := ⟨f_total, d_total, _, p_total, _, GT, ⟨m1, m2⟩, ⟨m3, ⟨_, m4⟩, m5⟩, b_total⟩
  have D_nums : Df P w K mg base "is_numbers" 3 2 (spNums C) := df_of (fun_s F_nums) (ok_nums (fun_s F_nums) V2 D_islist) (PySem.W.mg_of X G a_nums) b_nums rfl
  have D_ratios : Df P w K mg base "ratios_of" 5 1 (spRatios C) := df_of (fun_s F_ratios) (ok_ratios (fun_s F_ratios) V2) (PySem.W.mg_of X G a_ratios) b_ratios rfl
  have D_checkdir : Df P w K mg base "check_direction" 4 2 (spCheckDir C) := df_of (fun_s F_checkdir) (ok_checkdir (fun_s F_checkdir) D_nums) (PySem.W.mg_of X G a_checkdir) b_checkdir rfl
  have D_dot : Df P w K mg base "dotted" 8 2 (spDot C) := df_of (fun_s F_dot) (ok_dot (fun_s F_dot) V2 D_total) (PySem.W.mg_of X G a_dot) b_dot rfl
  have D_rrows : Df P w K mg base "ratio_rows" 6 1 (spRows C) := df_of (fun_s F_rrows) (ok_rows (fun_s F_rrows) D_ratios) (PySem.W.mg_of X G a_rrows) b_rrows rfl
  have GS := ok_table (P := P) (w := w) (base := base) (fun_s F_istab) V2 D_islist D_nums D_rrows ⟨_, PySem.W.mg_of X G z_rows⟩
  have D_istab : Df P w K mg base "is_table" 7 1 (spTable C) := df_of (fun_s F_istab) GS (PySem.W.mg_of X G a_istab) b_istab rfl
  have D_istabK : DfK P w K mg base "is_table" 7 ["value"] id (spTable C) := ⟨f_istab, d_istab, _, _, fun zs => zs, GS, PySem.W.mg_of X G a_istab, F_istab.kp, bIK, fun _ _ _ h => h⟩
  have D_checkt : Df P w K mg base "check_table" 8 1 (spCheckT C) := df_of (fun_s F_checkt) (ok_checkt (fun_s F_checkt) D_istab) (PySem.W.mg_of X G a_checkt) b_checkt rfl
  have GV := ok_val (P := P) (w := w) (base := base) (fun_s F_val) T D_checkt D_checkdir D_dot
  have D_val : Df P w K mg base "value_at" 9 3 (spVal C) := df_of (fun_s F_val) GV (PySem.W.mg_of X G a_val) b_val rfl
  have D_valK : DfK P w K mg base "value_at" 9 ["second", "first", "table"] List.reverse (spVal C) := ⟨f_val, d_val, _, _, List.reverse, GV, PySem.W.mg_of X G a_val, F_val.kp, bVK, fun _ _ _ h => paired_rev h⟩
  have D_draw : Df P w K mg base "_law_draw" 1 2 spDraw := df_of (fun_s F_draw) (ok_draw (fun_s F_draw) T) (PySem.W.mg_of X G a_draw) b_draw rfl
  have D_pick : Df P w K mg base "_law_pick" 2 2 spPick := df_of (fun_s F_pick) (ok_pick (fun_s F_pick) T D_draw) (PySem.W.mg_of X G a_pick) b_pick rfl
  have D_small : Df P w K mg base "_law_small" 4 2 (spSmall C) := df_of (fun_s F_small) (ok_small (fun_s F_small) V D_draw D_pick) (PySem.W.mg_of X G a_small) b_small rfl
  have D_more : Df P w K mg base "_law_more" 7 3 (spMore C) := df_of (fun_s F_more) (ok_more (fun_s F_more) V2) (PySem.W.mg_of X G a_more) b_more rfl
  have D_ltab : Df P w K mg base "_law_table" 8 2 (spTab C) := df_of (fun_s F_ltab) (ok_tab (fun_s F_ltab) V D_draw D_small D_more) (PySem.W.mg_of X G a_ltab) b_ltab rfl
  have D_handed : Df P w K mg base "_law_handed" 3 2 (spHanded C) := df_of (fun_s F_handed) (ok_handed (fun_s F_handed) V D_draw) (PySem.W.mg_of X G a_handed) b_handed rfl
  have D_given : Df P w K mg base "_law_given" 4 2 (spGiven C) := df_of (fun_s F_given) (ok_given (fun_s F_given) T D_draw D_handed) (PySem.W.mg_of X G a_given) b_given rfl
  have D_lnum : Df P w K mg base "_law_is_number" 1 1 (spB C isN) := df_of (fun_s F_lnum) (ok_lnum (fun_s F_lnum) T) (PySem.W.mg_of X G a_lnum) b_lnum rfl
  have D_looks : Df P w K mg base "_law_looks" 7 1 (spLooks C) := df_of (fun_s F_looks) (ok_looks (fun_s F_looks) V2 D_lnum) (PySem.W.mg_of X G a_looks) b_looks rfl
  have D_bent : Df P w K mg base "_law_bent" 7 2 (spBent C) := df_of (fun_s F_bent) (ok_bent (fun_s F_bent) V2 D_draw D_pick) (PySem.W.mg_of X G a_bent) b_bent rfl
  have D_sum : Df P w K mg base "_law_sum" 7 3 (spSum C) := df_of (fun_s F_sum) (ok_sum (fun_s F_sum) V2) (PySem.W.mg_of X G a_sum) b_sum rfl
  have D_llist : Df P w K mg base "_law_list" 5 2 (spList C) := df_of (fun_s F_llist) (ok_list (fun_s F_llist) V D_draw D_pick D_small) (PySem.W.mg_of X G a_llist) b_llist rfl
  have W : Lw P w K mg base C := { L := V2, draw := D_draw, table := D_ltab, given := D_given, handed := D_handed, list := D_llist, sum := D_sum, bent := D_bent, looks := D_looks, isT := D_istab, isTK := D_istabK, val := D_val, valK := D_valK }
  have D_right : Df P w K mg base "_law_right" 10 1 spRight := df_of (fun_s F_right) (ok_right (fun_s F_right) W) (PySem.W.mg_of X G a_right) b_right rfl
  have D_pot : Nf P w K mg base "_law_pot" 1 spPot := ⟨f_pot, d_pot, _, ok_pot (fun_s F_pot) T, PySem.W.mg_of X G a_pot, F_pot.kp, b_pot⟩
  exact ok_law (fun_s F_law) T (PySem.W.mg_none_of X G z_min) D_pot D_right
end K31

set_option Elab.async false
open PySem PySem.W PyProof.Rows
set_option maxRecDepth 100000 in
set_option maxHeartbeats 0 in
theorem PySem.Challenge.cw_onecrest_k31_tables_by_plain_sums_holds : PySem.Challenge.rw_onecrest_k31_tables_by_plain_sums.Holds := by
  w_on; o_law; k_head; (case hw => w_witness2)
  k_fill
  refine DL.walk_gn (l := PySem.Challenge.rw_onecrest_k31_tables_by_plain_sums) (n := 63) (k := 11) (x := "_law_script") (sp := fun w => DL.lift _ K31.spLaw) rfl (by decide) rfl ⟨rfl, by decide, by decide⟩ (fun w h Y => PySem.W.kIn_of Y) ?F (fun _ H a ns _ hS => K31.law_gives H a ns hS)
  case F =>
    intro w mg fa h KX G hmg
    refine' K31.lw_mk KX G hmg ?aC ?a_isint ?F_isint ?a_islist ?F_islist ?a_isnum ?F_isnum ?a_nums ?F_nums ?a_ratof ?F_ratof ?a_ratios ?F_ratios ?a_checkdir ?F_checkdir ?a_istab ?F_istab ?a_checkt ?F_checkt ?a_rrows ?F_rrows ?a_val ?F_val ?a_dot ?F_dot ?a_pot ?F_pot ?a_draw ?F_draw ?a_pick ?F_pick ?a_small ?F_small ?a_more ?F_more ?a_ltab ?F_ltab ?a_handed ?F_handed ?a_given ?F_given ?a_lnum ?F_lnum ?a_looks ?F_looks ?a_bent ?F_bent ?a_sum ?F_sum ?a_llist ?F_llist ?a_right ?F_right ?a_law ?F_law ?a_init ?i_init ?F_init ?a_add ?i_add ?F_add ?a_radd ?i_radd ?F_radd ?a_sub ?i_sub ?F_sub ?a_rsub ?i_rsub ?F_rsub ?a_mul ?i_mul ?F_mul ?a_rmul ?i_rmul ?F_rmul ?a_eq ?i_eq ?F_eq ?a_repr ?i_repr ?F_repr ?a_ptop ?g_ptop ?t_ptop ?c_ptop ?F_ptop ?a_pbot ?g_pbot ?t_pbot ?c_pbot ?F_pbot ?m1 ?m2 ?m3 ?m4 ?m5 ?F_total ?pg ?hd ?po ?sa ?mk ?kc ?nT ?nB ?ne ?sf ?nf ?ni ?sub_is ?sub_ob ?sub_li ?sub_tu ?ca ?cn ?ct ?cm ?tyC ?s_NoneType ?s_bool ?s_str ?s_tuple ?s_list ?s_int ?s_dict ?la ?lm ?ls ?z_gcd ?z_rows ?z_isinstance ?z_int ?z_bool ?z_list ?z_tuple ?z_abs ?z_len ?z_max ?z_divmod ?z_str ?z_repr ?z_range ?z_all ?z_zip ?z_min
    (case aC => k_is)
    (case a_isint => k_is)
    (case F_isint => (refine' ⟨_, L2.fun_mk ?l ?c ?k⟩; (case l => k_is); (case c => k_is); (case k => k_is)))
    (case a_islist => k_is)
    (case F_islist => (refine' ⟨_, L2.fun_mk ?l ?c ?k⟩; (case l => k_is); (case c => k_is); (case k => k_is)))
    (case a_isnum => k_is)
    (case F_isnum => (refine' ⟨_, L2.fun_mk ?l ?c ?k⟩; (case l => k_is); (case c => k_is); (case k => k_is)))
    (case a_nums => k_is)
    (case F_nums => (refine' ⟨_, L2.fun_mk ?l ?c ?k⟩; (case l => k_is); (case c => k_is); (case k => k_is)))
    (case a_ratof => k_is)
    (case F_ratof => (refine' ⟨_, L2.fun_mk ?l ?c ?k⟩; (case l => k_is); (case c => k_is); (case k => k_is)))
    (case a_ratios => k_is)
    (case F_ratios => (refine' ⟨_, L2.fun_mk ?l ?c ?k⟩; (case l => k_is); (case c => k_is); (case k => k_is)))
    (case a_checkdir => k_is)
    (case F_checkdir => (refine' ⟨_, L2.fun_mk ?l ?c ?k⟩; (case l => k_is); (case c => k_is); (case k => k_is)))
    (case a_istab => k_is)
    (case F_istab => (refine' ⟨_, L2.fun_mk ?l ?c ?k⟩; (case l => k_is); (case c => k_is); (case k => k_is)))
    (case a_checkt => k_is)
    (case F_checkt => (refine' ⟨_, L2.fun_mk ?l ?c ?k⟩; (case l => k_is); (case c => k_is); (case k => k_is)))
    (case a_rrows => k_is)
    (case F_rrows => (refine' ⟨_, L2.fun_mk ?l ?c ?k⟩; (case l => k_is); (case c => k_is); (case k => k_is)))
    (case a_val => k_is)
    (case F_val => (refine' ⟨_, L2.fun_mk ?l ?c ?k⟩; (case l => k_is); (case c => k_is); (case k => k_is)))
    (case a_dot => k_is)
    (case F_dot => (refine' ⟨_, L2.fun_mk ?l ?c ?k⟩; (case l => k_is); (case c => k_is); (case k => k_is)))
    (case a_pot => k_is)
    (case F_pot => (refine' ⟨_, L2.fun_mk ?l ?c ?k⟩; (case l => k_is); (case c => k_is); (case k => k_is)))
    (case a_draw => k_is)
    (case F_draw => (refine' ⟨_, L2.fun_mk ?l ?c ?k⟩; (case l => k_is); (case c => k_is); (case k => k_is)))
    (case a_pick => k_is)
    (case F_pick => (refine' ⟨_, L2.fun_mk ?l ?c ?k⟩; (case l => k_is); (case c => k_is); (case k => k_is)))
    (case a_small => k_is)
    (case F_small => (refine' ⟨_, L2.fun_mk ?l ?c ?k⟩; (case l => k_is); (case c => k_is); (case k => k_is)))
    (case a_more => k_is)
    (case F_more => (refine' ⟨_, L2.fun_mk ?l ?c ?k⟩; (case l => k_is); (case c => k_is); (case k => k_is)))
    (case a_ltab => k_is)
    (case F_ltab => (refine' ⟨_, L2.fun_mk ?l ?c ?k⟩; (case l => k_is); (case c => k_is); (case k => k_is)))
    (case a_handed => k_is)
    (case F_handed => (refine' ⟨_, L2.fun_mk ?l ?c ?k⟩; (case l => k_is); (case c => k_is); (case k => k_is)))
    (case a_given => k_is)
    (case F_given => (refine' ⟨_, L2.fun_mk ?l ?c ?k⟩; (case l => k_is); (case c => k_is); (case k => k_is)))
    (case a_lnum => k_is)
    (case F_lnum => (refine' ⟨_, L2.fun_mk ?l ?c ?k⟩; (case l => k_is); (case c => k_is); (case k => k_is)))
    (case a_looks => k_is)
    (case F_looks => (refine' ⟨_, L2.fun_mk ?l ?c ?k⟩; (case l => k_is); (case c => k_is); (case k => k_is)))
    (case a_bent => k_is)
    (case F_bent => (refine' ⟨_, L2.fun_mk ?l ?c ?k⟩; (case l => k_is); (case c => k_is); (case k => k_is)))
    (case a_sum => k_is)
    (case F_sum => (refine' ⟨_, L2.fun_mk ?l ?c ?k⟩; (case l => k_is); (case c => k_is); (case k => k_is)))
    (case a_llist => k_is)
    (case F_llist => (refine' ⟨_, L2.fun_mk ?l ?c ?k⟩; (case l => k_is); (case c => k_is); (case k => k_is)))
    (case a_right => k_is)
    (case F_right => (refine' ⟨_, L2.fun_mk ?l ?c ?k⟩; (case l => k_is); (case c => k_is); (case k => k_is)))
    (case a_law => k_is)
    (case F_law => (refine' ⟨_, L2.fun_mk ?l ?c ?k⟩; (case l => k_is); (case c => k_is); (case k => k_is)))
    (case a_init => k_is)
    (case i_init => k_is)
    (case F_init => (refine' ⟨_, K31.fund1 ?l ?c ?k ?t⟩; (case l => k_is); (case c => k_is); (case k => k_is); (case t => k_is)))
    (case a_add => k_is)
    (case i_add => k_is)
    (case F_add => (refine' ⟨_, L2.fun_mk ?l ?c ?k⟩; (case l => k_is); (case c => k_is); (case k => k_is)))
    (case a_radd => k_is)
    (case i_radd => k_is)
    (case F_radd => (refine' ⟨_, L2.fun_mk ?l ?c ?k⟩; (case l => k_is); (case c => k_is); (case k => k_is)))
    (case a_sub => k_is)
    (case i_sub => k_is)
    (case F_sub => (refine' ⟨_, L2.fun_mk ?l ?c ?k⟩; (case l => k_is); (case c => k_is); (case k => k_is)))
    (case a_rsub => k_is)
    (case i_rsub => k_is)
    (case F_rsub => (refine' ⟨_, L2.fun_mk ?l ?c ?k⟩; (case l => k_is); (case c => k_is); (case k => k_is)))
    (case a_mul => k_is)
    (case i_mul => k_is)
    (case F_mul => (refine' ⟨_, L2.fun_mk ?l ?c ?k⟩; (case l => k_is); (case c => k_is); (case k => k_is)))
    (case a_rmul => k_is)
    (case i_rmul => k_is)
    (case F_rmul => (refine' ⟨_, L2.fun_mk ?l ?c ?k⟩; (case l => k_is); (case c => k_is); (case k => k_is)))
    (case a_eq => k_is)
    (case i_eq => k_is)
    (case F_eq => (refine' ⟨_, L2.fun_mk ?l ?c ?k⟩; (case l => k_is); (case c => k_is); (case k => k_is)))
    (case a_repr => k_is)
    (case i_repr => k_is)
    (case F_repr => (refine' ⟨_, L2.fun_mk ?l ?c ?k⟩; (case l => k_is); (case c => k_is); (case k => k_is)))
    (case a_ptop => k_is)
    (case g_ptop => k_is)
    (case t_ptop => k_is)
    (case c_ptop => k_is)
    (case F_ptop => (refine' ⟨_, L2.fun_mk ?l ?c ?k⟩; (case l => k_is); (case c => k_is); (case k => k_is)))
    (case a_pbot => k_is)
    (case g_pbot => k_is)
    (case t_pbot => k_is)
    (case c_pbot => k_is)
    (case F_pbot => (refine' ⟨_, L2.fun_mk ?l ?c ?k⟩; (case l => k_is); (case c => k_is); (case k => k_is)))
    (case m1 => k_is)
    (case m2 => k_is)
    (case m3 => k_is)
    (case m4 => k_is)
    (case m5 => k_is)
    (case F_total => (refine' ⟨_, L2.fun_mk ?l ?c ?k⟩; (case l => k_is); (case c => k_is); (case k => k_is)))
    (case pg => k_is)
    (case hd => k_is)
    (case po => k_is)
    (case sa => k_is)
    (case mk => k_is)
    (case kc => k_is)
    (case nT => k_is)
    (case nB => k_is)
    (case ne => k_is)
    (case sf => k_is)
    (case nf => k_is)
    (case ni => k_is)
    (case sub_is => k_is)
    (case sub_ob => k_is)
    (case sub_li => k_is)
    (case sub_tu => k_is)
    (case ca => k_is)
    (case cn => k_is)
    (case ct => k_is)
    (case cm => k_is)
    (case tyC => k_is)
    (case s_NoneType => k_is)
    (case s_bool => k_is)
    (case s_str => k_is)
    (case s_tuple => k_is)
    (case s_list => k_is)
    (case s_int => k_is)
    (case s_dict => k_is)
    (case la => k_is)
    (case lm => k_is)
    (case ls => k_is)
    (case z_gcd => k_is)
    (case z_rows => k_is)
    (case z_isinstance => k_is)
    (case z_int => k_is)
    (case z_bool => k_is)
    (case z_list => k_is)
    (case z_tuple => k_is)
    (case z_abs => k_is)
    (case z_len => k_is)
    (case z_max => k_is)
    (case z_divmod => k_is)
    (case z_str => k_is)
    (case z_repr => k_is)
    (case z_range => k_is)
    (case z_all => k_is)
    (case z_zip => k_is)
    (case z_min => k_is)

