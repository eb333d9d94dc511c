import PyProof.Rows.All
import Wide.All
import OpenK.AllK
import Wide.FinOn
import HandS.ForMost
import HandS.IsInst
import HandS.Gcd
import HandS.StrMore
import HandS.TupAny
import HandS.Defaults
import HandS.Style
import HandS.ExcInit
import HandS.ExcField
import HandS.Lambda
import HandS.EndTab
import HandS.More
import HandS.DictComp
import PyProof.ListStr
import HandS.HotCalls
import KE.KTryMore
import HandS.WordsExc
import HandS.Deep
import KE.KNestM
import HandS.CallRecv
import PySem.Challenge.RW_stucklots_k02_rounds_told
set_option Elab.async false
set_option linter.all false
set_option maxRecDepth 100000
set_option maxHeartbeats 8000000
/-! A layer of plain data over HandS: what a value stands for (Dd), a heap of two parts (what is frozen: G; all: H), the box of draws at B, and a calculus of readings by data alone (WE, WT, WA, WS). -/
namespace Dl
open PySem L2
/-- the box's address; the tables of code objects -/
structure Bt where
  a : Addr
  T : List (Addr × Str)
/-- the object of an exception, its class, its dict -/
def xo (a C d : Addr) : HO := .ext fun h => ∃ (oe : Obj) (vs : Array Value), h.get? a = some oe ∧ oe.cls = .ref C ∧ oe.dict = some d ∧ oe.data = .fields vs
inductive D where
  | non | bl (b : Bool) | int (i : Int) | str (z : Str) | tup (xs : List D) | lst (xs : List D) | dic (ks : List Key) (xs : List D) | cls (n : String) | box | exn (C : Addr) (ks : List Str) (xs : List D)
mutual
inductive Dd (K : PySem.W.Frag) (B : Bt) (G : Hp) : V → D → Prop
  | non : Dd K B G .non .non
  | bl (b : Bool) : Dd K B G (.bl b) (.bl b)
  | int (i : Int) : Dd K B G (.int i) (.int i)
  | str (z : Str) : Dd K B G (.str z) (.str z)
  | tup {a : Addr} {vs : List V} {ds : List D} : G a = some (.tup vs) → Dds K B G vs ds → Dd K B G (.ref a) (.tup ds)
  | lst {a : Addr} {vs : List V} {ds : List D} : G a = some (.lst vs) → Dds K B G vs ds → Dd K B G (.ref a) (.lst ds)
  | dic {a : Addr} {kvs : List (Key × V)} {ds : List D} : G a = some (.dK kvs) → Dds K B G (kvs.map (·.2)) ds → Dd K B G (.ref a) (.dic (kvs.map (·.1)) ds)
  | cls (n : String) : Dd K B G (.ty n) (.cls n)
  | box : Dd K B G (.ref B.a) .box
  | exn {a C d : Addr} {fs : List (Str × V)} {ds : List D} : G a = some (xo a C d) → G d = some (.xd fs) → Dds K B G (fs.map (·.2)) ds → Dd K B G (.ref a) (.exn C (fs.map (·.1)) ds)
inductive Dds (K : PySem.W.Frag) (B : Bt) (G : Hp) : List V → List D → Prop
  | nil : Dds K B G [] []
  | cons {v : V} {vs : List V} {d : D} {ds : List D} : Dd K B G v d → Dds K B G vs ds → Dds K B G (v :: vs) (d :: ds)
end
section
variable {K : PySem.W.Frag} {B : Bt} {G G1 G2 H H1 H2 : Hp}
mutual
theorem Dd.mono (s : Same G G1) : ∀ {v : V} {d : D}, Dd K B G v d → Dd K B G1 v d
  | _, _, .non => .non
  | _, _, .bl b => .bl b
  | _, _, .int i => .int i
  | _, _, .str z => .str z
  | _, _, .tup h t => .tup (s _ _ h) (Dds.mono s t)
  | _, _, .lst h t => .lst (s _ _ h) (Dds.mono s t)
  | _, _, .dic h t => .dic (s _ _ h) (Dds.mono s t)
  | _, _, .cls n => .cls n
  | _, _, .box => .box
  | _, _, .exn h h' t => .exn (s _ _ h) (s _ _ h') (Dds.mono s t)
theorem Dds.mono (s : Same G G1) : ∀ {vs : List V} {ds : List D}, Dds K B G vs ds → Dds K B G1 vs ds
  | _, _, .nil => .nil
  | _, _, .cons h t => .cons (Dd.mono s h) (Dds.mono s t)
end
theorem Dds.length : ∀ {vs : List V} {ds : List D}, Dds K B G vs ds → vs.length = ds.length
  | _, _, .nil => rfl
  | _, _, .cons _ t => by rw [List.length_cons, List.length_cons, Dds.length t]
theorem Dds.get : ∀ {vs : List V} {ds : List D} {i : Nat} {d : D}, Dds K B G vs ds → ds[i]? = some d → ∃ v, vs[i]? = some v ∧ Dd K B G v d
  | _, _, _, _, .nil, e => by simp at e
  | _, _, 0, _, .cons h _, e => by simp at e; subst e; exact ⟨_, rfl, h⟩
  | _, _, i + 1, d, .cons _ t, e => by
    obtain ⟨v, h1, h2⟩ := Dds.get (i := i) (d := d) t (by simpa using e)
    exact ⟨v, by simpa using h1, h2⟩
theorem Dds.get' : ∀ {vs : List V} {ds : List D} {i : Nat} {v : V}, Dds K B G vs ds → vs[i]? = some v → ∃ d, ds[i]? = some d ∧ Dd K B G v d
  | _, _, _, _, .nil, e => by simp at e
  | _, _, 0, _, .cons h _, e => by simp at e; subst e; exact ⟨_, rfl, h⟩
  | _, _, i + 1, v, .cons _ t, e => by
    obtain ⟨d, h1, h2⟩ := Dds.get' (i := i) (v := v) t (by simpa using e)
    exact ⟨d, by simpa using h1, h2⟩
theorem Dds.append : ∀ {vs ws : List V} {ds es : List D}, Dds K B G vs ds → Dds K B G ws es → Dds K B G (vs ++ ws) (ds ++ es)
  | _, _, _, _, .nil, q => q
  | _, _, _, _, .cons h t, q => .cons h (Dds.append t q)
theorem Dds.take : ∀ (n : Nat) {vs : List V} {ds : List D}, Dds K B G vs ds → Dds K B G (vs.take n) (ds.take n)
  | 0, _, _, _ => .nil
  | _ + 1, _, _, .nil => .nil
  | n + 1, _, _, .cons h t => .cons h (Dds.take n t)
theorem Dds.drop : ∀ (n : Nat) {vs : List V} {ds : List D}, Dds K B G vs ds → Dds K B G (vs.drop n) (ds.drop n)
  | 0, _, _, t => t
  | _ + 1, _, _, .nil => .nil
  | n + 1, _, _, .cons _ t => Dds.drop n t
theorem Dds.rev {vs : List V} {ds : List D} (h : Dds K B G vs ds) : Dds K B G vs.reverse ds.reverse := by
  induction vs generalizing ds with
  | nil => cases h; exact .nil
  | cons v vs ih =>
    cases h with
    | cons a t => rw [List.reverse_cons, List.reverse_cons]; exact (ih t).append (.cons a .nil)
theorem Dds.ints : ∀ {vs : List V} {ns : List Int}, Dds K B G vs (ns.map D.int) → vs = ns.map V.int
  | _, [], .nil => rfl
  | _, _ :: _, .cons h t => by cases h; rw [Dds.ints t]; rfl
theorem Dds.bls : ∀ {vs : List V} {ns : List Bool}, Dds K B G vs (ns.map D.bl) → vs = ns.map V.bl
  | _, [], .nil => rfl
  | _, _ :: _, .cons h t => by cases h; rw [Dds.bls t]; rfl
theorem Dds.strs : ∀ {vs : List V} {ns : List Str}, Dds K B G vs (ns.map D.str) → vs = ns.map V.str
  | _, [], .nil => rfl
  | _, _ :: _, .cons h t => by cases h; rw [Dds.strs t]; rfl
theorem Dds.repl {vs : List V} {ds : List D} (h : Dds K B G vs ds) : ∀ n : Nat, Dds K B G (List.replicate n vs).flatten (List.replicate n ds).flatten
  | 0 => .nil
  | n + 1 => by
    rw [List.replicate_succ, List.replicate_succ, List.flatten_cons, List.flatten_cons]
    exact h.append (Dds.repl h n)

/-! ### the box, the state -/
def Bx (G H : Hp) (B : Addr) : Prop := ∃ (c : Addr) (cells : List Int) (p r m n : Int), H B = some (.lst [.ref c, .int p, .int r, .int m, .int n]) ∧ G c = some (.lst (cells.map V.int)) ∧ cells.length ≤ 63 ∧ 0 ≤ p ∧ 0 ≤ r ∧ 0 ≤ m ∧ m < 2147483587 ∧ 0 ≤ n
/-- no table -/
def nt (o : HO) : Prop := ∀ ps, o ≠ .tbl ps
theorem nt_lst {xs : List V} : nt (.lst xs) := fun _ z => nomatch z
theorem nt_tup {xs : List V} : nt (.tup xs) := fun _ z => nomatch z
structure Go (B : Bt) (G H G1 H1 : Hp) : Prop where
  s : Same G G1
  k : ∀ a o, a ≠ B.a → nt o → H a = some o → H1 a = some o
  n : ∀ a o, nt o → H a = some o → G a = none → G1 a = none
  c : ∀ c r, H B.a = some (.lst (.ref c :: r)) → ∃ r', H1 B.a = some (.lst (.ref c :: r'))
structure Ok (B : Bt) (G H : Hp) : Prop where
  u : Same G H
  b : G B.a = none
  x : Bx G H B.a
  t : LamX.Tabs B.T H
  f : ∀ a o, G a = some o → nt o
theorem Ok.hb (o : Ok B G H) : H B.a ≠ none := by
  obtain ⟨_, _, _, _, _, _, e, _⟩ := o.x
  rw [e]; exact fun z => nomatch z
theorem Go.refl : Go B G H G H := ⟨Same.refl G, fun _ _ _ _ h => h, fun _ _ _ _ h => h, fun _ r h => ⟨r, h⟩⟩
theorem Go.trans (o : Ok B G1 H1) (a : Go B G H G1 H1) (b : Go B G1 H1 G2 H2) : Go B G H G2 H2 :=
  ⟨a.s.trans b.s, fun x u ne ht h => b.k x u ne ht (a.k x u ne ht h), fun x u ht h g => by
    by_cases e : x = B.a
    · obtain ⟨_, _, _, _, _, _, e2, _⟩ := o.x
      exact b.n x _ nt_lst (by rw [e]; exact e2) (a.n x u ht h g)
    · exact b.n x u ht (a.k x u e ht h) (a.n x u ht h g), fun c r h => by
    obtain ⟨r', h'⟩ := a.c c r h
    exact b.c c r' h'⟩
theorem Ok.fresh (o : Ok B G H) {p : Addr} (h : H p = none) : G p = none := by
  cases q : G p with
  | none => rfl
  | some u => rw [o.u p u q] at h; cases h
theorem Ok.neB (o : Ok B G H) {p : Addr} (h : H p = none) : p ≠ B.a := fun e => o.hb (e ▸ h)
theorem same_upd {p : Addr} {o : HO} (h : H p = none) : Same H (upd H p o) := fun b x e => by
  rw [upd_ne (ne_of_none e h)]; exact e
theorem upd_some {p a : Addr} {o : HO} (h : H a ≠ none) : upd H p o a ≠ none := by
  by_cases e : a = p
  · rw [e, upd_same]; exact fun z => nomatch z
  · rw [upd_ne e]; exact h
/-- a new object, frozen -/
theorem new_go (o : Ok B G H) {p : Addr} {x : HO} (h : H p = none) : Go B G H (upd G p x) (upd H p x) := by
  refine ⟨same_upd (o.fresh h), fun a u _ _ e => same_upd h a u e, fun a u _ ha hg => ?_, fun c r e => ⟨r, same_upd h _ _ e⟩⟩
  by_cases e : a = p
  · rw [e, h] at ha; cases ha
  · rw [upd_ne e]; exact hg
theorem new_ok (o : Ok B G H) {p : Addr} {x : HO} (hx : nt x) (h : H p = none) : Ok B (upd G p x) (upd H p x) := by
  have nb := o.neB h
  refine ⟨fun a u e => ?_, by rw [upd_ne nb.symm]; exact o.b, ?_, o.t.ext fun b u e => same_upd h b u e, fun a u e => ?_⟩
  · by_cases q : a = p
    · rw [q, upd_same] at e ⊢; exact e
    · rw [upd_ne q] at e ⊢; exact o.u a u e
  · obtain ⟨c, cells, p', r, m, n, e, g, w⟩ := o.x
    exact ⟨c, cells, p', r, m, n, by rw [upd_ne nb.symm]; exact e, same_upd (o.fresh h) _ _ g, w⟩
  · by_cases q : a = p
    · rw [q, upd_same] at e; cases e; exact hx
    · rw [upd_ne q] at e; exact o.f a u e
/-- a new object, not frozen -/
theorem loose_go (o : Ok B G H) {p : Addr} {x : HO} (h : H p = none) : Go B G H G (upd H p x) := ⟨Same.refl G, fun a u _ _ e => same_upd h a u e, fun _ _ _ _ g => g, fun c r e => ⟨r, same_upd h _ _ e⟩⟩
theorem loose_ok (o : Ok B G H) {p : Addr} {x : HO} (h : H p = none) : Ok B G (upd H p x) := by
  have nb := o.neB h
  refine ⟨fun a u e => same_upd h _ _ (o.u a u e), o.b, ?_, o.t.ext fun b u e => same_upd h b u e, o.f⟩
  obtain ⟨c, cells, p', r, m, n, e, g, w⟩ := o.x
  exact ⟨c, cells, p', r, m, n, by rw [upd_ne nb.symm]; exact e, g, w⟩
/-- a list is written: the tables stand -/
theorem tabs_upd {T : List (Addr × Str)} {p : Addr} {ys : List V} {x : HO} (t : LamX.Tabs T H) (hp : H p = some (.lst ys)) : LamX.Tabs T (upd H p x) := fun q hq => by
  obtain ⟨ps, h1, h2, h3⟩ := t q hq
  refine ⟨ps, by rw [upd_ne (fun e => by rw [e, hp] at h1; cases h1)]; exact h1, h2, fun pos cv hc => ?_⟩
  obtain ⟨c, e1, e2⟩ := h3 pos cv hc
  refine ⟨c, e1, ?_⟩
  rw [upd_ne (fun e => by
    rw [e, hp] at e2
    have e3 : HO.lst ys = LamX.CodeO p q.2 := Option.some.inj e2
    unfold LamX.CodeO at e3
    cases e3)]
  exact e2
/-- an object that is not frozen is written -/
theorem write_ok (o : Ok B G H) {p : Addr} {ys : List V} {x : HO} (hp : H p = some (.lst ys)) (g : G p = none) (nb : p ≠ B.a) : Ok B G (upd H p x) := by
  refine ⟨fun a u e => ?_, o.b, ?_, tabs_upd o.t hp, o.f⟩
  · rw [upd_ne (ne_of_none e g)]; exact o.u a u e
  obtain ⟨c, cells, p', r, m, n, e, g', w⟩ := o.x
  exact ⟨c, cells, p', r, m, n, by rw [upd_ne nb.symm]; exact e, g', w⟩
/-- .. is frozen -/
theorem freeze_ok (o : Ok B G H) {p : Addr} {x : HO} (hx : nt x) (nb : p ≠ B.a) (g : G p = none) (h : H p = some x) : Ok B (upd G p x) H := by
  refine ⟨fun a u e => ?_, by rw [upd_ne nb.symm]; exact o.b, ?_, o.t, fun a u e => ?_⟩
  · by_cases q : a = p
    · rw [q, upd_same] at e; rw [q, h]; exact e
    · rw [upd_ne q] at e; exact o.u a u e
  · obtain ⟨c, cells, p', r, m, n, e, g', w⟩ := o.x
    exact ⟨c, cells, p', r, m, n, e, same_upd g _ _ g', w⟩
  · by_cases q : a = p
    · rw [q, upd_same] at e; cases e; exact hx
    · rw [upd_ne q] at e; exact o.f a u e

inductive Sd where
  | no | val (d : D) | own (ds : List D)
structure Stt (K : PySem.W.Frag) (B : Bt) (G0 H0 G H : Hp) (σ : St) (δ : List Sd) : Prop where
  go : Go B G0 H0 G H
  ok : Ok B G H
  len : σ.length = δ.length
  val : ∀ (i : Nat) d, δ[i]? = some (.val d) → ∃ v, σ[i]? = some (some v) ∧ Dd K B G v d
  own : ∀ (i : Nat) ds, δ[i]? = some (.own ds) → ∃ a vs, σ[i]? = some (some (.ref a)) ∧ a ≠ B.a ∧ (∀ o, nt o → H0 a ≠ some o) ∧ G a = none ∧ H a = some (.lst vs) ∧ Dds K B G vs ds
  apart : ∀ (i j : Nat) ds es a, δ[i]? = some (.own ds) → δ[j]? = some (.own es) → σ[i]? = some (some (.ref a)) → σ[j]? = some (some (.ref a)) → i = j
theorem Stt.on {G0 H0 : Hp} {σ : St} {δ : List Sd} (s : Stt K B G0 H0 G H σ δ) (g : Go B G H G1 H1) (o : Ok B G1 H1) : Stt K B G0 H0 G1 H1 σ δ := by
  refine ⟨s.go.trans s.ok g, o, s.len, fun i d e => ?_, fun i ds e => ?_, s.apart⟩
  · obtain ⟨v, h, q⟩ := s.val i d e
    exact ⟨v, h, q.mono g.s⟩
  · obtain ⟨a, vs, h, nb, f, ga, ha, q⟩ := s.own i ds e
    exact ⟨a, vs, h, nb, f, g.n a _ nt_lst ha ga, g.k a _ nb nt_lst ha, q.mono g.s⟩
theorem Stt.setVal {G0 H0 : Hp} {σ : St} {δ : List Sd} {v : V} {d : D} (s : Stt K B G0 H0 G H σ δ) (i : Nat) (q : Dd K B G v d) : Stt K B G0 H0 G H (σ.set i (some v)) (δ.set i (.val d)) := by
  refine ⟨s.go, s.ok, by rw [List.length_set, List.length_set, s.len], fun j e h => ?_, fun j ds h => ?_, fun j l ds es a h1 h2 h3 h4 => ?_⟩
  · rw [List.getElem?_set] at h
    by_cases ij : i = j
    · rw [if_pos ij] at h
      split at h
      · rename_i hl
        cases h
        refine ⟨v, ?_, q⟩
        rw [List.getElem?_set, if_pos ij, if_pos (by rw [s.len]; exact hl)]
      · cases h
    · rw [if_neg ij] at h
      obtain ⟨w, h1, h2⟩ := s.val j e h
      exact ⟨w, by rw [List.getElem?_set, if_neg ij]; exact h1, h2⟩
  · rw [List.getElem?_set] at h
    by_cases ij : i = j
    · rw [if_pos ij] at h
      split at h <;> cases h
    · rw [if_neg ij] at h
      obtain ⟨a, vs, h1, h2⟩ := s.own j ds h
      exact ⟨a, vs, by rw [List.getElem?_set, if_neg ij]; exact h1, h2⟩
  · rw [List.getElem?_set] at h1 h2 h3 h4
    by_cases ij : i = j
    · rw [if_pos ij] at h1; split at h1 <;> cases h1
    · by_cases il : i = l
      · rw [if_pos il] at h2; split at h2 <;> cases h2
      · rw [if_neg ij] at h1 h3
        rw [if_neg il] at h2 h4
        exact s.apart j l ds es a h1 h2 h3 h4
theorem Stt.wipe1 {G0 H0 : Hp} {σ : St} {δ : List Sd} (s : Stt K B G0 H0 G H σ δ) (i : Nat) : Stt K B G0 H0 G H (σ.set i none) (δ.set i .no) := by
  refine ⟨s.go, s.ok, by rw [List.length_set, List.length_set, s.len], fun j e h => ?_, fun j ds h => ?_, fun j l ds es a h1 h2 h3 h4 => ?_⟩
  · rw [List.getElem?_set] at h
    by_cases ij : i = j
    · rw [if_pos ij] at h; split at h <;> cases h
    · rw [if_neg ij] at h
      obtain ⟨w, h1, h2⟩ := s.val j e h
      exact ⟨w, by rw [List.getElem?_set, if_neg ij]; exact h1, h2⟩
  · rw [List.getElem?_set] at h
    by_cases ij : i = j
    · rw [if_pos ij] at h; split at h <;> cases h
    · rw [if_neg ij] at h
      obtain ⟨a, vs, h1, h2⟩ := s.own j ds h
      exact ⟨a, vs, by rw [List.getElem?_set, if_neg ij]; exact h1, h2⟩
  · rw [List.getElem?_set] at h1 h2 h3 h4
    by_cases ij : i = j
    · rw [if_pos ij] at h1; split at h1 <;> cases h1
    · by_cases il : i = l
      · rw [if_pos il] at h2; split at h2 <;> cases h2
      · rw [if_neg ij] at h1 h3
        rw [if_neg il] at h2 h4
        exact s.apart j l ds es a h1 h2 h3 h4
end

/-! ### the judgements -/
/-- what is wished of an exception: how it goes on, and what is due of it, by the slots, its class, its fields -/
structure Xc where
  W : WX := fun _ _ _ _ => False
  ex : List Sd → Addr → List Str → List D → Prop := fun _ _ _ _ => False
section
variable (K : PySem.W.Frag) (B : Bt)
/-- at d: an exception's dict with such fields -/
def Xd (G : Hp) (d : Addr) (ks : List Str) (ds : List D) : Prop := ∃ fs : List (Str × V), G d = some (.xd fs) ∧ fs.map (·.1) = ks ∧ Dds K B G (fs.map (·.2)) ds
def CtX (X : Xc) (σ : St) (δ : List Sd) (G H : Hp) : Prop := ∀ C d ks ds G1 H1, Go B G H G1 H1 → Ok B G1 H1 → Xd K B G1 d ks ds → X.ex δ C ks ds → X.W (.ref C) (some d) σ H1
def Ct (G H : Hp) (P : D → Prop) (Q : VK) : Prop := ∀ v d G1 H1, Go B G H G1 H1 → Ok B G1 H1 → Dd K B G1 v d → P d → Q v H1
def WEx (X : Xc) (te : TE) (δ : List Sd) (P : D → Prop)  : Prop := ∀ G0 H0 σ G H Q, Stt K B G0 H0 G H σ δ → CtX K B X σ δ G H → Ct K B G H P Q → te σ H Q
def WTx (X : Xc) (tt : TT) (δ : List Sd) (P : Bool → Prop)  : Prop := ∀ G0 H0 σ G H (Q : Bool → Hp → Prop), Stt K B G0 H0 G H σ δ → CtX K B X σ δ G H → (∀ b G1 H1, Go B G H G1 H1 → Ok B G1 H1 → P b → Q b H1) → tt σ H Q
def WAx (X : Xc) (ta : TA) (δ : List Sd) (P : List D → Prop)  : Prop := ∀ G0 H0 σ G H (Q : List V → Hp → Prop), Stt K B G0 H0 G H σ δ → CtX K B X σ δ G H → (∀ vs ds G1 H1, Go B G H G1 H1 → Ok B G1 H1 → Dds K B G1 vs ds → P ds → Q vs H1) → ta σ H Q
def WOx (X : Xc) (to : TO) (δ : List Sd) (P : Option Int → Prop)  : Prop := ∀ G0 H0 σ G H (Q : Option Int → Hp → Prop), Stt K B G0 H0 G H σ δ → CtX K B X σ δ G H → (∀ b G1 H1, Go B G H G1 H1 → Ok B G1 H1 → P b → Q b H1) → to σ H Q
abbrev WE (te : TE) (δ : List Sd) (P : D → Prop) : Prop := WEx K B {} te δ P
abbrev WT (tt : TT) (δ : List Sd) (P : Bool → Prop) : Prop := WTx K B {} tt δ P
abbrev WA (ta : TA) (δ : List Sd) (P : List D → Prop) : Prop := WAx K B {} ta δ P
abbrev WO (to : TO) (δ : List Sd) (P : Option Int → Prop) : Prop := WOx K B {} to δ P
/-- operations on values -/
def RO (r : R2) (a b : D) (P : D → Prop) : Prop := ∀ G H x y Q, Ok B G H → Dd K B G x a → Dd K B G y b → Ct K B G H P Q → r x y H Q
def R1 (r : V → Hp → VK → Prop) (a : D) (P : D → Prop) : Prop := ∀ G H x Q, Ok B G H → Dd K B G x a → Ct K B G H P Q → r x H Q
def RC (r : List V → Hp → VK → Prop) (ds : List D) (P : D → Prop) : Prop := ∀ G H vs Q, Ok B G H → Dds K B G vs ds → Ct K B G H P Q → r vs H Q
def RM (r : V → List V → Hp → VK → Prop) (a : D) (ds : List D) (P : D → Prop) : Prop := ∀ G H x vs Q, Ok B G H → Dd K B G x a → Dds K B G vs ds → Ct K B G H P Q → r x vs H Q
def RS (r : V → Option Int → Option Int → Hp → VK → Prop) (a : D) (lo hi : Option Int) (P : D → Prop) : Prop := ∀ G H x Q, Ok B G H → Dd K B G x a → Ct K B G H P Q → r x lo hi H Q
/-- a statement: what follows (by the slots), what is handed back, what is raised -/
structure Out where
  nx : List Sd → Prop
  rt : D → Prop
  bk : List Sd → Prop := fun _ => False
  ct : List Sd → Prop := fun _ => False
  x : Xc := {}
  ro : List D → Prop := fun _ => False
/-- what is handed back: a frozen value, or a list of the def's own -/
def RT (O : Out) (G0 H0 : Hp) (r : VK) : Prop := (∀ v d G1 H1, Go B G0 H0 G1 H1 → Ok B G1 H1 → Dd K B G1 v d → O.rt d → r v H1) ∧
  ∀ a vs ds G1 H1, Go B G0 H0 G1 H1 → Ok B G1 H1 → a ≠ B.a → (∀ o, nt o → H0 a ≠ some o) → G1 a = none → H1 a = some (.lst vs) → Dds K B G1 vs ds → O.ro ds → r (.ref a) H1
def XS (X : Xc) (G0 H0 G : Hp) : Prop := ∀ σ1 δ1 G1 H1, Same G G1 → Stt K B G0 H0 G1 H1 σ1 δ1 → ∀ C d ks ds, Xd K B G1 d ks ds → X.ex δ1 C ks ds → X.W (.ref C) (some d) σ1 H1
def WS (ts : TS) (δ : List Sd) (O : Out) : Prop := ∀ G0 H0 σ G H (E : Ends), Stt K B G0 H0 G H σ δ → XS K B O.x G0 H0 G →
  (∀ σ1 δ1 G1 H1, Same G G1 → Stt K B G0 H0 G1 H1 σ1 δ1 → O.nx δ1 → E.nx σ1 H1) → RT K B O G0 H0 E.rt →
  (∀ σ1 δ1 G1 H1, Same G G1 → Stt K B G0 H0 G1 H1 σ1 δ1 → O.bk δ1 → E.bk σ1 H1) → (∀ σ1 δ1 G1 H1, Same G G1 → Stt K B G0 H0 G1 H1 σ1 δ1 → O.ct δ1 → E.ct σ1 H1) → ts E σ H
/-- a def's promise by data -/
def SpD (pre : List D → Prop) (post : List D → D → Prop) : Sp := fun vs H Q _ => ∃ B G ds, Ok B G H ∧ Dds K B G vs ds ∧ pre ds ∧ Ct K B G H (post ds) Q
/-- .. of a def that hands back a new list -/
def SpN (pre : List D → Prop) (post : List D → List D → Prop) : Sp := fun vs H Q _ => ∃ B G ds, Ok B G H ∧ Dds K B G vs ds ∧ pre ds ∧ ∀ a ws es G1 H1, Go B G H G1 H1 → Ok B G1 H1 → a ≠ B.a → (∀ o, nt o → H a ≠ some o) → G1 a = none → H1 a = some (.lst ws) → Dds K B G1 ws es → post ds es → Q (.ref a) H1
/-- .. of a def that may raise -/
def SpX (pre : List D → Prop) (post : List D → D → Prop) (exc : List D → Addr → List Str → List D → Prop) : Sp := fun vs H Q E => ∃ B G ds, Ok B G H ∧ Dds K B G vs ds ∧ pre ds ∧ Ct K B G H (post ds) Q ∧ ∀ C d ks es G1 H1, Go B G H G1 H1 → Ok B G1 H1 → Xd K B G1 d ks es → exc ds C ks es → E (.ref C) (some d) H1
end
section
variable {K : PySem.W.Frag} {B : Bt} {δ : List Sd} {X : Xc} {G G1 H H1 G0 H0 : Hp} {σ : St}
theorem CtX.on (q : CtX K B X σ δ G H) (g : Go B G H G1 H1) (o : Ok B G1 H1) : CtX K B X σ δ G1 H1 := fun C d ks ds G2 H2 g2 o2 hd p => q C d ks ds G2 H2 (g.trans o g2) o2 hd p
theorem ctx0 : CtX K B {} σ δ G H := fun _ _ _ _ _ _ _ _ _ z => z.elim
theorem XS.ct (q : XS K B X G0 H0 G) (s : Stt K B G0 H0 G H σ δ) : CtX K B X σ δ G H := fun C d ks ds G1 H1 g o hd p => q σ δ G1 H1 g.s (s.on g o) C d ks ds hd p
theorem XS.on (q : XS K B X G0 H0 G) (m : Same G G1) : XS K B X G0 H0 G1 := fun σ1 δ1 G2 H2 m2 => q σ1 δ1 G2 H2 (m.trans m2)
theorem xs0 : XS K B {} G0 H0 G := fun _ _ _ _ _ _ _ _ _ _ _ z => z.elim
end

section
variable {K : PySem.W.Frag} {B : Bt} {δ : List Sd} {P P' : D → Prop} {ta tb te : TE} {tt tu : TT} {X : Xc}
theorem Ct.nil {G H : Hp} {Q : VK} {v : V} {d : D} (o : Ok B G H) (q : Ct K B G H P Q) (h : Dd K B G v d) (p : P d) : Q v H := q v d G H Go.refl o h p
theorem Ct.on {G H G1 H1 : Hp} {Q : VK} (q : Ct K B G H P Q) (g : Go B G H G1 H1) (o : Ok B G1 H1) : Ct K B G1 H1 P Q := fun v d G2 H2 g2 o2 h p => q v d G2 H2 (g.trans o g2) o2 h p
theorem Ct.new {G H : Hp} {Q : VK} {d : D} {x : HO} {p : Addr} (o : Ok B G H) (q : Ct K B G H P Q) (hx : nt x) (h : H p = none) (hd : Dd K B (upd G p x) (.ref p) d) (hp : P d) : Q (.ref p) (upd H p x) := q _ d _ _ (new_go o h) (new_ok o hx h) hd hp
theorem WEx.mono (h : WEx K B X te δ P) (m : ∀ d, P d → P' d) : WEx K B X te δ P' := fun G0 H0 σ G H Q s xx q => h G0 H0 σ G H Q s xx fun v d G1 H1 g o hd p => q v d G1 H1 g o hd (m d p)
theorem WTx.mono {P P' : Bool → Prop} (h : WTx K B X tt δ P) (m : ∀ d, P d → P' d) : WTx K B X tt δ P' := fun G0 H0 σ G H Q s xx q => h G0 H0 σ G H Q s xx fun v G1 H1 g o p => q v G1 H1 g o (m v p)
theorem we_var {i : Nat} {d : D} (h : δ[i]? = some (.val d)) (p : P d) : WEx K B X (tVar i) δ P := fun _ _ _ _ _ _ s _ q => by
  obtain ⟨v, h1, h2⟩ := s.val i d h
  exact ⟨v, h1, q.nil s.ok h2 p⟩
theorem we_int {i : Int} (p : P (.int i)) : WEx K B X (tC (.int i)) δ P := fun _ _ _ _ _ _ s _ q => q.nil s.ok (.int i) p
theorem we_str {z : Str} (p : P (.str z)) : WEx K B X (tC (.str z)) δ P := fun _ _ _ _ _ _ s _ q => q.nil s.ok (.str z) p
theorem we_bl {b : Bool} (p : P (.bl b)) : WEx K B X (tC (.bl b)) δ P := fun _ _ _ _ _ _ s _ q => q.nil s.ok (.bl b) p
theorem we_non (p : P .non) : WEx K B X (tC .non) δ P := fun _ _ _ _ _ _ s _ q => q.nil s.ok .non p
theorem we_op {r : R2} (h : WEx K B X ta δ fun a => WEx K B X tb δ fun b => RO K B r a b P) : WEx K B X (tOp r ta tb) δ P := fun G0 H0 σ G H Q s xx q =>
  h G0 H0 σ G H _ s xx fun x a G1 H1 g1 o1 hx wb => wb G0 H0 σ G1 H1 _ (s.on g1 o1) (xx.on g1 o1) fun y b G2 H2 g2 o2 hy rr => rr G2 H2 x y Q o2 (hx.mono g2.s) hy ((q.on g1 o1).on g2 o2)
theorem we_un {r : V → Hp → VK → Prop} (h : WEx K B X ta δ fun a => R1 K B r a P) : WEx K B X (tUn r ta) δ P := fun G0 H0 σ G H Q s xx q =>
  h G0 H0 σ G H _ s xx fun x a G1 H1 g1 o1 hx rr => rr G1 H1 x Q o1 hx (q.on g1 o1)
theorem we_andV (h : WEx K B X ta δ fun a => ∃ c, a = .bl c ∧ if c = true then WEx K B X tb δ P else P (.bl false)) : WEx K B X (tAndV ta tb) δ P := fun G0 H0 σ G H Q s xx q =>
  h G0 H0 σ G H _ s xx fun x a G1 H1 g1 o1 hx ⟨c, e, w⟩ => by
    subst e
    cases hx
    refine ⟨c, rfl, ?_⟩
    cases c with
    | true => exact w G0 H0 σ G1 H1 Q (s.on g1 o1) (xx.on g1 o1) (q.on g1 o1)
    | false => exact (q.on g1 o1).nil o1 (.bl false) w
theorem we_orV (h : WEx K B X ta δ fun a => ∃ c, a = .bl c ∧ if c = true then P (.bl true) else WEx K B X tb δ P) : WEx K B X (tOrV ta tb) δ P := fun G0 H0 σ G H Q s xx q =>
  h G0 H0 σ G H _ s xx fun x a G1 H1 g1 o1 hx ⟨c, e, w⟩ => by
    subst e
    cases hx
    refine ⟨c, rfl, ?_⟩
    cases c with
    | true => exact (q.on g1 o1).nil o1 (.bl true) w
    | false => exact w G0 H0 σ G1 H1 Q (s.on g1 o1) (xx.on g1 o1) (q.on g1 o1)
theorem we_notV (h : WEx K B X ta δ fun a => ∃ c, a = .bl c ∧ P (.bl (!c))) : WEx K B X (tNotV ta) δ P := fun G0 H0 σ G H Q s xx q =>
  h G0 H0 σ G H _ s xx fun x a G1 H1 g1 o1 hx ⟨c, e, w⟩ => by
    subst e
    cases hx
    exact ⟨c, rfl, (q.on g1 o1).nil o1 (.bl _) w⟩
theorem we_if (h : WTx K B X tt δ fun c => if c = true then WEx K B X ta δ P else WEx K B X tb δ P) : WEx K B X (tIf tt ta tb) δ P := fun G0 H0 σ G H Q s xx q =>
  h G0 H0 σ G H _ s xx fun c G1 H1 g1 o1 w => by
    cases c with
    | true => exact w G0 H0 σ G1 H1 Q (s.on g1 o1) (xx.on g1 o1) (q.on g1 o1)
    | false => exact w G0 H0 σ G1 H1 Q (s.on g1 o1) (xx.on g1 o1) (q.on g1 o1)
theorem wt_test {P : Bool → Prop} (h : WEx K B X te δ fun a => ∃ c, a = .bl c ∧ P c) : WTx K B X (tTest te) δ P := fun G0 H0 σ G H Q s xx q =>
  h G0 H0 σ G H _ s xx fun x a G1 H1 g1 o1 hx ⟨c, e, w⟩ => by
    subst e
    cases hx
    exact ⟨c, rfl, q c G1 H1 g1 o1 w⟩
theorem wt_B {P : Bool → Prop} (h : WEx K B X te δ fun a => ∃ c, a = .bl c ∧ P c) : WTx K B X (tB te) δ P := fun G0 H0 σ G H Q s xx q =>
  h G0 H0 σ G H _ s xx fun x a G1 H1 g1 o1 hx ⟨c, e, w⟩ => by
    subst e
    cases hx
    exact ⟨c, rfl, q c G1 H1 g1 o1 w⟩
theorem wt_and {P : Bool → Prop} (h : WTx K B X tt δ fun c => if c = true then WTx K B X tu δ P else P false) : WTx K B X (tAnd tt tu) δ P := fun G0 H0 σ G H Q s xx q =>
  h G0 H0 σ G H _ s xx fun c G1 H1 g1 o1 w => by
    cases c with
    | true => exact w G0 H0 σ G1 H1 Q (s.on g1 o1) (xx.on g1 o1) fun b G2 H2 g2 o2 p => q b G2 H2 (g1.trans o1 g2) o2 p
    | false => exact q false G1 H1 g1 o1 w
theorem wt_or {P : Bool → Prop} (h : WTx K B X tt δ fun c => if c = true then P true else WTx K B X tu δ P) : WTx K B X (tOr tt tu) δ P := fun G0 H0 σ G H Q s xx q =>
  h G0 H0 σ G H _ s xx fun c G1 H1 g1 o1 w => by
    cases c with
    | true => exact q true G1 H1 g1 o1 w
    | false => exact w G0 H0 σ G1 H1 Q (s.on g1 o1) (xx.on g1 o1) fun b G2 H2 g2 o2 p => q b G2 H2 (g1.trans o1 g2) o2 p
theorem wt_not {P : Bool → Prop} (h : WTx K B X tt δ fun c => P (!c)) : WTx K B X (tNot tt) δ P := fun G0 H0 σ G H Q s xx q =>
  h G0 H0 σ G H _ s xx fun c G1 H1 g1 o1 w => q (!c) G1 H1 g1 o1 w
theorem wt_yes {P : Bool → Prop} (h : P true) : WTx K B X tYes δ P := fun _ _ _ G H _ s _ q => q true G H Go.refl s.ok h
theorem we_chain {tc : TE} {r r' : R2} (h : WEx K B X ta δ fun a => WEx K B X tb δ fun b => RO K B r a b fun z => ∃ k, z = .bl k ∧ if k = true then WEx K B X tc δ (fun c => RO K B r' b c P) else P (.bl false)) : WEx K B X (tChain r r' ta tb tc) δ P := fun G0 H0 σ G H Q s xx q =>
  h G0 H0 σ G H _ s xx fun x a G1 H1 g1 o1 hx wb => wb G0 H0 σ G1 H1 _ (s.on g1 o1) (xx.on g1 o1) fun y b G2 H2 g2 o2 hy rr => rr G2 H2 x y _ o2 (hx.mono g2.s) hy fun z d G3 H3 g3 o3 hz ⟨k, e, w⟩ => by
    subst e
    cases hz
    refine ⟨k, rfl, ?_⟩
    have q3 := ((q.on g1 o1).on g2 o2).on g3 o3
    cases k with
    | true => exact w G0 H0 σ G3 H3 _ (((s.on g1 o1).on g2 o2).on g3 o3) (((xx.on g1 o1).on g2 o2).on g3 o3) fun c' e' G4 H4 g4 o4 hc rr' => rr' G4 H4 y c' Q o4 ((hy.mono g3.s).mono g4.s) hc (q3.on g4 o4)
    | false => exact q3.nil o3 (.bl false) w
theorem wa_nil {P : List D → Prop} (p : P []) : WAx K B X tNil δ P := fun _ _ _ G H _ s _ q => q [] [] G H Go.refl s.ok .nil p
theorem wa_cons {tr : TA} {P : List D → Prop} (h : WEx K B X ta δ fun a => WAx K B X tr δ fun ds => P (a :: ds)) : WAx K B X (tCons ta tr) δ P := fun G0 H0 σ G H Q s xx q =>
  h G0 H0 σ G H _ s xx fun x a G1 H1 g1 o1 hx w => w G0 H0 σ G1 H1 _ (s.on g1 o1) (xx.on g1 o1) fun vs ds G2 H2 g2 o2 hs p => q (x :: vs) (a :: ds) G2 H2 (g1.trans o1 g2) o2 (.cons (hx.mono g2.s) hs) p
theorem we_tup {t : TA} (h : WAx K B X t δ fun ds => ds.length ≤ 1000 ∧ P (.tup ds)) : WEx K B X (tTup t) δ P := fun G0 H0 σ G H Q s xx q =>
  h G0 H0 σ G H _ s xx fun vs ds G1 H1 g1 o1 hs ⟨l, p⟩ => ⟨by rw [hs.length]; exact Nat.le_trans l (by decide), fun a ha => (q.on g1 o1).new o1 nt_tup ha (.tup upd_same (hs.mono (same_upd (o1.fresh ha)))) p⟩
theorem we_lst {t : TA} (h : WAx K B X t δ fun ds => ds.length ≤ 1000 ∧ P (.lst ds)) : WEx K B X (tLst t) δ P := fun G0 H0 σ G H Q s xx q =>
  h G0 H0 σ G H _ s xx fun vs ds G1 H1 g1 o1 hs ⟨l, p⟩ => ⟨by rw [hs.length]; exact Nat.le_trans l (by decide), fun a ha => (q.on g1 o1).new o1 nt_lst ha (.lst upd_same (hs.mono (same_upd (o1.fresh ha)))) p⟩
theorem we_cb {r : List V → Hp → VK → Prop} {t : TA} (h : WAx K B X t δ fun ds => RC K B r ds P) : WEx K B X (tCB r t) δ P := fun G0 H0 σ G H Q s xx q =>
  h G0 H0 σ G H _ s xx fun vs ds G1 H1 g1 o1 hs rr => rr G1 H1 vs Q o1 hs (q.on g1 o1)
theorem we_call {pre : List D → Prop} {post : List D → D → Prop} {E : XK} {t : TA} (h : WAx K B X t δ fun ds => pre ds ∧ ∀ d, post ds d → P d) : WEx K B X (tCall (SpD K pre post) [] E t) δ P := fun G0 H0 σ G H Q s xx q =>
  h G0 H0 σ G H _ s xx fun vs ds G1 H1 g1 o1 hs ⟨p, m⟩ => by
    rw [List.append_nil]
    exact ⟨B, G1, ds, o1, hs, p, fun v d G2 H2 g2 o2 hd pd => (q.on g1 o1) v d G2 H2 g2 o2 hd (m d pd)⟩
theorem we_bm {T : String} {r : V → List V → Hp → VK → Prop} {to : TE} {t : TA} (hT : ∀ G H x z, Ok B G H → Dd K B G x (.str z) → tyV K T x H) (h : WEx K B X to δ fun a => (∃ z, a = .str z) ∧ WAx K B X t δ fun ds => RM K B r a ds P) : WEx K B X (tBM K T r to t) δ P := fun G0 H0 σ G H Q s xx q =>
  h G0 H0 σ G H _ s xx fun x a G1 H1 g1 o1 hx ⟨⟨z, e⟩, w⟩ => by
    subst e
    exact ⟨hT G1 H1 x z o1 hx, w G0 H0 σ G1 H1 _ (s.on g1 o1) (xx.on g1 o1) fun vs ds G2 H2 g2 o2 hs rr => rr G2 H2 x vs Q o2 (hx.mono g2.s) hs ((q.on g1 o1).on g2 o2)⟩
theorem we_bm0 {T : String} {r : V → List V → Hp → VK → Prop} {to : TE} (hT : ∀ G H x z, Ok B G H → Dd K B G x (.str z) → tyV K T x H) (h : WEx K B X to δ fun a => (∃ z, a = .str z) ∧ RM K B r a [] P) : WEx K B X (tBM0 K T r to) δ P := fun G0 H0 σ G H Q s xx q =>
  h G0 H0 σ G H _ s xx fun x a G1 H1 g1 o1 hx ⟨⟨z, e⟩, w⟩ => by
    subst e
    exact ⟨hT G1 H1 x z o1 hx, w G1 H1 x [] Q o1 hx .nil (q.on g1 o1)⟩
theorem wo_none {P : Option Int → Prop} (p : P none) : WOx K B X tNoPart δ P := fun _ _ _ G H _ s _ q => q none G H Go.refl s.ok p
theorem wo_some {P : Option Int → Prop} (h : WEx K B X te δ fun a => ∃ i, a = .int i ∧ P (some i)) : WOx K B X (tPart te) δ P := fun G0 H0 σ G H Q s xx q =>
  h G0 H0 σ G H _ s xx fun x a G1 H1 g1 o1 hx ⟨i, e, p⟩ => by
    subst e
    cases hx
    exact ⟨i, rfl, q (some i) G1 H1 g1 o1 p⟩
theorem we_sl {r : V → Option Int → Option Int → Hp → VK → Prop} {tl th : TO} (h : WEx K B X te δ fun a => WOx K B X tl δ fun lo => WOx K B X th δ fun hi => RS K B r a lo hi P) : WEx K B X (tSl r te tl th) δ P := fun G0 H0 σ G H Q s xx q =>
  h G0 H0 σ G H _ s xx fun x a G1 H1 g1 o1 hx w => w G0 H0 σ G1 H1 _ (s.on g1 o1) (xx.on g1 o1) fun lo G2 H2 g2 o2 w2 => w2 G0 H0 σ G2 H2 _ ((s.on g1 o1).on g2 o2) ((xx.on g1 o1).on g2 o2) fun hi G3 H3 g3 o3 rr =>
    rr G3 H3 x Q o3 ((hx.mono g2.s).mono g3.s) (((q.on g1 o1).on g2 o2).on g3 o3)

/-! ### statements -/
variable {O : Out} {t u : TS}
theorem ws_seq (h : WS K B t δ { O with nx := fun δ1 => WS K B u δ1 O }) : WS K B (tSeq t u) δ O := fun G0 H0 σ G H E s xx n r b c =>
  h G0 H0 σ G H { E with nx := u E } s xx (fun σ1 δ1 G1 H1 m s1 w => w G0 H0 σ1 G1 H1 E s1 (xx.on m) (fun σ2 δ2 G2 H2 m2 => n σ2 δ2 G2 H2 (m.trans m2)) r (fun σ2 δ2 G2 H2 m2 => b σ2 δ2 G2 H2 (m.trans m2)) (fun σ2 δ2 G2 H2 m2 => c σ2 δ2 G2 H2 (m.trans m2))) r b c
theorem ws_next (h : O.nx δ) : WS K B tNext δ O := fun _ _ σ G H _ s _ n _ _ _ => n σ δ G H (Same.refl _) s h
theorem ws_break (h : O.bk δ) : WS K B tBreak δ O := fun _ _ σ G H _ s _ _ _ b _ => b σ δ G H (Same.refl _) s h
theorem ws_cont (h : O.ct δ) : WS K B tCont δ O := fun _ _ σ G H _ s _ _ _ _ c => c σ δ G H (Same.refl _) s h
theorem ws_ret (h : WEx K B O.x te δ O.rt) : WS K B (tRet te) δ O := fun G0 H0 σ G H E s xx _ r _ _ => h G0 H0 σ G H _ s (xx.ct s) fun v d G1 H1 g o hd p => r.1 v d G1 H1 (s.go.trans s.ok g) o hd p
theorem ws_retN (h : O.rt .non) : WS K B tRetN δ O := fun _ _ _ G H _ s _ _ r _ _ => r.1 .non .non G H s.go s.ok .non h
theorem ws_if (h : WTx K B O.x tt δ fun c => if c = true then WS K B t δ O else WS K B u δ O) : WS K B (tIfS tt t u) δ O := fun G0 H0 σ G H E s xx n r b c =>
  h G0 H0 σ G H _ s (xx.ct s) fun k G1 H1 g1 o1 w => by
    cases k with
    | true => exact w G0 H0 σ G1 H1 E (s.on g1 o1) (xx.on g1.s) (fun σ2 δ2 G2 H2 m2 => n σ2 δ2 G2 H2 (g1.s.trans m2)) r (fun σ2 δ2 G2 H2 m2 => b σ2 δ2 G2 H2 (g1.s.trans m2)) (fun σ2 δ2 G2 H2 m2 => c σ2 δ2 G2 H2 (g1.s.trans m2))
    | false => exact w G0 H0 σ G1 H1 E (s.on g1 o1) (xx.on g1.s) (fun σ2 δ2 G2 H2 m2 => n σ2 δ2 G2 H2 (g1.s.trans m2)) r (fun σ2 δ2 G2 H2 m2 => b σ2 δ2 G2 H2 (g1.s.trans m2)) (fun σ2 δ2 G2 H2 m2 => c σ2 δ2 G2 H2 (g1.s.trans m2))
theorem ws_set {i : Nat} (h : WEx K B O.x te δ fun d => O.nx (δ.set i (.val d))) : WS K B (tAsg te (gName i)) δ O := fun G0 H0 σ G H E s xx n _ _ _ =>
  h G0 H0 σ G H _ s (xx.ct s) fun v d G1 H1 g o hd p => n _ _ G1 H1 g.s ((s.on g o).setVal i hd) p
theorem ws_drop (h : WEx K B O.x te δ fun _ => O.nx δ) : WS K B (tDrop te) δ O := fun G0 H0 σ G H E s xx n _ _ _ =>
  h G0 H0 σ G H _ s (xx.ct s) fun v d G1 H1 g o hd p => n _ _ G1 H1 g.s (s.on g o) p
theorem ws_par {i j : Nat} {ta : TA} (h : WAx K B O.x ta δ fun ds => ∃ a b, ds = [a, b] ∧ O.nx ((δ.set i (.val a)).set j (.val b))) : WS K B (tPar i j ta) δ O := fun G0 H0 σ G H E s xx n _ _ _ =>
  h G0 H0 σ G H _ s (xx.ct s) fun vs ds G1 H1 g o hs ⟨a, b, e, p⟩ => by
    subst e
    cases hs with
    | cons h1 t1 =>
      cases t1 with
      | cons h2 t2 =>
        cases t2
        exact ⟨_, _, rfl, n _ _ G1 H1 g.s (((s.on g o).setVal i h1).setVal j h2) p⟩
end
end Dl
namespace Dl
open PySem L2
section
variable {K : PySem.W.Frag} {B : Bt} {δ : List Sd} {P P' : D → Prop} {ta tb te : TE} {tt tu : TT} {O : Out} {X : Xc}
theorem we_cls {n : String} (p : P (.cls n)) : WEx K B X (tC (.ty n)) δ P := fun _ _ _ _ _ _ s _ q => q.nil s.ok (.cls n) p
/-! ### operations on values -/
theorem ro_int0 {f : Int → Int → Int} {i j : Int} (p : P (.int (f i j))) : RO K B (rI0 fun i j => .int (f i j)) (.int i) (.int j) P := fun _ _ _ _ _ o hx hy q => by
  cases hx; cases hy
  exact ⟨i, j, rfl, rfl, q.nil o (.int _) p⟩
theorem ro_bl0 {f : Int → Int → Bool} {i j : Int} (p : P (.bl (f i j))) : RO K B (rI0 fun i j => .bl (f i j)) (.int i) (.int j) P := fun _ _ _ _ _ o hx hy q => by
  cases hx; cases hy
  exact ⟨i, j, rfl, rfl, q.nil o (.bl _) p⟩
theorem ro_int {C : Int → Int → Prop} {f : Int → Int → Int} {i j : Int} (c : C i j) (p : P (.int (f i j))) : RO K B (rI C fun i j => .int (f i j)) (.int i) (.int j) P := fun _ _ _ _ _ o hx hy q => by
  cases hx; cases hy
  exact ⟨i, j, rfl, rfl, c, q.nil o (.int _) p⟩
theorem r1_int {f : Int → Int} {i : Int} (p : P (.int (f i))) : R1 K B (rU fun i => .int (f i)) (.int i) P := fun _ _ _ _ o hx q => by
  cases hx
  exact ⟨i, rfl, q.nil o (.int _) p⟩
/-- the flat ones as values -/
def D.v : D → V
  | .non => .non | .bl b => .bl b | .int i => .int i | .str z => .str z | .cls n => .ty n | _ => .ref 0
def D.flat : D → Bool
  | .non => true | .bl _ => true | .int _ => true | .str _ => true | _ => false
theorem Dd.flat {G : Hp} {v : V} {d : D} (h : Dd K B G v d) (f : d.flat = true) : v = d.v := by
  cases h <;> first | rfl | cases f
theorem ro_eq {a b : D} (fa : a.flat = true) (fb : b.flat = true) (s : scal a.v b.v = true) (p : P (.bl (decide (a.v = b.v)))) : RO K B rEq a b P := fun _ _ _ _ _ o hx hy q => by
  rw [hx.flat fa, hy.flat fb]
  exact ⟨s, q.nil o (.bl _) p⟩
theorem ro_ne {a b : D} (fa : a.flat = true) (fb : b.flat = true) (s : scal a.v b.v = true) (p : P (.bl (!decide (a.v = b.v)))) : RO K B rNe a b P := fun _ _ _ _ _ o hx hy q => by
  rw [hx.flat fa, hy.flat fb]
  exact ⟨s, q.nil o (.bl _) p⟩
theorem ro_eqI {i j : Int} (p : P (.bl (decide (i = j)))) : RO K B rEq (.int i) (.int j) P := ro_eq rfl rfl rfl (by
  have e : decide (D.v (.int i) = D.v (.int j)) = decide (i = j) := by
    apply decide_eq_decide.mpr
    exact ⟨fun h => V.int.inj h, fun h => by rw [h]⟩
  rw [e]; exact p)
theorem ro_neI {i j : Int} (p : P (.bl (!decide (i = j)))) : RO K B rNe (.int i) (.int j) P := ro_ne rfl rfl rfl (by
  have e : decide (D.v (.int i) = D.v (.int j)) = decide (i = j) := by
    apply decide_eq_decide.mpr
    exact ⟨fun h => V.int.inj h, fun h => by rw [h]⟩
  rw [e]; exact p)
theorem ro_eqB {i j : Bool} (p : P (.bl (decide (i = j)))) : RO K B rEq (.bl i) (.bl j) P := ro_eq rfl rfl rfl (by
  have e : decide (D.v (.bl i) = D.v (.bl j)) = decide (i = j) := by
    apply decide_eq_decide.mpr
    exact ⟨fun h => V.bl.inj h, fun h => by rw [h]⟩
  rw [e]; exact p)
theorem ro_neB {i j : Bool} (p : P (.bl (!decide (i = j)))) : RO K B rNe (.bl i) (.bl j) P := ro_ne rfl rfl rfl (by
  have e : decide (D.v (.bl i) = D.v (.bl j)) = decide (i = j) := by
    apply decide_eq_decide.mpr
    exact ⟨fun h => V.bl.inj h, fun h => by rw [h]⟩
  rw [e]; exact p)
theorem ro_eqS {i j : Str} (p : P (.bl (decide (i = j)))) : RO K B rEq (.str i) (.str j) P := ro_eq rfl rfl rfl (by
  have e : decide (D.v (.str i) = D.v (.str j)) = decide (i = j) := by
    apply decide_eq_decide.mpr
    exact ⟨fun h => V.str.inj h, fun h => by rw [h]⟩
  rw [e]; exact p)
theorem ro_neS {i j : Str} (p : P (.bl (!decide (i = j)))) : RO K B rNe (.str i) (.str j) P := ro_ne rfl rfl rfl (by
  have e : decide (D.v (.str i) = D.v (.str j)) = decide (i = j) := by
    apply decide_eq_decide.mpr
    exact ⟨fun h => V.str.inj h, fun h => by rw [h]⟩
  rw [e]; exact p)
theorem sz1000 {n : Nat} (h : n ≤ 1000) : n ≤ sizeLine := Nat.le_trans h (by decide)
/-- items -/
theorem atI_dd {G : Hp} {vs : List V} {ds : List D} {i : Int} {d : D} (h : Dds K B G vs ds) (e : atI ds i = some d) : ∃ v, atI vs i = some v ∧ Dd K B G v d := by
  unfold atI at e ⊢
  rw [h.length]
  cases q : ixN ds.length i with
  | none => rw [q] at e; cases e
  | some j =>
    rw [q] at e
    exact h.get e
theorem ro_ixL {ds : List D} {i : Int} {d : D} (e : atI ds i = some d) (p : P d) : RO K B (rIxL K) (.lst ds) (.int i) P := fun _ _ _ _ _ o hx hy q => by
  cases hy
  cases hx with
  | lst h t =>
    obtain ⟨v, h1, h2⟩ := atI_dd t e
    exact ⟨_, _, i, v, rfl, rfl, SqL.of (o.u _ _ h), h1, q.nil o h2 p⟩
theorem ro_ixT {ds : List D} {i : Int} {d : D} (e : atI ds i = some d) (p : P d) : RO K B (rIxT K) (.tup ds) (.int i) P := fun _ _ _ _ _ o hx hy q => by
  cases hy
  cases hx with
  | tup h t =>
    obtain ⟨v, h1, h2⟩ := atI_dd t e
    exact ⟨_, _, i, v, rfl, rfl, SqT.of (o.u _ _ h), h1, q.nil o h2 p⟩
theorem ro_ixS {z : Str} {i : Int} {c : Nat} (l : z.length ≤ 100000) (e : atI z.cps.toList i = some c) (p : P (.str ⟨#[c]⟩)) : RO K B rIxS (.str z) (.int i) P := fun _ _ _ _ _ o hx hy q => by
  cases hy; cases hx
  exact ⟨z, i, c, rfl, rfl, Nat.le_trans l (by decide), e, q.nil o (.str _) p⟩
theorem ro_ixsL {ds : List D} {i : Int} {d : D} (e : atI ds i = some d) (p : P d) : RO K B (rIx K) (.lst ds) (.int i) P := fun G H x y Q o hx hy q => .inl (ro_ixL e p G H x y Q o hx hy q)
theorem ro_ixsT {ds : List D} {i : Int} {d : D} (e : atI ds i = some d) (p : P d) : RO K B (rIx K) (.tup ds) (.int i) P := fun G H x y Q o hx hy q => .inr (.inl (ro_ixT e p G H x y Q o hx hy q))
theorem ro_ixsS {z : Str} {i : Int} {c : Nat} (l : z.length ≤ 100000) (e : atI z.cps.toList i = some c) (p : P (.str ⟨#[c]⟩)) : RO K B (rIx K) (.str z) (.int i) P := fun G H x y Q o hx hy q => .inr (.inr (ro_ixS l e p G H x y Q o hx hy q))
theorem ro_inS {i j : Str} (p : P (.bl (!(Builtin.Str.occurrences j i 0 j.length 1).isEmpty))) : RO K B (fun x y H Q => ∃ i j, x = .str i ∧ y = .str j ∧ Q (.bl (!(Builtin.Str.occurrences j i 0 j.length 1).isEmpty)) H) (.str i) (.str j) P := fun _ _ _ _ _ o hx hy q => by
  cases hx; cases hy
  exact ⟨i, j, rfl, rfl, q.nil o (.bl _) p⟩
theorem ro_addS {i j : Str} (l : i.length + j.length ≤ 100000) (p : P (.str (i ++ j))) : RO K B (fun x y H Q => ∃ i j, x = .str i ∧ y = .str j ∧ i.length + j.length ≤ sizeLine ∧ Q (.str (i ++ j)) H) (.str i) (.str j) P := fun _ _ _ _ _ o hx hy q => by
  cases hx; cases hy
  exact ⟨i, j, rfl, rfl, Nat.le_trans l (by decide), q.nil o (.str _) p⟩
theorem ro_cat {ds es : List D} (l : ds.length + es.length ≤ 1000) (p : P (.lst (ds ++ es))) : RO K B rCat (.lst ds) (.lst es) P := fun _ _ _ _ _ o hx hy q => by
  cases hx with
  | lst h t =>
    cases hy with
    | lst h' t' => exact ⟨_, _, _, _, rfl, rfl, o.u _ _ h, o.u _ _ h', sz1000 (by rw [t.length, t'.length]; exact l), fun a ha => q.new o nt_lst ha (.lst upd_same ((t.append t').mono (same_upd (o.fresh ha)))) p⟩
theorem ro_rep {ds : List D} {k : Int} (h1 : 0 ≤ k) (h2 : k ≤ 1000) (l : ds.length * k.toNat ≤ 1000) (p : P (.lst (List.replicate k.toNat ds).flatten)) : RO K B rRep (.lst ds) (.int k) P := fun _ _ _ _ _ o hx hy q => by
  cases hy
  cases hx with
  | lst h t => exact ⟨_, k, _, rfl, rfl, o.u _ _ h, by omega, by omega, sz1000 (by rw [t.length]; exact l), fun a ha => q.new o nt_lst ha (.lst upd_same ((t.repl _).mono (same_upd (o.fresh ha)))) p⟩
theorem ro_catA {ds es : List D} (l : ds.length + es.length ≤ 1000) (p : P (.tup (ds ++ es))) : RO K B (rCatA K) (.tup ds) (.tup es) P := fun _ _ _ _ _ o hx hy q => by
  have hx0 := hx
  have hy0 := hy
  cases hx with
  | tup h t =>
    cases hy with
    | tup h' t' =>
      refine ⟨_, _, _, _, rfl, rfl, SqT.of (o.u _ _ h), SqT.of (o.u _ _ h'), sz1000 (by rw [t.length, t'.length]; exact l), fun e => ?_, fun _ e => ?_, fun _ _ a ha => q.new o nt_tup ha (.tup upd_same ((t.append t').mono (same_upd (o.fresh ha)))) p⟩
      · have e2 : ds = [] := by
          have := t.length; rw [e] at this; exact List.length_eq_zero_iff.mp this.symm
        subst e2
        exact q.nil o hy0 p
      · have e2 : es = [] := by
          have := t'.length; rw [e] at this; exact List.length_eq_zero_iff.mp this.symm
        subst e2
        rw [List.append_nil] at p
        exact q.nil o hx0 p
/-- slices -/
def cutD (ds : List D) (lo hi : Option Int) : List D := (ds.drop (HT.sIx ds.length 0 lo)).take (HT.sIx ds.length ds.length hi - HT.sIx ds.length 0 lo)
theorem cutV_dd {G : Hp} {vs : List V} {ds : List D} {lo hi : Option Int} (h : Dds K B G vs ds) : Dds K B G (cutV vs lo hi) (cutD ds lo hi) := by
  unfold cutV cutD
  rw [h.length]
  exact (h.drop _).take _
theorem rs_L {ds : List D} {lo hi : Option Int} (p : P (.lst (cutD ds lo hi))) : RS K B (rSlL K) (.lst ds) lo hi P := fun _ _ _ _ o hx q => by
  cases hx with
  | lst h t => exact ⟨_, _, rfl, SqL.of (o.u _ _ h), fun a ha => q.new o nt_lst ha (.lst upd_same ((cutV_dd t).mono (same_upd (o.fresh ha)))) p⟩
theorem rs_T {ds : List D} {lo hi : Option Int} (p : P (.tup (cutD ds lo hi))) : RS K B (rSlA K) (.tup ds) lo hi P := fun _ _ _ _ o hx q => by
  have hx0 := hx
  cases hx with
  | tup h t =>
    refine ⟨_, _, rfl, SqT.of (o.u _ _ h), fun e => ?_, fun _ a ha => q.new o nt_tup ha (.tup upd_same ((cutV_dd t).mono (same_upd (o.fresh ha)))) p⟩
    rw [t.length] at e
    have e2 : cutD ds lo hi = ds := by
      show (ds.drop (HT.sIx ds.length 0 lo)).take (HT.sIx ds.length ds.length hi - HT.sIx ds.length 0 lo) = ds
      rw [e.1, e.2]
      simp
    rw [e2] at p
    exact q.nil o hx0 p
theorem rs_S {z : Str} {lo hi : Option Int} (l : z.length ≤ 100000) (p : P (.str (cutS z lo hi))) : RS K B rSlS (.str z) lo hi P := fun _ _ _ _ o hx q => by
  cases hx
  exact ⟨z, rfl, Nat.le_trans l (by decide), q.nil o (.str _) p⟩
/-! ### calls of built-ins -/
def D.tyn : D → String
  | .non => "NoneType" | .bl _ => "bool" | .int _ => "int" | .str _ => "str" | .tup _ => "tuple" | .lst _ => "list" | .dic _ _ => "dict" | .cls _ => "type" | .box => "list" | .exn _ _ _ => "type"
def D.isCls : D → Bool
  | .cls _ => true | .exn _ _ _ => true | _ => false
theorem Dd.tyx {G H : Hp} {v : V} {d : D} (o : Ok B G H) (h : Dd K B G v d) (nc : d.isCls = false) : TyX K H v (.type d.tyn) := by
  cases h with
  | non => exact .base .non
  | bl b => exact .base (.bl b)
  | int i => exact .base (.int i)
  | str z => exact .base (.str z)
  | tup h _ => exact .base (.tup (o.u _ _ h))
  | lst h _ => exact .base (.lst (o.u _ _ h))
  | dic h _ => exact .base (.dK (o.u _ _ h))
  | cls n => cases nc
  | exn _ _ _ => cases nc
  | box =>
    obtain ⟨_, _, _, _, _, _, e, _⟩ := o.x
    exact .base (.lst e)
theorem rc_isi {a : D} {n : String} {b : Bool} (nc : a.isCls = false) (e : kitB a.tyn n = some b) (p : P (.bl b)) : RC K B (rIsi K) [a, .cls n] P := fun _ _ _ _ o hs q => by
  cases hs with
  | cons h1 t =>
    cases t with
    | cons h2 t2 =>
      cases t2; cases h2
      exact ⟨_, _, _, _, b, rfl, .ty n, h1.tyx o nc, kit_ty e, q.nil o (.bl b) p⟩
theorem rc_isi2 {a : D} {n m : String} {b c : Bool} (nc : a.isCls = false) (e1 : kitB a.tyn n = some b) (e2 : kitB a.tyn m = some c) (p : P (.bl (b || c))) : RC K B (rIsiT K) [a, .tup [.cls n, .cls m]] P := fun G H _ _ o hs q => by
  cases hs with
  | cons h1 t =>
    cases t with
    | cons h2 t2 =>
      cases t2
      cases h2 with
      | tup hg ht =>
        cases ht with
        | cons k1 t3 =>
          cases t3 with
          | cons k2 t4 =>
            cases t4; cases k1; cases k2
            refine ⟨_, _, _, _, [.type n, .type m], (b || c), rfl, o.u _ _ hg, .cons (.ty n) (.cons (.ty m) .nil), h1.tyx o nc, ?_, q.nil o (.bl _) p⟩
            have f1 : PySem.W.kitOne K (.type a.tyn) (.type n) = some b := kit_ty e1
            have f2 : PySem.W.kitOne K (.type a.tyn) (.type m) = some c := kit_ty e2
            cases b <;> cases c <;> simp [PySem.W.kitAny, f1, f2]
def D.len? : D → Option Nat
  | .str z => some z.length | .tup ds => some ds.length | .lst ds => some ds.length | _ => none
theorem rc_len {a : D} {n : Nat} (e : a.len? = some n) (l : n ≤ 100000) (p : P (.int n)) : RC K B (fun xs H Q => ∃ x n, xs = [x] ∧ LenV K x H n ∧ Q (.int n) H) [a] P := fun _ _ _ _ o hs q => by
  cases hs with
  | cons h t =>
    cases t
    cases h with
    | str z => cases e; exact ⟨_, _, rfl, ⟨Nat.le_trans l (by decide), rfl⟩, q.nil o (.int _) p⟩
    | tup h t => cases e; exact ⟨_, _, rfl, .inr ⟨_, SqT.of (o.u _ _ h), t.length.symm⟩, q.nil o (.int _) p⟩
    | lst h t => cases e; exact ⟨_, _, rfl, .inl ⟨_, SqL.of (o.u _ _ h), t.length.symm⟩, q.nil o (.int _) p⟩
    | _ => cases e
theorem rc_abs {i : Int} (p : P (.int (if i < 0 then -i else i))) : RC K B (fun xs H Q => ∃ i, xs = [.int i] ∧ Q (.int (if i < 0 then -i else i)) H) [.int i] P := fun _ _ _ _ o hs q => by
  cases hs with
  | cons h t => cases t; cases h; exact ⟨i, rfl, q.nil o (.int _) p⟩
theorem rc_int1 {i : Int} (p : P (.int i)) : RC K B (fun xs H Q => (∃ i, xs = [.int i] ∧ Q (.int i) H) ∨ ∃ k, xs = [.bl k] ∧ Q (.int (if k then 1 else 0)) H) [.int i] P := fun _ _ _ _ o hs q => by
  cases hs with
  | cons h t => cases t; cases h; exact .inl ⟨i, rfl, q.nil o (.int _) p⟩
theorem rc_intS {a : Str} {n : Int} (e : PySem.intText? a = some n) (l : a.length ≤ 640) (p : P (.int n)) : RC K B (fun xs H Q => ∃ a n, xs = [.str a] ∧ PySem.intText? a = some n ∧ a.length ≤ 640 ∧ Q (.int n) H) [.str a] P := fun _ _ _ _ o hs q => by
  cases hs with
  | cons h t => cases t; cases h; exact ⟨a, n, rfl, e, l, q.nil o (.int _) p⟩
theorem rc_gcd {i j : Int} (p : P (.int ((Nat.gcd i.natAbs j.natAbs : Nat) : Int))) : RC K B rGcd [.int i, .int j] P := fun _ _ _ _ o hs q => by
  cases hs with
  | cons h t =>
    cases t with
    | cons h2 t2 => cases t2; cases h; cases h2; exact ⟨i, j, rfl, q.nil o (.int _) p⟩
theorem rc_all {bs : List Bool} (p : P (.bl (bs.all id))) : RC K B (rAll K) [.lst (bs.map D.bl)] P := fun _ _ _ _ o hs q => by
  cases hs with
  | cons h t =>
    cases t
    cases h with
    | lst h t => rw [t.bls] at h; exact ⟨_, bs, rfl, SqL.of (o.u _ _ h), q.nil o (.bl _) p⟩
theorem rc_any {bs : List Bool} (p : P (.bl (bs.any id))) : RC K B (rAny K) [.lst (bs.map D.bl)] P := fun _ _ _ _ o hs q => by
  cases hs with
  | cons h t =>
    cases t
    cases h with
    | lst h t => rw [t.bls] at h; exact ⟨_, bs, rfl, SqL.of (o.u _ _ h), q.nil o (.bl _) p⟩
theorem rc_listOf {ds : List D} (p : P (.lst ds)) : RC K B (fun xs H Q => ∃ p ys, xs = [.ref p] ∧ (SqL K H p ys ∨ SqT K H p ys) ∧ ∀ l, H l = none → Q (.ref l) (upd H l (.lst ys))) [.lst ds] P ∧ RC K B (fun xs H Q => ∃ p ys, xs = [.ref p] ∧ (SqL K H p ys ∨ SqT K H p ys) ∧ ∀ l, H l = none → Q (.ref l) (upd H l (.lst ys))) [.tup ds] P := by
  constructor
  · intro _ _ _ _ o hs q
    cases hs with
    | cons h t =>
      cases t
      cases h with
      | lst h t => exact ⟨_, _, rfl, .inl (SqL.of (o.u _ _ h)), fun l hl => q.new o nt_lst hl (.lst upd_same (t.mono (same_upd (o.fresh hl)))) p⟩
  · intro _ _ _ _ o hs q
    cases hs with
    | cons h t =>
      cases t
      cases h with
      | tup h t => exact ⟨_, _, rfl, .inr (SqT.of (o.u _ _ h)), fun l hl => q.new o nt_lst hl (.lst upd_same (t.mono (same_upd (o.fresh hl)))) p⟩
/-! ### methods of texts -/
theorem ty_str {G H : Hp} {x : V} {z : Str} (_ : Ok B G H) (h : Dd K B G x (.str z)) : tyV K "str" x H := by
  cases h; rfl
theorem rm_join {a : Str} {ys : List Str} (l : (ys.map (·.length)).sum + ys.length * a.length ≤ 16777216) (p : P (.str (Txt.join a ys))) : RM K B (fun x xs H Q => ∃ a p, ∃ ys : List Str, x = .str a ∧ xs = [.ref p] ∧ (SqL K H p (ys.map V.str) ∨ SqT K H p (ys.map V.str)) ∧ (ys.map (·.length)).sum + ys.length * a.length ≤ 16777216 ∧ Q (.str (Txt.join a ys)) H) (.str a) [.lst (ys.map D.str)] P := fun _ _ _ _ _ o hx hs q => by
  cases hx
  cases hs with
  | cons h t =>
    cases t
    cases h with
    | lst h t => rw [t.strs] at h; exact ⟨a, _, ys, rfl, rfl, .inl (SqL.of (o.u _ _ h)), l, q.nil o (.str _) p⟩
end
end Dl
namespace Dl
open PySem L2
section
variable (K : PySem.W.Frag) (B : Bt)
/-- what an iterator hands out, by data -/
def ItOk (J : It) (its : List D) (G1 : Hp) : Prop := ∀ G H i, Same G1 G → Ok B G H → (i < its.length → J.go i H) ∧ (∀ x H', i < its.length → J.yld i H x H' → ∃ d G', its[i]? = some d ∧ Go B G H G' H' ∧ Ok B G' H' ∧ Dd K B G' x d) ∧ (i = its.length → J.stop i H)
def WIx (X : Xc) (wi : TI) (δ : List Sd) (P : List D → Prop) : Prop := ∀ G0 H0 σ G H (R : It → Hp → Prop), Stt K B G0 H0 G H σ δ → CtX K B X σ δ G H → (∀ J its G1 H1, Go B G H G1 H1 → Ok B G1 H1 → ItOk K B J its G1 → P its → R J H1) → wi σ H R
abbrev WI (wi : TI) (δ : List Sd) (P : List D → Prop) : Prop := WIx K B {} wi δ P
end
section
variable {K : PySem.W.Frag} {B : Bt} {δ : List Sd} {P P' : D → Prop} {ta tb te : TE} {tt tu : TT} {O : Out} {X : Xc}
theorem it_list {G : Hp} {a : Addr} {vs : List V} {ds : List D} (h : G a = some (.lst vs)) (t : Dds K B G vs ds) : ItOk K B (Itl K a) ds G := by
  intro G1 H1 i s o
  have h1 : SqL K H1 a vs := SqL.of (o.u _ _ (s _ _ h))
  have l := t.length
  refine ⟨fun hi => ?_, fun x H' hi y => ?_, fun e => ⟨vs, h1, by omega⟩⟩
  · obtain ⟨v, e1, _⟩ := t.get (List.getElem?_eq_getElem hi)
    exact ⟨vs, v, h1, e1⟩
  · obtain ⟨rfl, f⟩ := y
    obtain ⟨d, e1, e2⟩ := t.get' (f vs h1)
    exact ⟨d, G1, e1, Go.refl, o, e2.mono s⟩
theorem it_tup {G : Hp} {a : Addr} {vs : List V} {ds : List D} (h : G a = some (.tup vs)) (t : Dds K B G vs ds) : ItOk K B (Itt K a) ds G := by
  intro G1 H1 i s o
  have h1 : SqT K H1 a vs := SqT.of (o.u _ _ (s _ _ h))
  have l := t.length
  refine ⟨fun hi => ?_, fun x H' hi y => ?_, fun e => ⟨vs, h1, by omega⟩⟩
  · obtain ⟨v, e1, _⟩ := t.get (List.getElem?_eq_getElem hi)
    exact ⟨vs, v, h1, e1⟩
  · obtain ⟨rfl, f⟩ := y
    obtain ⟨d, e1, e2⟩ := t.get' (f vs h1)
    exact ⟨d, G1, e1, Go.refl, o, e2.mono s⟩
def signs (z : Str) : List D := z.cps.toList.map fun c => .str ⟨#[c]⟩
theorem it_str {G : Hp} {z : Str} : ItOk K B (Its z) (signs z) G := by
  intro G1 H1 i s o
  have l : (signs z).length = z.cps.size := by unfold signs; rw [List.length_map, Array.length_toList]
  refine ⟨fun hi => by show i < z.cps.size; omega, fun x H' hi y => ?_, fun e => by show z.cps.size ≤ i; omega⟩
  obtain ⟨rfl, c, e, rfl⟩ := y
  refine ⟨.str ⟨#[c]⟩, G1, ?_, Go.refl, o, .str _⟩
  unfold signs
  rw [List.getElem?_map, Array.getElem?_toList, e]
  rfl
def upto (lo : Int) (n : Nat) : List D := (List.range n).map fun (k : Nat) => .int (lo + (k : Int))
theorem it_range {G : Hp} {lo : Int} {n : Nat} : ItOk K B (Itr lo n) (upto lo n) G := by
  intro G1 H1 i s o
  have l : (upto lo n).length = n := by unfold upto; rw [List.length_map, List.length_range]
  refine ⟨fun hi => by show i < n; omega, fun x H' hi y => ?_, fun e => by show n ≤ i; omega⟩
  obtain ⟨rfl, rfl⟩ := y
  refine ⟨.int (lo + i), G1, ?_, Go.refl, o, .int _⟩
  unfold upto
  rw [List.getElem?_map, List.getElem?_range (by omega)]
  rfl
theorem wi_list {P : List D → Prop} (h : WEx K B X te δ fun d => ∃ ds, d = .lst ds ∧ P ds) : WIx K B X (iList K te) δ P := fun G0 H0 σ G H R s xx q =>
  h G0 H0 σ G H _ s xx fun x a G1 H1 g1 o1 hx ⟨ds, e, p⟩ => by
    subst e
    cases hx with
    | lst h t => exact ⟨_, rfl, ⟨_, SqL.of (o1.u _ _ h)⟩, q _ ds G1 H1 g1 o1 (it_list h t) p⟩
theorem wi_tup {P : List D → Prop} (h : WEx K B X te δ fun d => ∃ ds, d = .tup ds ∧ P ds) : WIx K B X (iTup K te) δ P := fun G0 H0 σ G H R s xx q =>
  h G0 H0 σ G H _ s xx fun x a G1 H1 g1 o1 hx ⟨ds, e, p⟩ => by
    subst e
    cases hx with
    | tup h t => exact ⟨_, rfl, ⟨_, SqT.of (o1.u _ _ h)⟩, q _ ds G1 H1 g1 o1 (it_tup h t) p⟩
theorem wi_str {P : List D → Prop} (h : WEx K B X te δ fun d => ∃ z, d = .str z ∧ P (signs z)) : WIx K B X (iStr te) δ P := fun G0 H0 σ G H R s xx q =>
  h G0 H0 σ G H _ s xx fun x a G1 H1 g1 o1 hx ⟨z, e, p⟩ => by
    subst e
    cases hx
    exact ⟨z, rfl, q _ (signs z) G1 H1 g1 o1 it_str p⟩
/-- a for loop over names, by a word -/
theorem ws_for {wi : TI} {i : Nat} {t : TS} (h : WIx K B O.x wi δ fun its => ∃ I : Nat → List Sd → Prop, I 0 δ ∧ (∀ k d δ1, its[k]? = some d → I k δ1 → WS K B t (δ1.set i (.val d)) { nx := I (k + 1), rt := O.rt, bk := O.nx, ct := I (k + 1), x := O.x, ro := O.ro }) ∧ ∀ δ1, I its.length δ1 → O.nx δ1) : WS K B (tFor wi (gName i) t) δ O := fun G0 H0 σ G H E s xx n r b c =>
  h G0 H0 σ G H _ s (xx.ct s) fun J its G1 H1 g1 o1 it ⟨I, i0, turn, last⟩ => by
    refine ⟨fun k m σ H => m = its.length - k ∧ k ≤ its.length ∧ ∃ G δ1, Stt K B G0 H0 G H σ δ1 ∧ Same G1 G ∧ I k δ1, ⟨_, rfl, Nat.zero_le _, G1, δ, s.on g1 o1, Same.refl _, i0⟩, ?_⟩
    rintro k m σ2 H2 ⟨rfl, hk, G2, δ2, s2, sm, ik⟩
    obtain ⟨f1, f2, f3⟩ := it G2 H2 k sm s2.ok
    by_cases hlt : k < its.length
    · refine .inr ⟨f1 hlt, fun σ' H' => ∃ G δ1, Stt K B G0 H0 G H' σ' δ1 ∧ Same G1 G ∧ I (k + 1) δ1, fun σ' H' hN => ⟨its.length - (k + 1), by omega, rfl, hlt, hN⟩, fun x H' y => ?_⟩
      obtain ⟨d, G3, e1, g3, o3, hd⟩ := f2 x H' hlt y
      have s3 := (s2.on g3 o3).setVal i hd
      have sm3 := sm.trans g3.s
      refine turn k d δ2 e1 ik G0 H0 _ G3 H' _ s3 (xx.on (g1.s.trans sm3)) (fun σ4 δ4 G4 H4 m4 s4 p4 => ⟨G4, δ4, s4, sm3.trans m4, p4⟩) r (fun σ4 δ4 G4 H4 m4 s4 p4 => n _ _ _ _ ((g1.s.trans sm3).trans m4) s4 p4) (fun σ4 δ4 G4 H4 m4 s4 p4 => ⟨G4, δ4, s4, sm3.trans m4, p4⟩)
    · have ek : k = its.length := by omega
      subst ek
      exact .inl ⟨f3 rfl, n _ _ _ _ (g1.s.trans sm) s2 (last δ2 ik)⟩
end
end Dl
namespace Dl
open PySem PySem.Spec PyProof.Rows L2
section
variable {K : PySem.W.Frag} {B : Bt} {δ : List Sd} {P P' : D → Prop} {ta tb te : TE} {tt tu : TT} {O : Out} {X : Xc}
theorem wi_range1 {P : List D → Prop} {ta : TA} (h : WAx K B X ta δ fun ds => ∃ j : Int, ds = [.int j] ∧ -(2 ^ 62) ≤ j ∧ j < 2 ^ 62 ∧ P (upto 0 j.toNat)) : WIx K B X (iRng1 ta) δ P := fun G0 H0 σ G H R s xx q =>
  h G0 H0 σ G H _ s xx fun vs ds G1 H1 g1 o1 hs ⟨j, e, l1, l2, p⟩ => by
    subst e
    cases hs with
    | cons h t => cases t; cases h; exact ⟨j, rfl, l1, l2, q _ _ G1 H1 g1 o1 it_range p⟩
theorem wi_range2 {P : List D → Prop} {ta : TA} (h : WAx K B X ta δ fun ds => ∃ i j : Int, ds = [.int i, .int j] ∧ (-(2 ^ 62) ≤ i ∧ i < 2 ^ 62 ∧ -(2 ^ 62) ≤ j ∧ j < 2 ^ 62) ∧ P (upto i (j - i).toNat)) : WIx K B X (iRng2 ta) δ P := fun G0 H0 σ G H R s xx q =>
  h G0 H0 σ G H _ s xx fun vs ds G1 H1 g1 o1 hs ⟨i, j, e, l, p⟩ => by
    subst e
    cases hs with
    | cons h t =>
      cases t with
      | cons h2 t2 => cases t2; cases h; cases h2; exact ⟨i, j, rfl, l, q _ _ G1 H1 g1 o1 it_range p⟩
theorem wipe_set {σ : L2.St} {i : Nat} {v : V} : wipe ((wipe σ [i]).set i (some v)) [i] = wipe σ [i] := by
  show (((σ.set i none).set i (some v)).set i none) = σ.set i none
  rw [List.set_set, List.set_set]
/-- a comprehension of one clause over a name, by a word -/
theorem we_lc {wi : TI} {i : Nat} {te : TE} (h : WIx K B X wi δ fun its => its.length ≤ 1000 ∧ ∃ I : Nat → List D → Prop, I 0 [] ∧ (∀ k d acc, its[k]? = some d → I k acc → WT K B tt (δ.set i (.val d)) fun b => if b = true then WE K B te (δ.set i (.val d)) fun y => I (k + 1) (acc ++ [y]) else I (k + 1) acc) ∧ ∀ acc, I its.length acc → P (.lst acc)) :
    WEx K B X (tLc wi (gName i) tt te [i]) δ P := fun G0 H0 σ G H Q s xx q =>
  h G0 H0 σ G H _ s xx fun J its G1 H1 g1 o1 it ⟨hlen, I, i0, turn, last⟩ => by
    intro A hA
    have s1 := s.on g1 o1
    have q1 := q.on g1 o1
    have nAB := o1.neB hA
    have gA1 : G1 A = none := o1.fresh hA
    have nn : ∀ (a : Addr), H1 a ≠ none → a ≠ A := fun a h e => h (e ▸ hA)
    refine ⟨fun k m H => m = its.length - k ∧ k ≤ its.length ∧ ∃ G vs acc, Go B G1 H1 G H ∧ G A = none ∧ Ok B G H ∧ H A = some (.lst vs) ∧ Dds K B G vs acc ∧ acc.length ≤ k ∧ I k acc,
      ⟨_, rfl, Nat.zero_le _, G1, [], [], loose_go o1 hA, gA1, loose_ok o1 hA, upd_same, .nil, Nat.le_refl _, i0⟩, ?_⟩
    rintro k m H2 ⟨rfl, hk, G2, vs, acc, g2, gA, o2, hV, hD, hL, ik⟩
    obtain ⟨f1, f2, f3⟩ := it G2 H2 k g2.s o2
    have st : Stt K B G0 H0 G2 H2 σ δ := s1.on g2 o2
    by_cases hlt : k < its.length
    · refine .inr ⟨f1 hlt, fun H' => ∃ G vs acc, Go B G1 H1 G H' ∧ G A = none ∧ Ok B G H' ∧ H' A = some (.lst vs) ∧ Dds K B G vs acc ∧ acc.length ≤ k + 1 ∧ I (k + 1) acc,
        fun H' hN => ⟨its.length - (k + 1), by omega, rfl, hlt, hN⟩, fun x H3 y => ?_⟩
      obtain ⟨d, G3, e1, g3, o3, hd⟩ := f2 x H3 hlt y
      have s3 : Stt K B G0 H0 G3 H3 ((wipe σ [i]).set i (some x)) (δ.set i (.val d)) := by
        have z := ((st.on g3 o3).wipe1 i).setVal i hd
        rw [List.set_set (l := δ)] at z
        exact z
      have hV3 := g3.k A _ nAB nt_lst hV
      have gA3 := g3.n A _ nt_lst hV gA
      refine ⟨wipe_set, turn k d acc e1 ik G0 H0 _ G3 H3 _ s3 ctx0 fun b G4 H4 g4 o4 w => ?_⟩
      have hV4 := g4.k A _ nAB nt_lst hV3
      have gA4 := g4.n A _ nt_lst hV3 gA3
      have go4 : Go B G1 H1 G4 H4 := (g2.trans o2 g3).trans o3 g4
      have hD4 : Dds K B G4 vs acc := (hD.mono g3.s).mono g4.s
      cases b with
      | false => exact ⟨G4, vs, acc, go4, gA4, o4, hV4, hD4, Nat.le_succ_of_le hL, w⟩
      | true =>
        refine w G0 H0 _ G4 H4 _ (s3.on g4 o4) ctx0 fun y e G5 H5 g5 o5 hy w5 => ?_
        have hV5 := g5.k A _ nAB nt_lst hV4
        have gA5 := g5.n A _ nt_lst hV4 gA4
        have go5 : Go B G1 H1 G5 H5 := go4.trans o4 g5
        refine ⟨vs, hV5, Nat.lt_of_le_of_lt (by rw [hD.length]; omega : vs.length ≤ 1000) (by decide), G5, vs ++ [y], acc ++ [e], ?_, gA5, write_ok o5 hV5 gA5 nAB, upd_same, (hD4.mono g5.s).append (.cons hy .nil), by rw [List.length_append, List.length_singleton]; omega, w5⟩
        refine ⟨go5.s, fun a o nb ht h => ?_, go5.n, fun c r h => ?_⟩
        · rw [upd_ne (nn a (by rw [h]; exact fun z => nomatch z))]; exact go5.k a o nb ht h
        · obtain ⟨r', h'⟩ := go5.c c r h
          exact ⟨r', by rw [upd_ne nAB.symm]; exact h'⟩
    · have ek : k = its.length := by omega
      subst ek
      refine .inl ⟨f3 rfl, q1 (.ref A) (.lst acc) (upd G2 A (.lst vs)) H2 ⟨g2.s.trans (same_upd gA), g2.k, fun a o ht h g => ?_, g2.c⟩ (freeze_ok o2 nt_lst nAB gA hV) (.lst upd_same (hD.mono (same_upd gA))) (last acc ik)⟩
      rw [upd_ne (nn a (by rw [h]; exact fun z => nomatch z))]
      exact g2.n a o ht h g
theorem getElem_mem' {α : Type} {xs : List α} {k : Nat} {d : α} (h : xs[k]? = some d) : d ∈ xs := List.mem_of_getElem? h
/-- .. each item once, by a function -/
theorem we_lcmap {wi : TI} {i : Nat} {te : TE} (f : D → D) (h : WIx K B X wi δ fun its => its.length ≤ 1000 ∧ (∀ d, d ∈ its → WE K B te (δ.set i (.val d)) fun y => y = f d) ∧ P (.lst (its.map f))) : WEx K B X (tLc wi (gName i) tYes te [i]) δ P :=
  we_lc fun G0 H0 σ G H R s xx q => h G0 H0 σ G H R s xx fun J its G1 H1 g1 o1 it ⟨l, w, p⟩ => q J its G1 H1 g1 o1 it ⟨l, fun k acc => acc = (its.take k).map f, rfl, fun k d acc e ea => wt_yes (by
    show WE K B te _ _
    refine (w d (getElem_mem' e)).mono fun y ey => ?_
    show acc ++ [y] = (its.take (k + 1)).map f
    have ea' : acc = (its.take k).map f := ea
    rw [ey, ea', List.take_add_one, e, List.map_append]
    rfl), fun acc ea => by rw [ea, List.take_length]; exact p⟩
/-- .. each item by some answer with a property -/
theorem we_lcall {wi : TI} {i : Nat} {te : TE} (R : D → Prop) (h : WIx K B X wi δ fun its => its.length ≤ 1000 ∧ (∀ d, d ∈ its → WE K B te (δ.set i (.val d)) R) ∧ ∀ acc, acc.length = its.length → (∀ d ∈ acc, R d) → P (.lst acc)) : WEx K B X (tLc wi (gName i) tYes te [i]) δ P :=
  we_lc fun G0 H0 σ G H Rr s xx q => h G0 H0 σ G H Rr s xx fun J its G1 H1 g1 o1 it ⟨l, w, p⟩ => q J its G1 H1 g1 o1 it ⟨l, fun k acc => acc.length = k ∧ ∀ d ∈ acc, R d, ⟨rfl, fun _ z => nomatch z⟩, fun k d acc e ⟨el, ea⟩ => wt_yes (by
    show WE K B te _ _
    refine (w d (getElem_mem' e)).mono fun y ey => ⟨by rw [List.length_append, el]; rfl, fun z hz => ?_⟩
    rcases List.mem_append.mp hz with hz | hz
    · exact ea z hz
    · rw [List.mem_singleton.mp hz]; exact ey), fun acc ⟨el, ea⟩ => p acc el ea⟩
/-- a while loop by a word and a measure -/
theorem ws_while {t : TS} (I : Nat → List Sd → Prop) (h0 : ∃ m, I m δ) (h : ∀ m δ1, I m δ1 → WTx K B O.x tt δ1 fun b => if b = true then WS K B t δ1 { nx := fun δ2 => ∃ m', m' < m ∧ I m' δ2, rt := O.rt, bk := O.nx, ct := fun δ2 => ∃ m', m' < m ∧ I m' δ2, x := O.x, ro := O.ro } else O.nx δ1) : WS K B (tWhile tt t) δ O := fun G0 H0 σ G H E s xx n r b c => by
  obtain ⟨m0, i0⟩ := h0
  refine ⟨fun m σ H1 => ∃ G1 δ1, Stt K B G0 H0 G1 H1 σ δ1 ∧ Same G G1 ∧ I m δ1, ⟨m0, G, δ, s, Same.refl _, i0⟩, ?_⟩
  rintro m σ1 H1 ⟨G1, δ1, s1, sm, im⟩
  refine h m δ1 im G0 H0 σ1 G1 H1 _ s1 ((xx.on sm).ct s1) fun k G2 H2 g2 o2 w => ?_
  have s2 := s1.on g2 o2
  have sm2 := sm.trans g2.s
  cases k with
  | false => exact n _ _ _ _ sm2 s2 w
  | true =>
    refine ⟨fun σ' H' => ∃ m', m' < m ∧ ∃ G1 δ1, Stt K B G0 H0 G1 H' σ' δ1 ∧ Same G G1 ∧ I m' δ1, fun σ' H' ⟨m', hm, z⟩ => ⟨m', hm, z⟩, ?_⟩
    exact w G0 H0 σ1 G2 H2 _ s2 (xx.on sm2) (fun σ3 δ3 G3 H3 m3 s3 ⟨m', hm, z⟩ => ⟨m', hm, G3, δ3, s3, sm2.trans m3, z⟩) r (fun σ3 δ3 G3 H3 m3 s3 p => n _ _ _ _ (sm2.trans m3) s3 p) (fun σ3 δ3 G3 H3 m3 s3 ⟨m', hm, z⟩ => ⟨m', hm, G3, δ3, s3, sm2.trans m3, z⟩)
end

/-! ### defs -/
def init (N : List Str) (ds : List D) : List Sd := ds.map .val ++ List.replicate (N.length - ds.length) .no
section
variable {P : Program} {w : World} {K : PySem.W.Frag} {mg : Str → Option Value} {base : Heap}
theorem stt_start {B : Bt} {G H : Hp} {N : List Str} {vs : List V} {ds : List D} (o : Ok B G H) (h : Dds K B G vs ds) : Stt K B G H G H (L2.start N vs) (init N ds) := by
  have l := h.length
  refine ⟨Go.refl, o, ?_, fun i d e => ?_, fun i es e => ?_, fun i j es fs a e1 e2 e3 e4 => ?_⟩
  · unfold L2.start init
    simp only [List.length_append, List.length_map, List.length_replicate, l]
  · unfold init at e
    unfold L2.start
    rw [List.getElem?_append] at e ⊢
    rw [List.length_map] at e ⊢
    by_cases hi : i < ds.length
    · rw [if_pos hi, List.getElem?_map, List.getElem?_eq_getElem hi] at e
      obtain ⟨v, e1, e2⟩ := h.get (List.getElem?_eq_getElem hi)
      have e' : ds[i] = d := by simpa using e
      rw [if_pos (by omega), List.getElem?_map, e1]
      exact ⟨v, rfl, e' ▸ e2⟩
    · rw [if_neg hi, List.getElem?_replicate] at e
      split at e <;> cases e
  · unfold init at e
    rw [List.getElem?_append, List.length_map] at e
    by_cases hi : i < ds.length
    · rw [if_pos hi, List.getElem?_map, List.getElem?_eq_getElem hi] at e
      cases e
    · rw [if_neg hi, List.getElem?_replicate] at e
      split at e <;> cases e
  · unfold init at e1
    rw [List.getElem?_append, List.length_map] at e1
    by_cases hi : i < ds.length
    · rw [if_pos hi, List.getElem?_map, List.getElem?_eq_getElem hi] at e1
      cases e1
    · rw [if_neg hi, List.getElem?_replicate] at e1
      split at e1 <;> cases e1
/-- a def that may be called by its name -/
structure Cl (P : Program) (w : World) (K : PySem.W.Frag) (mg : Str → Option Value) (base : Heap) (k : Nat) (x : Str) (st : Stmt) (ps : List Str) (sp : Sp) : Prop where
  ex : ∃ (f : Addr) (fd : FuncData), Fun K x x st f fd ∧ FnOk P w K mg base CX0 k f fd ps sp ∧ mg x = some (.ref f) ∧ Binds K fd ps []
/-- .. by keywords alone -/
structure Ck (P : Program) (w : World) (K : PySem.W.Frag) (mg : Str → Option Value) (base : Heap) (k : Nat) (x : Str) (ks : List Str) (sp : Sp) (gV : List V → List V) : Prop where
  ex : ∃ (f : Addr) (fd : FuncData) (ps : List Str) (g : List Value → List Value), FnOk P w K mg base CX0 k f fd ps sp ∧ mg x = some (.ref f) ∧ PySem.W.keepIn K (.ref f) = true ∧ KBn K fd ps 0 ks (fun _ ws => g ws) (fun _ zs => gV zs)
/-- a def of the text as it stands behind the top -/
structure Df (K : PySem.W.Frag) (mg : Str → Option Value) (x : Str) (st : Stmt) : Prop where
  ex : ∃ (f : Addr) (fd : FuncData), Fun K x x st f fd ∧ mg x = some (.ref f)
theorem cl_of {x : Str} {st : Stmt} {N ps : List Str} {k : Nat} {pre : List D → Prop} {post : List D → D → Prop} (F : Df K mg x st) (S : FnScope N ps (defScope st))
    (hb : ∀ (kV doc pm : Value) (an : Option Addr) (cdv ct : Value) (us : List Value), us.length = ps.length → bindArgs (PySem.W.fnOf x x (defArgs st) (defBody st) (defScope st) .none kV doc pm an cdv ct) ⟨us, []⟩ = pure (ps.zip us))
    (hl : ∀ ds, pre ds → ds.length = ps.length)
    (h : ∀ (f : Addr) (cdv : Value) (A : Around) (outer : List Env) (s : Shared) (H : Hp) (E : XK), Room k (A.deeper (envOfC x (defScope st) s.heap.objs.size f cdv)) →
      ∃ t, PSs (cxOf CX0 P w K mg base N x (defScope st) f cdv A outer s H E).nox (defBody st) t ∧ ∀ B ds, pre ds → WS K B t (init N ds) { nx := fun _ => post ds .non, rt := post ds }) : Cl P w K mg base (k + 1) x st ps (SpD K pre post) := by
  obtain ⟨f, fd, F, hm⟩ := F.ex
  refine ⟨f, fd, F, F.ok S (fun vs H Q E hsp => ?_) (fun cdv A outer s H vs Q E hr hsp => ?_), hm, F.binds hb⟩
  · obtain ⟨B, G, ds, o, hs, p, q⟩ := hsp
    exact hs.length.trans (hl ds p)
  · obtain ⟨B, G, ds, o, hs, p, q⟩ := hsp
    obtain ⟨t, ht, ww⟩ := h f cdv A outer s H E hr
    exact ⟨t, ht, ww B ds p G H _ G H _ (stt_start o hs) xs0 (fun σ1 δ1 G1 H1 _ s1 z => q .non .non G1 H1 s1.go s1.ok .non z) ⟨fun v d G1 H1 g o1 hd z => q v d G1 H1 g o1 hd z, fun _ _ _ _ _ _ _ _ _ _ _ _ z => z.elim⟩ (fun _ _ _ _ _ _ z => z.elim) (fun _ _ _ _ _ _ z => z.elim)⟩
/-- .. a new list -/
theorem cln_of {x : Str} {st : Stmt} {N ps : List Str} {k : Nat} {pre : List D → Prop} {post : List D → List D → Prop} (F : Df K mg x st) (S : FnScope N ps (defScope st))
    (hb : ∀ (kV doc pm : Value) (an : Option Addr) (cdv ct : Value) (us : List Value), us.length = ps.length → bindArgs (PySem.W.fnOf x x (defArgs st) (defBody st) (defScope st) .none kV doc pm an cdv ct) ⟨us, []⟩ = pure (ps.zip us))
    (hl : ∀ ds, pre ds → ds.length = ps.length)
    (h : ∀ (f : Addr) (cdv : Value) (A : Around) (outer : List Env) (s : Shared) (H : Hp) (E : XK), Room k (A.deeper (envOfC x (defScope st) s.heap.objs.size f cdv)) →
      ∃ t, PSs (cxOf CX0 P w K mg base N x (defScope st) f cdv A outer s H E).nox (defBody st) t ∧ ∀ B ds, pre ds → WS K B t (init N ds) { nx := fun _ => False, rt := fun _ => False, ro := post ds }) : Cl P w K mg base (k + 1) x st ps (SpN K pre post) := by
  obtain ⟨f, fd, F, hm⟩ := F.ex
  refine ⟨f, fd, F, F.ok S (fun vs H Q E hsp => ?_) (fun cdv A outer s H vs Q E hr hsp => ?_), hm, F.binds hb⟩
  · obtain ⟨B, G, ds, o, hs, p, q⟩ := hsp
    exact hs.length.trans (hl ds p)
  · obtain ⟨B, G, ds, o, hs, p, q⟩ := hsp
    obtain ⟨t, ht, ww⟩ := h f cdv A outer s H E hr
    exact ⟨t, ht, ww B ds p G H _ G H _ (stt_start o hs) xs0 (fun σ1 δ1 G1 H1 _ s1 z => z.elim) ⟨fun v d G1 H1 g o1 hd z => z.elim, fun a vs es G1 H1 g o1 nb fr ga ha hd z => q a vs es G1 H1 g o1 nb fr ga ha hd z⟩ (fun _ _ _ _ _ _ z => z.elim) (fun _ _ _ _ _ _ z => z.elim)⟩
theorem Cl.imp {k : Nat} {x : Str} {st : Stmt} {ps : List Str} {sp sp' : Sp} (c : Cl P w K mg base k x st ps sp) (h : ∀ vs H Q E, sp' vs H Q E → sp vs H Q E) : Cl P w K mg base k x st ps sp' := by
  obtain ⟨f, fd, F0, F, r⟩ := c.ex
  exact ⟨f, fd, F0, F.imp h, r⟩
theorem Cl.frz {k : Nat} {x : Str} {st : Stmt} {ps : List Str} {pre : List D → Prop} {post : List D → List D → Prop} {post' : List D → D → Prop} (c : Cl P w K mg base k x st ps (SpN K pre post)) (h : ∀ ds es, post ds es → post' ds (.lst es)) : Cl P w K mg base k x st ps (SpD K pre post') :=
  c.imp fun vs H Q E ⟨B, G, ds, o, hs, p, q⟩ => ⟨B, G, ds, o, hs, p, fun a ws es G1 H1 g o1 nb fr ga ha hd z => q (.ref a) (.lst es) (upd G1 a (.lst ws)) H1 ⟨g.s.trans (same_upd ga), g.k, fun b u ht e hg => by
    rw [upd_ne (fun e2 => fr u ht (by rw [← e2]; exact e))]; exact g.n b u ht e hg, g.c⟩ (freeze_ok o1 nt_lst nb ga ha) (.lst upd_same (hd.mono (same_upd ga))) (h ds es z)⟩
theorem ck_of {x : Str} {st : Stmt} {k : Nat} {ps ks : List Str} {sp : Sp} {gV : List V → List V} (c : Cl P w K mg base k x st ps sp) (g : List Value → List Value)
    (hb : ∀ (kV doc pm : Value) (an : Option Addr) (cdv ct : Value) (ws : List Value), ws.length = ks.length → bindArgs (PySem.W.fnOf x x (defArgs st) (defBody st) (defScope st) .none kV doc pm an cdv ct) ⟨[], ks.zip ws⟩ = pure (ps.zip (g ws)))
    (hr : ∀ {zs : List V} {ws : List Value}, Vals zs ws → Vals (gV zs) (g ws)) : Ck P w K mg base k x ks sp gV := by
  obtain ⟨f, fd, F, G, hm, _⟩ := c.ex
  have kp := F.kp
  obtain ⟨oc, od, kV, doc, pm, an, cdv, ct, osl, rfl, lk, hcd⟩ := F.ex
  refine ⟨f, _, ps, g, G, hm, kp, ⟨fun s us ws _ l1 l2 => ?_, fun _ r => hr r⟩⟩
  have e : us = [] := List.length_eq_zero_iff.mp l1
  subst e
  exact .of_eq (hb kV doc pm an cdv ct ws l2)
end
section
variable {X : Cx} {k j : Nat} {x : Str} {st : Stmt} {ps ks : List Str} {sp : Sp} {p pos : Pos} {e : Expr} {es : List Expr} {t tk : TA} {kws : List Keyword} {gV : List V → List V}
theorem pe_c (c : Cl X.prog X.w X.K X.mg X.base k x st ps sp) (hr : Room j X.A) (hk : k ≤ j) (hg : Gl X x) (ha : PA X (e :: es) t)
    (hdb : (x == ("__debug__" : Str)) = false := by decide) (he : starEach (e :: es) X.env = (false, eval e X.env) :: starEach es X.env := by rfl) (hpl : (backTo pos (starEach es X.env)).any (·.1) = false := by rfl) :
    PE X (.Call (.Name x p) (e :: es) [] pos) (tCall sp [] E0 t) := by
  obtain ⟨f, fd, F0, F, hm, b⟩ := c.ex
  exact pe_call F (hr.mono hk) hg hm F0.kp b .nil pass0 ha hdb he hpl
theorem pe_c0 (c : Cl X.prog X.w X.K X.mg X.base k x st ps sp) (hr : Room j X.A) (hk : k ≤ j) (hg : Gl X x) (hdb : (x == ("__debug__" : Str)) = false := by decide) :
    PE X (.Call (.Name x p) [] [] pos) (tCall sp [] E0 tNil) := by
  obtain ⟨f, fd, F0, F, hm, b⟩ := c.ex
  exact pe_call0 F (hr.mono hk) hg hm F0.kp b .nil pass0 hdb
/-- f(k = v, ..) -/
def tCk (m : Nat) (sp : Sp) (gV : List V → List V) (tk : TA) : TE := fun σ H Q => tk σ H fun zs H2 => zs.length = m ∧ sp (gV zs) H2 Q E0
theorem pe_ck (c : Ck X.prog X.w X.K X.mg X.base k x ks sp gV) (hr : Room j X.A) (hk : k ≤ j) (hg : Gl X x) (hkw : PK X kws tk)
    (hall : (backToKw pos (keywordEach kws X.env)).all (·.1.isSome) = true := by rfl) (hks : (backToKw pos (keywordEach kws X.env)).filterMap (·.1) = ks := by rfl) (hdb : (x == ("__debug__" : Str)) = false := by decide)
    (hpl : ((backTo pos (starEach [] X.env)).any (·.1) || (backToKw pos (keywordEach kws X.env)).any (·.1.isNone)) = false := by rfl) :
    PE X (.Call (.Name x p) [] kws pos) (tCk ks.length sp gV tk) := by
  obtain ⟨f, fd, ps, g, F, hm, kp, b⟩ := c.ex
  refine ⟨fun pins s σ H Q I h => ?_⟩
  refine wpAny_Call_Name_kw (ld_glob I hg hm ?_ hdb)
  refine PySem.W.callWith_KW0 (h₀ := X.base) I.ok.mod.kin kp hall ?_ hpl
  refine thn (hkw.run pos pins s σ H _ I h) fun ws s2 ⟨zs, H2, I2, rz, l2, q2⟩ => ⟨I2.kIn, ?_⟩
  rw [hks]
  exact run_fnN F (hr.mono hk) b pass0 I2 .nil rz rfl l2 q2
end
section
variable {K : PySem.W.Frag} {B : Bt} {δ : List Sd} {P : D → Prop} {X : Xc}
theorem we_ck {pre : List D → Prop} {post : List D → D → Prop} {m : Nat} {gV : List V → List V} {gD : List D → List D} {tk : TA} (hg : ∀ G vs ds, Dds K B G vs ds → Dds K B G (gV vs) (gD ds)) (h : WAx K B X tk δ fun ds => ds.length = m ∧ pre (gD ds) ∧ ∀ d, post (gD ds) d → P d) : WEx K B X (tCk m (SpD K pre post) gV tk) δ P := fun G0 H0 σ G H Q s xx q =>
  h G0 H0 σ G H _ s xx fun vs ds G1 H1 g1 o1 hs ⟨l, p, mm⟩ =>
    ⟨hs.length.trans l, B, G1, gD ds, o1, hg _ _ _ hs, p, fun v d G2 H2 g2 o2 hd pd => (q.on g1 o1) v d G2 H2 g2 o2 hd (mm d pd)⟩
end
end Dl
namespace Dl
open PySem PySem.Spec PyProof.Rows L2
section
variable {K : PySem.W.Frag} {B : Bt} {P : D → Prop} {a : D}
def isInt : D → Bool | .int _ => true | .bl _ => true | _ => false
def isBool : D → Bool | .bl _ => true | _ => false
def isStr : D → Bool | .str _ => true | _ => false
def isTup : D → Bool | .tup _ => true | _ => false
def isLst : D → Bool | .lst _ => true | .box => true | _ => false
def isDic : D → Bool | .dic _ _ => true | _ => false
theorem rc_int (nc : a.isCls = false) (p : P (.bl (isInt a))) : RC K B (rIsi K) [a, .cls "int"] P := by
  cases a <;> first | (exact Bool.noConfusion nc) | exact rc_isi rfl (by dsimp only [D.tyn, isInt, isBool, isStr, isTup, isLst, isDic]; decide +kernel) p
theorem rc_bool (nc : a.isCls = false) (p : P (.bl (isBool a))) : RC K B (rIsi K) [a, .cls "bool"] P := by
  cases a <;> first | (exact Bool.noConfusion nc) | exact rc_isi rfl (by dsimp only [D.tyn, isInt, isBool, isStr, isTup, isLst, isDic]; decide +kernel) p
theorem rc_str (nc : a.isCls = false) (p : P (.bl (isStr a))) : RC K B (rIsi K) [a, .cls "str"] P := by
  cases a <;> first | (exact Bool.noConfusion nc) | exact rc_isi rfl (by dsimp only [D.tyn, isInt, isBool, isStr, isTup, isLst, isDic]; decide +kernel) p
theorem rc_tuple (nc : a.isCls = false) (p : P (.bl (isTup a))) : RC K B (rIsi K) [a, .cls "tuple"] P := by
  cases a <;> first | (exact Bool.noConfusion nc) | exact rc_isi rfl (by dsimp only [D.tyn, isInt, isBool, isStr, isTup, isLst, isDic]; decide +kernel) p
theorem rc_list (nc : a.isCls = false) (p : P (.bl (isLst a))) : RC K B (rIsi K) [a, .cls "list"] P := by
  cases a <;> first | (exact Bool.noConfusion nc) | exact rc_isi rfl (by dsimp only [D.tyn, isInt, isBool, isStr, isTup, isLst, isDic]; decide +kernel) p
theorem rc_dict (nc : a.isCls = false) (p : P (.bl (isDic a))) : RC K B (rIsi K) [a, .cls "dict"] P := by
  cases a <;> first | (exact Bool.noConfusion nc) | exact rc_isi rfl (by dsimp only [D.tyn, isInt, isBool, isStr, isTup, isLst, isDic]; decide +kernel) p
theorem rc_lt (nc : a.isCls = false) (p : P (.bl (isLst a || isTup a))) : RC K B (rIsiT K) [a, .tup [.cls "list", .cls "tuple"]] P := by
  cases a <;> first | (exact Bool.noConfusion nc) | exact rc_isi2 rfl (by dsimp only [D.tyn, isLst, isTup]; decide +kernel) (by dsimp only [D.tyn, isLst, isTup]; decide +kernel) p
theorem rc_allf {f : D → Bool} {xs : List D} (p : P (.bl (xs.all f))) : RC K B (rAll K) [.lst (xs.map fun d => .bl (f d))] P := by
  have e : (xs.map fun d => D.bl (f d)) = (xs.map f).map D.bl := by rw [List.map_map]; rfl
  rw [e]
  refine rc_all ?_
  rw [List.all_map]
  exact p
theorem ro_inC {c : Nat} {z : Str} (p : P (.bl (decide (c ∈ z.cps.toList)))) : RO K B (fun x y H Q => ∃ (c : Nat) (z : Str), x = .str ⟨#[c]⟩ ∧ y = .str z ∧ Q (.bl (decide (c ∈ z.cps.toList))) H) (.str ⟨#[c]⟩) (.str z) P := fun _ _ _ _ _ o hx hy q => by
  cases hx; cases hy
  exact ⟨c, z, rfl, rfl, q.nil o (.bl _) p⟩
variable {δ : List Sd} {X : Xc}
theorem we_callF {pre : List D → Prop} {F : List D → D} {E : XK} {t : TA} (h : WAx K B X t δ fun ds => pre ds ∧ P (F ds)) : WEx K B X (tCall (SpD K pre fun ds r => r = F ds) [] E t) δ P := we_call fun G0 H0 σ G H Q s xx q => h G0 H0 σ G H Q s xx fun vs ds G1 H1 g o hs ⟨a, b⟩ => q vs ds G1 H1 g o hs ⟨a, fun _ e => e ▸ b⟩
def p1 (q : D → Prop) : List D → Prop | [d] => q d | _ => False
def p2 (q : D → D → Prop) : List D → Prop | [a, b] => q a b | _ => False
def p3 (q : D → D → D → Prop) : List D → Prop | [a, b, c] => q a b c | _ => False
def f1 (f : D → D) : List D → D | [d] => f d | _ => .non
def f2 (f : D → D → D) : List D → D | [a, b] => f a b | _ => .non
def f3 (f : D → D → D → D) : List D → D | [a, b, c] => f a b c | _ => .non
theorem p1_len {q : D → Prop} : ∀ ds, p1 q ds → ds.length = 1 | [_], _ => rfl
theorem p2_len {q : D → D → Prop} : ∀ ds, p2 q ds → ds.length = 2 | [_, _], _ => rfl
theorem p3_len {q : D → D → D → Prop} : ∀ ds, p3 q ds → ds.length = 3 | [_, _, _], _ => rfl
theorem p1_ex {q : D → Prop} : ∀ {ds}, p1 q ds → ∃ d, ds = [d] ∧ q d | [d], h => ⟨d, rfl, h⟩
theorem p2_ex {q : D → D → Prop} : ∀ {ds}, p2 q ds → ∃ a b, ds = [a, b] ∧ q a b | [a, b], h => ⟨a, b, rfl, h⟩
theorem p3_ex {q : D → D → D → Prop} : ∀ {ds}, p3 q ds → ∃ a b c, ds = [a, b, c] ∧ q a b c | [a, b, c], h => ⟨a, b, c, rfl, h⟩
end
end Dl
/-! Local lists that are changed: a slot of the kind own. -/
namespace Dl
open PySem L2
section
variable {K : PySem.W.Frag} {B : Bt} {G G1 H H1 G0 H0 : Hp} {σ : L2.St} {δ : List Sd} {P : D → Prop} {ta tb te : TE} {O : Out} {X : Xc}
theorem own_set (i j : Nat) (x : Sd) (δ : List Sd) {ds : List D} (h : (δ.set i x)[j]? = some (.own ds)) : (i = j ∧ x = .own ds ∧ i < δ.length) ∨ (i ≠ j ∧ δ[j]? = some (.own ds)) := by
  rw [List.getElem?_set] at h
  by_cases ij : i = j
  · rw [if_pos ij] at h
    split at h
    · rename_i hl
      exact .inl ⟨ij, Option.some.inj h, by omega⟩
    · cases h
  · rw [if_neg ij] at h
    exact .inr ⟨ij, h⟩
/-- a new list in a slot -/
theorem Stt.setOwn {p : Addr} {vs : List V} {ds : List D} (s : Stt K B G0 H0 G H σ δ) (i : Nat) (hp : H p = none) (h0 : ∀ o, nt o → H0 p ≠ some o) (hd : Dds K B G vs ds) : Stt K B G0 H0 G (upd H p (.lst vs)) (σ.set i (some (.ref p))) (δ.set i (.own ds)) := by
  have nb := s.ok.neB hp
  have s2 := s.on (loose_go s.ok (x := .lst vs) hp) (loose_ok s.ok hp)
  have old : ∀ (j : Nat) es a, δ[j]? = some (.own es) → σ[j]? = some (some (.ref a)) → a ≠ p := fun j es a h1 h2 e => by
    obtain ⟨b, ws, e1, _, _, _, e2, _⟩ := s.own j es h1
    rw [h2] at e1
    cases e1
    rw [e, hp] at e2
    cases e2
  refine ⟨s2.go, s2.ok, by rw [List.length_set, List.length_set, s.len], fun j d h => ?_, fun j es h => ?_, fun j l es fs a h1 h2 h3 h4 => ?_⟩
  · rw [List.getElem?_set] at h
    by_cases ij : i = j
    · rw [if_pos ij] at h; split at h <;> cases h
    · rw [if_neg ij] at h
      obtain ⟨v, e1, e2⟩ := s.val j d h
      exact ⟨v, by rw [List.getElem?_set, if_neg ij]; exact e1, e2⟩
  · rcases own_set i j _ δ h with ⟨ij, e, hl⟩ | ⟨ij, e⟩
    · cases e
      exact ⟨p, vs, by rw [List.getElem?_set, if_pos ij, if_pos (by rw [s.len]; omega)], nb, h0, s.ok.fresh hp, upd_same, hd⟩
    · obtain ⟨a, ws, e1, e2⟩ := s2.own j es e
      exact ⟨a, ws, by rw [List.getElem?_set, if_neg ij]; exact e1, e2⟩
  · rw [List.getElem?_set] at h3 h4
    rcases own_set i j _ δ h1 with ⟨ij, _, _⟩ | ⟨ij, e1⟩
    · rcases own_set i l _ δ h2 with ⟨il, _, _⟩ | ⟨il, e2⟩
      · exact ij.symm.trans il
      · rw [if_pos ij] at h3
        rw [if_neg il] at h4
        split at h3
        · cases h3; exact absurd rfl (old l fs _ e2 h4)
        · cases h3
    · rcases own_set i l _ δ h2 with ⟨il, _, _⟩ | ⟨il, e2⟩
      · rw [if_pos il] at h4
        rw [if_neg ij] at h3
        split at h4
        · cases h4; exact absurd rfl (old j es _ e1 h3)
        · cases h4
      · rw [if_neg ij] at h3
        rw [if_neg il] at h4
        exact s.apart j l es fs a e1 e2 h3 h4
theorem ws_setOwn {i : Nat} {t : TA} (h : WAx K B O.x t δ fun ds => ds.length ≤ 1000 ∧ O.nx (δ.set i (.own ds))) : WS K B (tAsg (tLst t) (gName i)) δ O := fun G0 H0 σ G H E s xx n _ _ _ =>
  h G0 H0 σ G H _ s (xx.ct s) fun vs ds G1 H1 g o hs ⟨l, p⟩ => ⟨by rw [hs.length]; exact sz1000 l, fun a ha => by
    have s1 := s.on g o
    have h0 : ∀ u, nt u → H0 a ≠ some u := fun u ht q => by
      by_cases e : a = B.a
      · exact absurd ha (e ▸ o.hb)
      · rw [s1.go.k a u e ht q] at ha; cases ha
    exact n _ _ G1 _ g.s (s1.setOwn i ha h0 hs) p⟩
/-- len, an item, a slice of it -/
theorem we_ownLen {i : Nat} {ds : List D} (h : δ[i]? = some (.own ds)) (p : P (.int (ds.length : Int))) : WEx K B X (tCB (fun xs H Q => ∃ x n, xs = [x] ∧ LenV K x H n ∧ Q (.int n) H) (tCons (tVar i) tNil)) δ P := fun _ _ _ _ _ _ s _ q => by
  obtain ⟨a, vs, e1, _, _, _, e2, e3⟩ := s.own i ds h
  refine ⟨_, e1, _, _, rfl, .inl ⟨_, SqL.of e2, rfl⟩, ?_⟩
  rw [e3.length]
  exact q.nil s.ok (.int _) p
theorem we_ownIx {i : Nat} {ds : List D} (h : δ[i]? = some (.own ds)) (hb : WEx K B X tb δ fun d => ∃ j x, d = .int j ∧ atI ds j = some x ∧ P x) : WEx K B X (tOp (rIxL K) (tVar i) tb) δ P := fun G0 H0 σ G H Q s xx q => by
  obtain ⟨a, vs, e1, nb, _, _, e2, e3⟩ := s.own i ds h
  refine ⟨_, e1, hb G0 H0 σ G H _ s xx fun y d G1 H1 g1 o1 hy ⟨j, x, ed, ea, p⟩ => ?_⟩
  subst ed
  cases hy
  obtain ⟨v, h1, h2⟩ := atI_dd (e3.mono g1.s) ea
  exact ⟨a, vs, j, v, rfl, rfl, SqL.of (g1.k a _ nb nt_lst e2), h1, (q.on g1 o1).nil o1 h2 p⟩
theorem we_ownSl {i : Nat} {ds : List D} {tl th : TO} (h : δ[i]? = some (.own ds)) (hb : WOx K B X tl δ fun lo => WOx K B X th δ fun hi => P (.lst (cutD ds lo hi))) : WEx K B X (tSl (rSlL K) (tVar i) tl th) δ P := fun G0 H0 σ G H Q s xx q => by
  obtain ⟨a, vs, e1, nb, _, _, e2, e3⟩ := s.own i ds h
  refine ⟨_, e1, hb G0 H0 σ G H _ s xx fun lo G1 H1 g1 o1 w => w G0 H0 σ G1 H1 _ (s.on g1 o1) (xx.on g1 o1) fun hi G2 H2 g2 o2 p => ?_⟩
  have g := g1.trans o1 g2
  exact ⟨a, vs, rfl, SqL.of (g.k a _ nb nt_lst e2), fun r hr => (q.on g o2).new o2 nt_lst hr (.lst upd_same ((cutV_dd (e3.mono g.s)).mono (same_upd (o2.fresh hr)))) p⟩
/-- it is handed back -/
theorem ws_retOwn {i : Nat} {ds : List D} (h : δ[i]? = some (.own ds)) (p : O.ro ds) : WS K B (tRet (tVar i)) δ O := fun G0 H0 σ G H E s _ _ r _ _ => by
  obtain ⟨a, vs, e1, nb, e0, eg, e2, e3⟩ := s.own i ds h
  exact ⟨_, e1, r.2 a vs ds G H s.go s.ok nb e0 eg e2 e3 p⟩
/-- .. as a value -/
theorem ws_retOwnV {i : Nat} {ds : List D} (h : δ[i]? = some (.own ds)) (p : O.rt (.lst ds)) : WS K B (tRet (tVar i)) δ O := fun G0 H0 σ G H E s _ _ r _ _ => by
  obtain ⟨a, vs, e1, nb, e0, eg, e2, e3⟩ := s.own i ds h
  refine ⟨_, e1, r.1 (.ref a) (.lst ds) (upd G a (.lst vs)) H ⟨s.go.s.trans (same_upd eg), s.go.k, fun x u ht hx hg => ?_, s.go.c⟩ (freeze_ok s.ok nt_lst nb eg e2) (.lst upd_same (e3.mono (same_upd eg))) p⟩
  have ne : x ≠ a := fun e => e0 u ht (e ▸ hx)
  rw [upd_ne ne]
  exact s.go.n x u ht hx hg
/-- x = f(..), f handing back a new list -/
theorem Stt.tookOwn {a : Addr} {vs : List V} {ds : List D} (s : Stt K B G0 H0 G H σ δ) (i : Nat) (nb : a ≠ B.a) (h0 : ∀ o, nt o → H0 a ≠ some o) (ga : G a = none) (ha : H a = some (.lst vs)) (hd : Dds K B G vs ds) (old : ∀ (j : Nat) es b, δ[j]? = some (.own es) → σ[j]? = some (some (.ref b)) → b ≠ a) : Stt K B G0 H0 G H (σ.set i (some (.ref a))) (δ.set i (.own ds)) := by
  refine ⟨s.go, s.ok, by rw [List.length_set, List.length_set, s.len], fun j d h => ?_, fun j es h => ?_, fun j l es fs b h1 h2 h3 h4 => ?_⟩
  · rw [List.getElem?_set] at h
    by_cases ij : i = j
    · rw [if_pos ij] at h; split at h <;> cases h
    · rw [if_neg ij] at h
      obtain ⟨v, e1, e2⟩ := s.val j d h
      exact ⟨v, by rw [List.getElem?_set, if_neg ij]; exact e1, e2⟩
  · rcases own_set i j _ δ h with ⟨ij, e, hl⟩ | ⟨ij, e⟩
    · cases e
      exact ⟨a, vs, by rw [List.getElem?_set, if_pos ij, if_pos (by rw [s.len]; omega)], nb, h0, ga, ha, hd⟩
    · obtain ⟨b, ws, e1, e2⟩ := s.own j es e
      exact ⟨b, ws, by rw [List.getElem?_set, if_neg ij]; exact e1, e2⟩
  · rw [List.getElem?_set] at h3 h4
    rcases own_set i j _ δ h1 with ⟨ij, _, _⟩ | ⟨ij, e1⟩
    · rcases own_set i l _ δ h2 with ⟨il, _, _⟩ | ⟨il, e2⟩
      · exact ij.symm.trans il
      · rw [if_pos ij] at h3
        rw [if_neg il] at h4
        split at h3
        · cases h3; exact absurd rfl (old l fs _ e2 h4)
        · cases h3
    · rcases own_set i l _ δ h2 with ⟨il, _, _⟩ | ⟨il, e2⟩
      · rw [if_pos il] at h4
        rw [if_neg ij] at h3
        split at h4
        · cases h4; exact absurd rfl (old j es _ e1 h3)
        · cases h4
      · rw [if_neg ij] at h3
        rw [if_neg il] at h4
        exact s.apart j l es fs b e1 e2 h3 h4
theorem ws_setN {i : Nat} {pre : List D → Prop} {post : List D → List D → Prop} {E : XK} {t : TA} (h : WAx K B O.x t δ fun ds => pre ds ∧ ∀ es, post ds es → O.nx (δ.set i (.own es))) : WS K B (tAsg (tCall (SpN K pre post) [] E t) (gName i)) δ O := fun G0 H0 σ G H E' s xx n _ _ _ =>
  h G0 H0 σ G H _ s (xx.ct s) fun vs ds G1 H1 g1 o1 hs ⟨p, m⟩ => by
    rw [List.append_nil]
    refine ⟨B, G1, ds, o1, hs, p, fun a ws es G2 H2 g2 o2 nb fr ga ha hd pe => ?_⟩
    have s1 := s.on g1 o1
    have s2 := s1.on g2 o2
    have fr0 : ∀ o, nt o → H0 a ≠ some o := fun o ht e => fr o ht (s1.go.k a o nb ht e)
    refine n _ _ G2 H2 (g1.s.trans g2.s) (s2.tookOwn i nb fr0 ga ha hd fun j fs b e1 e2 eb => ?_) (m es pe)
    obtain ⟨b', us, f1, f2, f3, f4, f5, f6⟩ := s1.own j fs e1
    rw [e2] at f1
    cases f1
    exact fr _ nt_lst (eb ▸ f5)
/-- it is written anew -/
theorem Stt.putOwn {i : Nat} {a : Addr} {vs vs' : List V} {ds ds' : List D} (s : Stt K B G0 H0 G H σ δ) (h : δ[i]? = some (.own ds)) (ha : σ[i]? = some (some (.ref a))) (hd : Dds K B G vs' ds') : Stt K B G0 H0 G (upd H a (.lst vs')) σ (δ.set i (.own ds')) := by
  obtain ⟨a', ws, e1, nb, e0, eg, e2, e3⟩ := s.own i ds h
  rw [ha] at e1
  cases e1
  have hl : i < δ.length := (List.getElem?_eq_some_iff.mp h).1
  refine ⟨⟨s.go.s, fun x u ne ht e => ?_, s.go.n, fun c r e => ?_⟩, write_ok s.ok e2 eg nb, by rw [List.length_set]; exact s.len, fun j d e => ?_, fun j es e => ?_, fun j l es fs x h1 h2 h3 h4 => ?_⟩
  · rw [upd_ne (fun q => e0 u ht (by rw [← q]; exact e))]
    exact s.go.k x u ne ht e
  · rw [upd_ne nb.symm]
    exact s.go.c c r e
  · rw [List.getElem?_set] at e
    by_cases ij : i = j
    · rw [if_pos ij] at e; split at e <;> cases e
    · rw [if_neg ij] at e
      exact s.val j d e
  · rcases own_set i j _ δ e with ⟨ij, e', _⟩ | ⟨ij, e'⟩
    · cases e'
      exact ⟨a, vs', by rw [← ij]; exact ha, nb, e0, eg, upd_same, hd⟩
    · obtain ⟨b, us, f1, f2, f3, f4, f5, f6⟩ := s.own j es e'
      have nba : b ≠ a := fun eb => ij (s.apart i j ds es a h e' ha (eb ▸ f1))
      exact ⟨b, us, f1, f2, f3, f4, by rw [upd_ne nba]; exact f5, f6⟩
  · rcases own_set i j _ δ h1 with ⟨ij, _, _⟩ | ⟨ij, e1⟩
    · rcases own_set i l _ δ h2 with ⟨il, _, _⟩ | ⟨il, e2'⟩
      · exact ij.symm.trans il
      · rw [← ij] at h3 ⊢
        exact s.apart i l ds fs x h e2' h3 h4
    · rcases own_set i l _ δ h2 with ⟨il, _, _⟩ | ⟨il, e2'⟩
      · rw [← il] at h4 ⊢
        exact s.apart j i es ds x e1 h h3 h4
      · exact s.apart j l es fs x e1 e2' h3 h4
theorem ws_append {i : Nat} {ds : List D} {T : String} (hT : T = "list") (h : δ[i]? = some (.own ds)) (l : ds.length < 1000) (he : WEx K B O.x te δ fun d => O.nx (δ.set i (.own (ds ++ [d])))) : WS K B (tDrop (tBM K T rAppend (tVar i) (tCons te tNil))) δ O := fun G0 H0 σ G H E s xx n _ _ _ => by
  obtain ⟨a, vs, e1, nb, e0, eg, e2, e3⟩ := s.own i ds h
  refine ⟨_, e1, .inl ⟨hT, _, SqL.of e2⟩, he G0 H0 σ G H _ s (xx.ct s) fun v d G1 H1 g o hd p => ?_⟩
  have s1 := s.on g o
  have h1 := g.k a _ nb nt_lst e2
  refine ⟨a, vs, v, rfl, rfl, h1, Nat.lt_of_le_of_lt (by rw [e3.length]; omega : vs.length ≤ 1000) (by decide), ?_⟩
  exact n _ _ G1 _ g.s (s1.putOwn h e1 ((e3.mono g.s).append (.cons hd .nil)) (vs := vs)) p
theorem ws_insert {i : Nat} {ds : List D} {T : String} (hT : T = "list") (h : δ[i]? = some (.own ds)) (l : ds.length < 1000) (ha : WEx K B O.x ta δ fun d => ∃ j : Nat, d = .int (j : Int) ∧ j ≤ 1000 ∧ WEx K B O.x te δ fun x => O.nx (δ.set i (.own (ds.take j ++ [x] ++ ds.drop j)))) :
    WS K B (tDrop (tBM K T (fun x vs H Q => ∃ (l : Addr) (xs : List V) (i : Int) (y : V), x = .ref l ∧ vs = [.int i, y] ∧ H l = some (.lst xs) ∧ xs.length < sizeLine ∧ 0 ≤ i ∧ i < 2 ^ 63 ∧ Q .non (upd H l (.lst (xs.take i.toNat ++ [y] ++ xs.drop i.toNat)))) (tVar i) (tCons ta (tCons te tNil)))) δ O := fun G0 H0 σ G H E s xx n _ _ _ => by
  obtain ⟨a, vs, e1, nb, e0, eg, e2, e3⟩ := s.own i ds h
  refine ⟨_, e1, .inl ⟨hT, _, SqL.of e2⟩, ha G0 H0 σ G H _ s (xx.ct s) fun v d G1 H1 g1 o1 hd ⟨j, ej, hj, w⟩ => ?_⟩
  subst ej
  cases hd
  refine w G0 H0 σ G1 H1 _ (s.on g1 o1) ((xx.ct s).on g1 o1) fun y x G2 H2 g2 o2 hy p => ?_
  have g := g1.trans o1 g2
  have s2 := s.on g o2
  refine ⟨a, vs, (j : Int), y, rfl, rfl, g.k a _ nb nt_lst e2, Nat.lt_of_le_of_lt (by rw [e3.length]; omega : vs.length ≤ 1000) (by decide), by omega, by omega, ?_⟩
  have ed := e3.mono g.s
  have hn := s2.putOwn h e1 (((ed.take j).append (.cons hy .nil)).append (ed.drop j)) (vs := vs)
  rw [Int.toNat_natCast]
  exact n _ _ G2 _ g.s hn p
/-- a frozen list is let go: back to what is not frozen -/
theorem melt {a : Addr} {vs : List V} (o1 : Ok B G H) (nb : a ≠ B.a) (eg : G a = none) (e2 : H a = some (.lst vs)) (g2 : Go B (upd G a (.lst vs)) H G1 H1) (o2 : Ok B G1 H1) : ∃ G3, Go B G H G3 H1 ∧ Ok B G3 H1 := by
  have sf : Same G (upd G a (.lst vs)) := same_upd eg
  let G3 : Hp := fun x => if x = a then none else G1 x
  have sub : Same G3 G1 := fun x u e => by
    by_cases ex : x = a
    · have e' : (if x = a then none else G1 x) = some u := e
      rw [if_pos ex] at e'; cases e'
    · have e' : (if x = a then none else G1 x) = some u := e
      rw [if_neg ex] at e'; exact e'
  have at3 : ∀ x, x ≠ a → G3 x = G1 x := fun x ex => if_neg ex
  refine ⟨G3, ⟨fun x u e => ?_, g2.k, fun x u ht hx hg => ?_, g2.c⟩, ⟨sub.trans o2.u, by rw [at3 B.a nb.symm]; exact o2.b, ?_, o2.t, fun x u e => o2.f x u (sub x u e)⟩⟩
  · rw [at3 x (ne_of_none e eg)]; exact g2.s x u (sf x u e)
  · by_cases ex : x = a
    · exact if_pos ex
    · rw [at3 x ex]; exact g2.n x u ht hx (by rw [upd_ne ex]; exact hg)
  · obtain ⟨c, cells, p, r, m, n, hB, hc, w⟩ := o2.x
    obtain ⟨c1, cells1, p1, r1, m1, n1, hB1, hc1, _⟩ := o1.x
    obtain ⟨r', hB'⟩ := g2.c c1 _ hB1
    rw [hB] at hB'
    have ec : c = c1 := by
      have := HO.lst.inj (Option.some.inj hB')
      exact V.ref.inj (List.cons.inj this).1
    have nca : c ≠ a := by rw [ec]; exact ne_of_none hc1 eg
    exact ⟨c, cells, p, r, m, n, hB, by rw [at3 c nca]; exact hc, w⟩
theorem dd_flat {v : V} {d : D} (hv : v = d.v) (hf : d.flat = true) : Dd K B G v d := by
  rw [hv]
  cases d <;> first | exact .non | exact .bl _ | exact .int _ | exact .str _ | cases hf
/-- it is handed to a def that answers by something flat -/
theorem we_callOwn {i : Nat} {ds : List D} {pre : List D → Prop} {post : List D → D → Prop} {E : XK} {tr : TA} (h : δ[i]? = some (.own ds)) (hr : WAx K B X tr δ fun es => pre (.lst ds :: es) ∧ ∀ d, post (.lst ds :: es) d → d.flat = true ∧ P d) : WEx K B X (tCall (SpD K pre post) [] E (tCons (tVar i) tr)) δ P := fun G0 H0 σ G H Q s xx q => by
  obtain ⟨a, vs, e1, nb, e0, eg, e2, e3⟩ := s.own i ds h
  refine ⟨_, e1, hr G0 H0 σ G H _ s xx fun ws es G1 H1 g1 o1 hs ⟨hp, hq⟩ => ?_⟩
  have h1 : H1 a = some (.lst vs) := g1.k a _ nb nt_lst e2
  have hg1 : G1 a = none := g1.n a _ nt_lst e2 eg
  have sf : Same G1 (upd G1 a (.lst vs)) := same_upd hg1
  show SpD K pre post ((V.ref a :: ws) ++ []) H1 Q E
  rw [List.append_nil]
  refine ⟨B, upd G1 a (.lst vs), .lst ds :: es, freeze_ok o1 nt_lst nb hg1 h1, .cons (.lst upd_same ((e3.mono g1.s).mono sf)) (hs.mono sf), hp, fun v d G2 H2 g2 o2 hd pd => ?_⟩
  obtain ⟨hf, hP⟩ := hq d pd
  obtain ⟨G3, go3, ok3⟩ := melt o1 nb hg1 h1 g2 o2
  exact (q.on g1 o1) v d G3 H2 go3 ok3 (dd_flat (hd.flat hf) hf) hP
end
end Dl
/-! Dr: an expression that only reads a local list: the list is frozen for as long as the expression runs. -/
namespace Dl
open PySem L2
section
variable {K : PySem.W.Frag} {B : Bt} {G H : Hp} {δ : List Sd} {P : D → Prop} {te : TE} {X : Xc}
theorem Stt.frz {G0 H0 : Hp} {σ : L2.St} {i : Nat} {ds : List D} {a : Addr} {vs : List V} (s : Stt K B G0 H0 G H σ δ) (h : δ[i]? = some (.own ds)) (e1 : σ[i]? = some (some (.ref a))) (nb : a ≠ B.a) (e0 : ∀ o, nt o → H0 a ≠ some o) (eg : G a = none) (e2 : H a = some (.lst vs)) (e3 : Dds K B G vs ds) : Stt K B G0 H0 (upd G a (.lst vs)) H σ (δ.set i (.val (.lst ds))) := by
  have sf : Same G (upd G a (.lst vs)) := same_upd eg
  have off : ∀ (j : Nat) es, (δ.set i (.val (.lst ds)))[j]? = some (.own es) → i ≠ j ∧ δ[j]? = some (.own es) := fun j es hj => by
    rw [List.getElem?_set] at hj
    by_cases ij : i = j
    · rw [if_pos ij] at hj
      split at hj <;> cases hj
    · rw [if_neg ij] at hj
      exact ⟨ij, hj⟩
  refine ⟨⟨s.go.s.trans sf, s.go.k, fun x u ht hx hg => ?_, s.go.c⟩, freeze_ok s.ok nt_lst nb eg e2, by rw [List.length_set, s.len], fun j d hj => ?_, fun j es hj => ?_, fun j l ds1 es1 b h1 h2 h3 h4 => ?_⟩
  · have ne : x ≠ a := fun e => e0 u ht (e ▸ hx)
    rw [upd_ne ne]
    exact s.go.n x u ht hx hg
  · rw [List.getElem?_set] at hj
    by_cases ij : i = j
    · rw [if_pos ij] at hj
      split at hj
      · cases hj
        exact ⟨_, ij ▸ e1, .lst upd_same (e3.mono sf)⟩
      · cases hj
    · rw [if_neg ij] at hj
      obtain ⟨v, q1, q2⟩ := s.val j d hj
      exact ⟨v, q1, q2.mono sf⟩
  · obtain ⟨ij, hj⟩ := off j es hj
    obtain ⟨b, ws, q1, q2, q3, q4, q5, q6⟩ := s.own j es hj
    have ne : b ≠ a := fun e => ij (s.apart i j ds es a h hj e1 (e ▸ q1))
    exact ⟨b, ws, q1, q2, q3, by rw [upd_ne ne]; exact q4, q5, q6.mono sf⟩
  · exact s.apart j l ds1 es1 b (off j _ h1).2 (off l _ h2).2 h3 h4
theorem we_frz {i : Nat} {ds : List D} (h : δ[i]? = some (.own ds)) (w : WE K B te (δ.set i (.val (.lst ds))) fun d => d.flat = true ∧ P d) : WEx K B X te δ P := fun G0 H0 σ G H Q s xx q => by
  obtain ⟨a, vs, e1, nb, e0, eg, e2, e3⟩ := s.own i ds h
  refine w G0 H0 σ _ H _ (s.frz h e1 nb e0 eg e2 e3) ctx0 fun v d G2 H2 g2 o2 hd ⟨hf, hP⟩ => ?_
  obtain ⟨G3, go3, ok3⟩ := melt s.ok nb eg e2 g2 o2
  exact q v d G3 H2 go3 ok3 (dd_flat (hd.flat hf) hf) hP
theorem wt_frz {tt : TT} {P : Bool → Prop} {i : Nat} {ds : List D} (h : δ[i]? = some (.own ds)) (w : WT K B tt (δ.set i (.val (.lst ds))) P) : WTx K B X tt δ P := fun G0 H0 σ G H Q s xx q => by
  obtain ⟨a, vs, e1, nb, e0, eg, e2, e3⟩ := s.own i ds h
  refine w G0 H0 σ _ H _ (s.frz h e1 nb e0 eg e2 e3) ctx0 fun b G2 H2 g2 o2 hP => ?_
  obtain ⟨G3, go3, ok3⟩ := melt s.ok nb eg e2 g2 o2
  exact q b G3 H2 go3 ok3 hP
end
end Dl
/-! == of two values: scalars, or dicts of flat values -/
namespace Dl
open PySem L2
def rEqU : R2 := fun x y H Q => rEq x y H Q ∨ rEqDA x y H Q
theorem op_eqU {X : Cx} (hu : X.A.units < cLine) : OpR X (compareOp .Eq) rEqU := by
  intro pins s σ H x y v u Q I rx ry h
  rcases h with h | h
  · exact op_eq pins s σ H x y v u Q I rx ry h
  · exact op_eq_dictA hu pins s σ H x y v u Q I rx ry h
theorem u0 {k : Nat} {A : Around} (hr : Room k A) : A.units < cLine := by have := hr.un; omega
end Dl
namespace Dl
open PySem PySem.Spec PyProof.Rows L2 HT
section
variable {prog : Program} {w : World} {A : Around} {E : Value → Shared → Prop} {s : Shared}
theorem sliceApplied_rev2 {sl : Addr} {tk : Tok} {Q : Int × Int × Nat → Shared → Prop} (hs : s.heap.IsSliceOf sl .none .none (.int (-1) tk))
    (h : Q (1, -1, 2) s) : wpAny (model prog w) A (Builtin.Slice.sliceApplied (.ref sl) (pure ((2 : Nat) : Int))) Q E s := by
  obtain ⟨os, hos, hcs, hds⟩ := id hs
  unfold Builtin.Slice.sliceApplied Builtin.Slice.sliceFields
  refine wpAny_bind (wpAny_bind (wpAny_field hos hds (x := .none) rfl (wpAny_bind (wpAny_field hos hds (x := .none) rfl (wpAny_bind (wpAny_field hos hds (x := .int (-1) tk) rfl (wpAny_pure ?_)))))))
  refine wpAny_bind (slicePart_int ?_)
  show wpAny _ _ (if ((-1 : Int) == 0) = true then _ else _) _ _ s
  rw [if_neg (by decide)]
  refine wpAny_bind (slicePart_none (wpAny_bind (slicePart_none (wpAny_bind (wpAny_pure ?_)))))
  exact wpAny_pure h
theorem getItem_tuple_rev2 {t sl : Addr} {a b : Value} {tk : Tok} {Q : Value → Shared → Prop} (ht : IsTup s.heap t #[a, b]) (hs : s.heap.IsSliceOf sl .none .none (.int (-1) tk))
    (h : Q (.ref s.heap.objs.size) { s with heap := s.heap.push { cls := .type "tuple", data := .seq #[b, a] } }) : wpAny (model prog w) A (getItem (.ref t) (.ref sl)) Q E s := by
  have htake : sizeOk (.seq #[b, a]) := by
    show 2 ≤ sizeLine
    decide
  obtain ⟨os, hos, hcs, hds⟩ := id hs
  have hTs : s.TypeIs (.ref sl) "slice" := ⟨os, hos, hcs⟩
  unfold getItem
  try with_reducible refine wpAny_holding ?_
  first | refine wpAny_bind (wpAny_pure ?_) | skip
  refine wpAny_bind (wpAny_sequenceKey ht.typeIs (by decide) ?_)
  refine wpAny_bind (wpAny_callSpecial?_slot (name := Str.ofString "__getitem__") ht.typeIs PyProof.Rows.slot_tuple_getitem
    (wpAny_call_entry PyProof.Rows.slot_tuple_getitem ht.typeIs entry_tuple_getitem ?_ (args_tuple_getitem _ _)))
  show wpAny _ _ (Builtin.Tuple.tupleItemsOf (.ref t) >>= _) _ _ s
  refine wpAny_bind (tupleItemsOf_ ht ?_)
  refine wpAny_bind (wpAny_typeOf hTs ?_)
  rw [if_pos (by decide)]
  refine wpAny_bind (sliceApplied_rev2 hs ?_)
  show wpAny _ _ (if ((1 : Int) == 0 && (-1 : Int) == 1 && (2 : Nat) == 2) = true then _ else _) _ _ s
  rw [if_neg (by decide)]
  have e : ((List.range 2).filterMap fun (m : Nat) => (#[a, b] : Array Value)[((1 : Int) + (m : Int) * -1).toNat]?).toArray = #[b, a] := rfl
  rw [e]
  first
    | exact wpAny_bind (m := Builtin.Tuple.tupleExact _) (wpAny_newObj_type (wpAny_pure ⟨_, rfl, wpAny_pure h⟩) htake)
    | exact wpAny_bind (m := Builtin.Tuple.tupleExact _) (wpAny_newObj_type (wpAny_bind (wpAny_pure (wpAny_pure ⟨_, rfl, wpAny_pure h⟩))) htake)
    | exact wpAny_bind (wpAny_bind (m := Builtin.Tuple.tupleExact _) (wpAny_newObj_type (wpAny_pure (wpAny_pure ⟨_, rfl, wpAny_pure h⟩)) htake))
    | exact wpAny_bind (wpAny_bind (m := Builtin.Tuple.tupleExact _) (wpAny_newObj_type (wpAny_pure ⟨_, rfl, wpAny_pure h⟩) htake))
end
section
variable {X : Cx}
/-- t[::-1] of a pair -/
def tRev2 (K : PySem.W.Frag) (te : TE) : TE := fun σ H Q => te σ H fun x H1 => ∃ a u v, x = .ref a ∧ SqT K H1 a [u, v] ∧ ∀ p, H1 p = none → Q (.ref p) (upd H1 p (.tup [v, u]))
theorem pe_revT {e : Expr} {te : TE} {k : Nat} {p1 p2 p3 pos : Pos} (he : PE X e te) : PE X (.Subscript e (.Slice none none (some (.UnaryOp .USub (.Constant (.int 1) k p1) p2)) p3) pos) (tRev2 X.K te) := by
  refine ⟨fun pins s σ H Q I h => ?_⟩
  refine Subscript_ (thn (he.run pins s σ H _ I h) fun v s1 ⟨x, H1, I1, r1, q1⟩ => ?_)
  obtain ⟨a, u, z, ex, hx, q⟩ := q1
  subst ex
  cases r1
  have hst : PO X (some (.UnaryOp .USub (.Constant (.int 1) k p1) p2)) (tPart (tUn (rU fun i => .int (-i)) (tC (.int 1)))) := po_some (pe_un un_neg pe_int)
  refine wpAny_Slice (thn (po_none.run pins s1 σ H1 (fun o H2 => o = none ∧ H2 = H1) I1 ⟨rfl, rfl⟩) fun vl s2 ⟨l, H2, I2, pl, el, e2⟩ => ?_)
  subst el e2
  refine thn (po_none.run pins s2 σ H2 (fun o H3 => o = none ∧ H3 = H2) I2 ⟨rfl, rfl⟩) fun vu s3 ⟨u', H3, I3, pu, eu, e3⟩ => ?_
  subst eu e3
  refine thn (hst.run pins s3 σ H3 (fun o H4 => o = some (-1) ∧ H4 = H3) I3 ⟨1, rfl, -1, rfl, rfl, rfl⟩) fun vs s4 ⟨o, H4, I4, ps, eo, e4⟩ => ?_
  subst eo e4
  have I5 : Inv X pins σ H4 { s4 with heap := s4.heap.push { cls := .type "slice", data := .fields #[vl, vu, vs] } } := I4.kept (t' := s4.toks) fun b ob q => Heap.get?_push_of_some _ q
  obtain ⟨its, r, ht, hz⟩ := I5.tuple hx
  obtain ⟨w1, w2, rfl, rw1, rw2⟩ := vals2 r
  cases pl
  cases pu
  cases ps with
  | int _ tk =>
    show wpAny (model X.prog X.w) X.A (subscriptTail e (.Slice none none (some (.UnaryOp .USub (.Constant (.int 1) k p1) p2)) p3) (.ref a) (.ref s4.heap.objs.size)) (EP X pins σ Q) X.xe { s4 with heap := s4.heap.push { cls := .type "slice", data := .fields #[.none, .none, .int (-1) tk] } }
    refine tail_any (ops := [.ref a, .ref s4.heap.objs.size]) ht.typeIs (PyProof.Rows.slot_tuple_getitem.lookup) ?_ (by with_unfolding_all rfl)
    refine getItem_tuple_rev2 ht (Heap.IsSliceOf.new _ _ _ _) ?_
    refine ⟨.ref _, _, I5.laid (t' := s4.toks) (o := .tup [z, u]) (fun b ob q => Heap.get?_push_of_some _ q) (Nat.le_refl _) ?_, rfl, q _ (I5.hok.fresh (Nat.le_refl _))⟩
    exact ⟨by show 2 ≤ sizeLine; decide, [w2, w1], .cons rw2 (.cons rw1 .nil), IsTup.new _ _⟩
/-- list(text) -/
theorem call_list_str (hc : X.calm = true) : CallR X (.type "list") (fun xs H Q => ∃ z, xs = [.str z] ∧ z.length ≤ sizeLine ∧ ∀ l, H l = none → Q (.ref l) (upd H l (.lst (z.cps.toList.map fun c => .str ⟨#[c]⟩)))) := by
  intro pins s σ H xs us Q I r h
  obtain ⟨z, rfl, hz, q⟩ := h
  obtain ⟨u, rfl, rx⟩ := vals1 r
  obtain ⟨t, rfl⟩ := rx
  refine PySem.call_list_str (I.ok.hd hc) z t (fun h' tk acc c' kp e it => ?_) hz
  obtain ⟨h1, h2⟩ := it
  have hv : Vals (z.cps.toList.map fun c => V.str ⟨#[c]⟩) acc.toList := by
    refine vals_of_idx _ _ (by rw [List.length_map, Array.length_toList, Array.length_toList, h1]) fun j u hu => ?_
    rw [Array.getElem?_toList] at hu
    obtain ⟨c, tk', e1, rfl⟩ := h2 j u hu
    exact ⟨.str ⟨#[c]⟩, by rw [List.getElem?_map, Array.getElem?_toList, e1]; rfl, tk', rfl⟩
  refine ⟨.ref s.heap.objs.size, _, I.laid (t' := tk) (o := .lst (z.cps.toList.map fun c => V.str ⟨#[c]⟩)) kp (Nat.le_refl _) ?_, rfl, q _ (I.hok.fresh (Nat.le_refl _))⟩
  exact ⟨by rw [List.length_map, Array.length_toList]; exact hz, acc.toList, c', hv, by rw [Array.toArray_toList]; exact e⟩
end
section
variable {K : PySem.W.Frag} {B : Bt} {δ : List Sd} {P : D → Prop} {te : TE} {Xe : Xc}
theorem we_rev2 (h : WEx K B Xe te δ fun d => ∃ a b, d = .tup [a, b] ∧ P (.tup [b, a])) : WEx K B Xe (tRev2 K te) δ P := fun G0 H0 σ G H Q s xx q =>
  h G0 H0 σ G H _ s xx fun x d G1 H1 g1 o1 hx ⟨a, b, e, p⟩ => by
    subst e
    cases hx with
    | tup hg t =>
      cases t with
      | cons h1 t =>
        cases t with
        | cons h2 t =>
          cases t
          exact ⟨_, _, _, rfl, SqT.of (o1.u _ _ hg), fun r hr => (q.on g1 o1).new o1 nt_tup hr (.tup upd_same (.cons (h2.mono (same_upd (o1.fresh hr))) (.cons (h1.mono (same_upd (o1.fresh hr))) .nil))) p⟩
theorem dds_signs {G : Hp} : ∀ cs : List Nat, Dds K B G (cs.map fun c => V.str ⟨#[c]⟩) (cs.map fun c => D.str ⟨#[c]⟩)
  | [] => .nil
  | c :: r => .cons (.str _) (dds_signs r)
theorem rc_listS {z : Str} (l : z.length ≤ 1000) (p : P (.lst (Dl.signs z))) : RC K B (fun xs H Q => ∃ z, xs = [.str z] ∧ z.length ≤ sizeLine ∧ ∀ l, H l = none → Q (.ref l) (upd H l (.lst (z.cps.toList.map fun c => .str ⟨#[c]⟩)))) [.str z] P := fun _ _ _ _ o hs q => by
  cases hs with
  | cons h t =>
    cases t
    cases h
    exact ⟨z, rfl, sz1000 l, fun a ha => q.new o nt_lst ha (.lst upd_same (dds_signs _)) p⟩
end
end Dl
/-! Tx: a caught exception as an object of the heap: try .. except (A, B) as n; its fields; a def that it is handed to. -/
namespace Dl
open PySem PySem.Spec PyProof.Rows L2
theorem xo_ok {P : Program} {w : World} {H : Hp} {h : Heap} {a C d : Addr} {oe : Obj} {vs : Array Value} (he : h.get? a = some oe) (hc : oe.cls = .ref C) (hd : oe.dict = some d) (hv : oe.data = .fields vs) : ObjOk P w H h a (xo a C d) :=
  ⟨⟨oe, vs, he, hc, hd, hv⟩, ⟨oe, he⟩, fun _ _ ⟨o, v, q, r⟩ k => ⟨o, v, k o q, r⟩⟩
theorem xo_nt {a C d : Addr} : nt (xo a C d) := fun ps z => by
  unfold xo at z
  cases z
theorem xd_nt {fs : List (Str × V)} : nt (.xd fs) := fun ps z => nomatch z
theorem xo_at {P : Program} {w : World} {H : Hp} {h : Heap} {a C d : Addr} (hok : HOk P w H h) (e : H a = some (xo a C d)) : ∃ (oe : Obj) (vs : Array Value), h.get? a = some oe ∧ oe.cls = .ref C ∧ oe.dict = some d ∧ oe.data = .fields vs := by
  have x : ObjOk P w H h a (.ext fun h => ∃ (oe : Obj) (vs : Array Value), h.get? a = some oe ∧ oe.cls = .ref C ∧ oe.dict = some d ∧ oe.data = .fields vs) := hok a _ e
  exact x.1
section
variable {X : Cx} {pins : List (Addr × Obj)} {σ : L2.St} {H : Hp} {s : Shared}
/-- an object that came behind the entry is tracked from now on -/
theorem Inv_track {a C d : Addr} {oe : Obj} {vs : Array Value} (I : Inv X pins σ H s) (na : H a = none) (he : s.heap.get? a = some oe) (hc : oe.cls = .ref C) (hd : oe.dict = some d) (hv : oe.data = .fields vs)
    (n0 : X.s_0.heap.get? a = none) (nL : a ≠ X.env.locals) (nP : ∀ p ∈ X.pn ++ pins, p.1 ≠ a) (nC : ∀ x c, X.env.cells.lookup x = some c → c ≠ a) : Inv X pins σ (upd H a (xo a C d)) s := by
  have ne0 : ∀ b o, X.s_0.heap.get? b = some o → b ≠ a := fun b o e z => by rw [z, n0] at e; cases e
  have sm : ∀ b u, H b = some u → b ≠ a := fun b u e => ne_of_none e na
  refine ⟨I.ok, I.os, I.bare, ⟨fun b o e n => ?_, fun b o e n => ?_, fun b o e n hx => ?_, I.base.there, fun b xs e => ?_, fun b o u e => ?_, fun b ps e => ?_⟩, I.loc, I.cell, ?_, fun x c e => ?_, fun p hp => ?_, fun b u e => ?_, I.len⟩
  · exact I.base.keep b o e n
  · exact I.base.slot b o e n
  · rw [upd_ne (ne0 b o e)]; exact I.base.free b o e n hx
  · have z := I.base.tups b xs e
    rw [upd_ne (sm b _ z)]; exact z
  · have z := I.base.frzs b o u e
    rw [upd_ne (sm b _ z)]; exact z
  · obtain ⟨m, z⟩ := I.base.tbls b ps e
    exact ⟨m, by rw [upd_ne (sm b _ z)]; exact z⟩
  · rw [upd_ne (Ne.symm nL)]; exact I.free
  · rw [upd_ne (nC x c e)]; exact I.freeC x c e
  · obtain ⟨h1, h2, h3, h4, h5⟩ := I.pin p hp
    exact ⟨h1, by rw [upd_ne (nP p hp)]; exact h2, h3, h4, h5⟩
  · by_cases hb : b = a
    · rw [hb, upd_same] at e
      cases e
      rw [hb]
      exact xo_ok he hc hd hv
    · rw [upd_ne hb] at e
      exact (I.hok b u e).stay (fun c v _ q => q) (fun c q => by rw [upd_ne (sm c _ q)]; exact q) fun c xs q => by rw [upd_ne (sm c _ q)]; exact q
theorem flyZ_keeps {B : Heap} {l : List Env} {a : Addr} {Z : Obj → Prop} {h h' : Heap} (fl : HandSPX.FlyingZ B l a Z h) (k : ∀ b o, h.get? b = some o → h'.get? b = some o) : HandSPX.FlyingZ B l a Z h' := by
  obtain ⟨f1, f2, f3, oe, vs, T, oT, ts, he, hz, hd, h1, hn, hne, hT, hdT, h3⟩ := fl
  exact ⟨fun b o q => k b o (f1 b o q), f2, f3.of_keeps fun b o q _ => ⟨o, k b o q, rfl⟩, oe, vs, T, oT, ts, k _ _ he, hz, hd, h1, hn, hne, k _ _ hT, hdT, h3⟩
theorem Inv_suite0 (I : Inv X pins σ H s) (a : Addr) : Inv (X.suite a (X.pn ++ pins)) [] σ H s :=
  ⟨I.ok.suite _ _, I.os, I.bare, I.base, I.loc, I.cell, I.free, I.freeC, fun p hp => I.pin p (by rw [List.append_nil] at hp; exact hp), I.hok, I.len⟩
theorem Inv_unsuite0 {a : Addr} {pn' : List (Addr × Obj)} (I : Inv (X.suite a (X.pn ++ pins)) pn' σ H s) (ok : X.Ok) : Inv X pins σ H s :=
  ⟨ok, I.os, I.bare, I.base, I.loc, I.cell, I.free, I.freeC, fun p hp => I.pin p (List.mem_append_left _ hp), I.hok, I.len⟩
end
/-- what the clause 'except (c1, c2) as n' wishes -/
def wTup (K : PySem.W.Frag) (c1 c2 : Value) (i : Nat) (ts : TS) (Wout : WX) (D : Ends) : WX := fun cls d σ H =>
  ∃ b, PySem.W.exmAny K cls [c1, c2] = some b ∧ (b = true → ∃ C dd, cls = .ref C ∧ d = some dd ∧ ∀ a, H a = none → ts { nx := fun σ' H' => D.nx (σ'.set i none) H', rt := D.rt, bk := fun σ' H' => D.bk (σ'.set i none) H', ct := fun σ' H' => D.ct (σ'.set i none) H' } (σ.set i (some (.ref a))) (upd H a (xo a C dd))) ∧
    (b = false → Wout cls d σ H)
section
variable {X : Cx} {x1 x2 n : Str} {c1 c2 : Value} {i kk : Nat} {body suite : List Stmt} {b₀ : Stmt} {np1 np2 tpos pos pos' : Pos} {tb : WX → TS} {ts : TS} {Wout : WX}
theorem ps_try_tup (hs : X.stack = X.env :: X.outer) (hf : X.env.frame = some X.env.locals) (hex : X.ex = []) (hN : X.N.Nodup) (hi : X.N[i]? = some n) (hln : X.env.kindOf n = some .local) (hc1 : Names X x1 c1) (hc2 : Names X x2 c2) (tk : Takes X Wout)
    (hb : ∀ (W : WX) (pn : List (Addr × Obj)) (xe : Value → Shared → Prop), Takes (X.tr pn xe) W → PassesOwn (model X.prog X.w) X.A X.env xe → PSs (X.tr pn xe) body (tb W))
    (hsu : ∀ (a : Addr) (pn : List (Addr × Obj)), PSs (X.suite a pn) (b₀ :: suite) ts) :
    PS X (.Try body [.ExceptHandler (some (.Tuple [.Name x1 np1, .Name x2 np2] kk tpos)) (some n) (b₀ :: suite) pos'] [] [] pos) (fun D σ H => tb (wTup X.K c1 c2 i ts Wout D) D σ H) := by
  refine ⟨fun pins s σ H D I h => ?_⟩
  have ok := I.ok
  have hfr : X.A.frames = some (X.env :: X.outer) := by rw [ok.frames, hs]
  have hloc : Loc X.env.scope n := .inl hln
  refine wpAny_Try_except ?_
  refine wpAny_mono ((hb (wTup X.K c1 c2 i ts Wout D) (X.pn ++ pins) (fun e s₁ => wpAny (model X.prog X.w) X.A (noteFrame e X.env) (fun _ s₂ => wpAny (model X.prog X.w) X.A (setFlight e none) (fun _ s₃ =>
    wpAny (model X.prog X.w) X.A (handleBy e X.env [.ExceptHandler (some (.Tuple [.Name x1 np1, .Name x2 np2] kk tpos)) (some n) (b₀ :: suite) pos']) (SP X pins D) X.xe s₃) X.xe s₂) X.xe s₁) (fun u s' xx => ?_) PassesOwn.looking).run [] s σ H D (I.toTry _) h) (fun f s1 hsp => ?_) (fun e s1 he => he)
  · -- the catch
    obtain ⟨a, B, sI, pins', σ', H', cls, d, rfl, J', nb, up, sky, na, os, ag, b, hb1, hyes, hno⟩ := xx
    have J : Inv X pins σ' H' sI := J'.ofTry ok
    have sky' : Sky B (X.env :: X.outer) a (Zc cls d) X.env.locals s'.heap := by rw [← hs]; exact sky
    show wpAny (model X.prog X.w) X.A (noteFrame (.ref a) X.env) _ _ _
    refine Sky.land Zc.steady hfr hf sky' fun h3 fl3 up3 => ?_
    have J3 : Inv X pins σ' H' { s' with heap := h3 } := J.landed nb fl3.1 (up.trans up3) os ag
    obtain ⟨oe3, vs3, he3, hz3, hd3⟩ := fl3.there
    have notFr : ∀ {h : Heap} {o : Obj} {vs : Array Value}, h.FunFrames B (X.env :: X.outer) → h.get? a = some o → o.data = .fields vs → a ∉ frs (X.env :: X.outer) := fun {h o vs} ff e dd hm => by
      obtain ⟨_, o', e', hnf⟩ := ff.mem hm
      rw [e] at e'; cases e'
      exact hnf _ dd
    have nfr := notFr fl3.2.2.1 he3 hd3
    have nL : a ≠ X.env.locals := fun z => nfr (List.mem_filterMap.mpr ⟨X.env, List.mem_cons_self, by rw [hf, z]⟩)
    -- it came behind the entry
    have nI : ∀ b o, sI.heap.get? b = some o → b ≠ a := fun b o e z => by
      have q := nb b o e (by rw [z, hs]; exact nfr)
      rw [z, fl3.2.1] at q; cases q
    have n0 : X.s_0.heap.get? a = none := by
      cases e : X.s_0.heap.get? a with
      | none => rfl
      | some o =>
        obtain ⟨o', q⟩ := J.base.there a o e (by rw [hex]; exact fun z => nomatch z)
        exact absurd rfl (nI a o' q)
    have nP : ∀ p ∈ X.pn ++ pins, p.1 ≠ a := fun p hp => nI p.1 p.2 (J.pin p hp).1
    have nC : ∀ x c, X.env.cells.lookup x = some c → c ≠ a := fun x c e => by
      obtain ⟨v, o, ho, _⟩ := J.cell x c e
      exact nI c o ho
    have S3 := Inv_suite0 J3 a
    refine wpAny_handleBy_cons (codeAny_handlers_test ?_) (by intro q; cases q)
    have nm : ∀ {x : Str} {c : Value} {np : Pos} {h' : Heap} {t' : Nat} {Q : Value → Shared → Prop} {E : Value → Shared → Prop}, Names X x c → Q c { s' with heap := h3 } → wpAny (model X.prog X.w) (X.A.mark (some (.ref a))) (eval (.Name x np) X.env) Q E { s' with heap := h3 } := fun {x c np h' t' Q E} hc q => by
      obtain ⟨hg, hdbg, hm | ⟨hm, hv, hnn⟩⟩ := hc
      · exact ld_glob (X := X.suite a (X.pn ++ pins)) S3 hg hm q hdbg
      · exact ld_blt (X := X.suite a (X.pn ++ pins)) S3 hg hm hv q hnn hdbg
    refine wpAny_Tuple ?_
    refine wpAny_items_cons (nm (h' := h3) (t' := 0) hc1 ?_)
    refine wpAny_items_cons (nm (h' := h3) (t' := 0) hc2 ?_)
    refine wpAny_items_nil ⟨by size_fits, ?_⟩
    have kp : ∀ q o, h3.get? q = some o → (h3.push { cls := .type "tuple", data := .seq [c1, c2].toArray }).get? q = some o := fun _ _ z => Heap.get?_push_of_some _ z
    have LT : PySem.W.Looks (model X.prog X.w) h3 (typeOf (.ref a)) cls := fun A Q E s k q => wpAny_typeOf_ref (k _ _ he3) (by rw [hz3.1]; exact q)
    refine (PySem.W.exm_tup2 (J3.kIn.keeps kp) (LT.keeps kp) (Heap.get?_push_size h3 rfl) hb1).here ?_
    have fl5 := flyZ_keeps fl3 kp
    have up5 : s'.heap.UpToSlots (h3.push { cls := .type "tuple", data := .seq [c1, c2].toArray }) := up3.trans (Heap.UpToSlots.of_keeps kp)
    cases b with
    | true =>
      obtain ⟨C, dd, eC, ed, hy2⟩ := hyes rfl
      subst eC ed
      refine codeAny_handlers_suite_as ?_
      refine HandSPX.lands_againZ fl5 fun h4 fl4 up4 => ?_
      have J4 : Inv X pins σ' H' { s' with heap := h4 } := J.landed nb fl4.1 ((up.trans up5).trans up4) os ag
      obtain ⟨oe4, vs4, he4, hz4, hd4⟩ := fl4.there
      have J5 := Inv_track J4 na he4 hz4.1 hz4.2 hd4 n0 nL nP nC
      have S4 := Inv_suite0 J5 a
      refine store_ok (X := X.suite a (X.pn ++ pins)) (v := .ref a) S4 hN hi hloc rfl (fun s5 S5 => ?_) (.inr hln)
      refine wpAny_mono ((hsu a (X.pn ++ pins)).run [] s5 _ _ _ S5 (hy2 a na)) (fun f s6 hsp => ?_) (fun _ _ z => False.elim z)
      have end_ : ∀ {σ6 : L2.St} {H6 : Hp} {Q : Shared → Prop}, Inv (X.suite a (X.pn ++ pins)) [] σ6 H6 s6 → (∀ s7, Inv X pins (σ6.set i none) H6 s7 → Q s7) →
          wpAny (model X.prog X.w) X.A (do bindName X.env n .none; unbindBehindTheSuite X.env n pos') (fun _ s7 => Q s7) X.xe s6 := fun {σ6 H6 Q} S6 hq => gone_ok (Inv_unsuite0 S6 ok) hN hi hln hq
      cases f with
      | next =>
        obtain ⟨σ6, H6, S6, q6⟩ := hsp
        exact end_ S6 fun s7 J7 => ⟨_, _, J7, q6⟩
      | brk =>
        obtain ⟨σ6, H6, S6, q6⟩ := hsp
        exact end_ S6 fun s7 J7 => ⟨_, _, J7, q6⟩
      | cont =>
        obtain ⟨σ6, H6, S6, q6⟩ := hsp
        exact end_ S6 fun s7 J7 => ⟨_, _, J7, q6⟩
      | ret u =>
        obtain ⟨v6, σ6, H6, S6, r6, q6⟩ := hsp
        exact end_ S6 fun s7 J7 => ⟨_, _, _, J7, r6, q6⟩
    | false =>
      show wpAny _ X.A (handleBy (.ref a) X.env []) _ _ _
      refine wpAny_handleBy_nil ?_
      obtain ⟨k1, k2, k3, oe, vs, T, oT, ts', he, hz, hd, h1, hr⟩ := id fl5
      unfold PySem.passOn
      refine wpAny_bind (wpAny_field he hd h1 ?_)
      rw [if_neg (show ¬ ((Value.ref T == Value.none) = true) from by simp)]
      have fin : wpAny (model X.prog X.w) X.A (setFlight (.ref a) X.env.frame) (fun _ s4 => wpAny (model X.prog X.w) X.A (throw (.ref a) : Sem Flow) (SP X pins D) X.xe s4) X.xe { s' with heap := h3.push { cls := .type "tuple", data := .seq [c1, c2].toArray } } := by
        rw [hf]
        refine HandSPX.setFlight_upZ fl5 fun h4 hh4 up4 => wpAny_throw (tk _ _ ?_)
        exact ⟨a, B, sI, pins, σ', H', cls, d, rfl, J, nb, (up.trans up5).trans up4, .inr (.inr (by rw [hs]; exact hh4)), na, os, ag, hno rfl⟩
      first
        | exact wpAny_bind (wpAny_pure (wpAny_bind fin))
        | exact wpAny_bind fin
  · cases f with
    | next =>
      obtain ⟨σ', H', J', q⟩ := hsp
      exact wpAny_execs_nil ⟨σ', H', J'.ofTry ok, q⟩
    | brk =>
      obtain ⟨σ', H', J', q⟩ := hsp
      exact ⟨σ', H', J'.ofTry ok, q⟩
    | cont =>
      obtain ⟨σ', H', J', q⟩ := hsp
      exact ⟨σ', H', J'.ofTry ok, q⟩
    | ret u =>
      obtain ⟨v, σ', H', J', r, q⟩ := hsp
      exact ⟨v, σ', H', J'.ofTry ok, r, q⟩
end
/-! ### its fields -/
/-- e.f of an exception that is tracked -/
def tXv (K : PySem.W.Frag) (f : Str) (te : TE) : TE := fun σ H Q => te σ H fun x H1 => ∃ (a C d : Addr) (fs : List (Str × V)) (v : V), x = .ref a ∧ H1 a = some (xo a C d) ∧ H1 d = some (.xd fs) ∧ fs.lookup f = some v ∧ XfC K C ∧ PySem.W.findIn K (.ref C) f = some none ∧ Q v H1
theorem pe_xv {X : Cx} {e : Expr} {te : TE} {pos : Pos} {n : Str} (he : PE X e te) (hb : attributeBase e n X.env (eval e X.env) = eval e X.env := by rfl) : PE X (.Attribute e n pos) (tXv X.K n te) := by
  refine ⟨fun pins s σ H Q I h => ?_⟩
  refine attr_of hb (thn (he.run pins s σ H _ I h) fun u s1 hh => ?_)
  obtain ⟨x, H1, I1, rx, a, C, d, fs, v, ex, ea, ed, l, T, hno, q⟩ := hh
  subst ex
  obtain rfl : u = Value.ref a := rx
  obtain ⟨oe, vs, ha, hc, hd, hf⟩ := xo_at I1.hok ea
  have hx : ObjOk X.prog X.w H1 s1.heap d (.xd fs) := I1.hok d _ ed
  obtain ⟨mA, hns, hr⟩ := hx
  obtain ⟨od, ho, hl⟩ := lookIn_ns hns
  obtain ⟨u, hu, ru⟩ := RelO.some_of (v := v) (o := mA n) (by rw [← l]; exact hr n)
  have J : PySem.W.InstAt s1.heap a oe C (some od) := ⟨ha, hc, by unfold PySem.W.notCls; rw [hf] <;> rfl, by rw [hd]; exact ho⟩
  exact HandSPX.exc_get I1.kIn J T.ga T.gg T.exC (PySem.W.findObj_own T.hdC hno rfl (by rw [hl, hu])) (handed_of ru) ⟨v, H1, I1.tok _, ru, q⟩
end Dl
/-! Ty: a def that is called while an exception is handled, and raises nothing. -/
namespace Dl
open PySem PySem.Spec PyProof.Rows L2
open L2H (RoomH roomH_of)
structure FnT (P : Program) (w : World) (K : PySem.W.Frag) (mg : Str → Option Value) (base : Heap) (k : Nat) (f : Addr) (fd : FuncData) (ps : List Str) (sp : Sp) : Prop where
  len : ∀ vs H Q E, sp vs H Q E → vs.length = ps.length
  run : ∀ (A : Around) (outer : List Env) (s : Shared) (H : Hp) (args : Args) (us : List Value) (vs : List V) (Q : VK) (E : XK), RoomH k A → Env0 P w K mg base A outer s H → BindsTo s fd args (ps.zip us) → Vals vs us → sp vs H Q E →
    codeAny (model P w) A (.call (.ref f) args) (CR L2.CX0 outer P w H s Q E) s
def cxT (P : Program) (w : World) (K : PySem.W.Frag) (mg : Str → Option Value) (base : Heap) (N : List Str) (qual : Str) (scope : Scope) (f : Addr) (cd : Value) (A : Around) (outer : List Env) (s : Shared) (H : Hp) (E : XK) : Cx :=
  { cxOf L2.CX0 P w K mg base N qual scope f cd A outer s H E with calm := false }
theorem inv_startT {P : Program} {w : World} {K : PySem.W.Frag} {mg : Str → Option Value} {base : Heap} {N ps : List Str} {qual : Str} {scope : Scope} {f : Addr} {cd : Value} {A : Around} {outer : List Env} {s s1 : Shared} {H : Hp} {E : XK} {us : List Value} {vs : List V}
    (S : FnScope N ps scope) (e0 : Env0 P w K mg base A outer s H) (hl : vs.length = ps.length) (r : Vals vs us)
    (x : InCallC s s.heap.objs.size (bindL (envOfC qual scope s.heap.objs.size f cd).kindOf (ps.zip us) fun _ => none) (cellsFrom (s.heap.objs.size + 1) scope.names []) (bindC (envOfC qual scope s.heap.objs.size f cd).kindOf (ps.zip us) fun _ => none) s1) :
    Inv (cxT P w K mg base N qual scope f cd A outer s H E) [] (L2.start N vs) H s1 := by
  have hpl : ps.length ≤ N.length := by have := congrArg List.length S.pre; rw [List.length_take] at this; omega
  obtain ⟨h1, tk, rfl, hk⟩ := x.done
  have noA : ∀ b : Addr, b ∉ (cxT P w K mg base N qual scope f cd A outer s H E).ex := fun b z => absurd (show b ∈ ([] : List Addr) from z) (by simp)
  refine ⟨⟨e0.mod, S.kind, rfl, rfl, Nat.le_refl _, fun y z c h1 h2 => ?_, fun y hy => ?_, fun y c _ h => ?_, (fun z => Bool.noConfusion (show false = true from z)), Around.frames_deeper e0.frames, .inr ⟨rfl, rfl⟩, fun b z => absurd z (noA b), e0.bs, e0.bsz, fun b _ _ => noA b, fun b z => absurd z (noA b), e0.funs, e0.frf⟩,
    rfl, e0.bare, Un.kept hk, ⟨_, x.toInCall.ns, fun i y v h1 h2 h3 => ?_⟩, fun y c h => ⟨_, x.cell y c h⟩, e0.hok.fresh (Nat.le_refl _), fun y c h => ?_, fun q hq => ?_, e0.hok.kept hk, ?_⟩
  · exact name_of_addr x.apart (PySem.mem_of_lookup h1) (PySem.mem_of_lookup h2)
  · have hy : scope.names.lookup y = some .cell ∨ scope.names.lookup y = some .free := hy
    rcases hy with hy | hy
    · exact cell_has hy
    · exact absurd rfl (S.nofree _ (PySem.mem_of_lookup hy))
  · exact Nat.le_of_lt (x.above y c (PySem.mem_of_lookup h))
  · have hi : i < vs.length := by
      unfold L2.start at h2
      by_cases hi : i < vs.length
      · exact hi
      · rw [List.getElem?_append_right (by simpa using hi)] at h2
        rw [List.getElem?_replicate] at h2
        split at h2 <;> cases h2
    have ha : vs[i]? = some v := by
      unfold L2.start at h2
      rw [List.getElem?_append_left (by simpa using hi), List.getElem?_map] at h2
      cases e : vs[i]? with
      | none => rw [e] at h2; cases h2
      | some a => rw [e] at h2; cases h2; rfl
    obtain ⟨u, hu, rv⟩ := r.get ha
    have hp : ps[i]? = some y := by
      rw [← S.pre, List.getElem?_take_of_lt (by omega)]; exact h1
    have ndP : ps.Nodup := by rw [← S.pre]; exact S.nd.sublist (List.take_sublist _ _)
    refine ⟨u, rv, ?_⟩
    rcases S.par y (List.mem_of_getElem? hp) with k | k
    · exact .inl ⟨k, bindL_get ndP hp hu k⟩
    · obtain ⟨c, e⟩ := cell_has (n := s.heap.objs.size + 1) k
      refine .inr ⟨.inl k, c, e, ?_⟩
      have q := x.cell y c e
      rw [bindC_get ndP hp hu (by show scope.names.lookup y ≠ _; rw [k]; decide)] at q
      exact q
  · exact e0.hok.fresh (Nat.le_of_lt (x.above y c (PySem.mem_of_lookup h)))
  · exact absurd (show q ∈ ([] : List (Addr × Obj)) from hq) (by simp)
  · unfold L2.start
    show _ = N.length
    rw [List.length_append, List.length_map, List.length_replicate]
    omega
theorem fn_ofT {P : Program} {w : World} {K : PySem.W.Frag} {mg : Str → Option Value} {base : Heap} {k : Nat} {f : Addr} {name qual : Str} {params : Arguments} {body : List Stmt} {scope : Scope} {dV kV doc pm cdv ct oc : Value} {an od : Option Addr}
    {osl : Array (Option Value)} {N ps : List Str} {sp : Sp} (lk : K.lookup f = some ⟨oc, od, .func (PySem.W.fnOf name qual params body scope dV kV doc pm an cdv ct), osl⟩) (hcd : PySem.W.codeIn K cdv qual = true) (S : FnScope N ps scope)
    (len : ∀ vs H Q E, sp vs H Q E → vs.length = ps.length)
    (hbody : ∀ (A : Around) (outer : List Env) (s : Shared) (H : Hp) (vs : List V) (Q : VK) (E : XK), RoomH k (A.deeper (envOfC qual scope s.heap.objs.size f cdv)) → sp vs H Q E →
      ∃ t, PSs (cxT P w K mg base N qual scope f cdv A outer s H E).nox body t ∧ t { nx := fun _ H' => Q .non H', rt := Q } (L2.start N vs) H) :
    FnT P w K mg base (k + 1) f (PySem.W.fnOf name qual params body scope dV kV doc pm an cdv ct) ps sp := by
  refine ⟨len, fun A outer s H args us vs Q E hr e0 hb r hsp => ?_⟩
  have hl := len _ _ _ _ hsp
  have KX : K.In s.heap := e0.mod.kin.keeps fun b o e => (e0.bs b o e).1
  have lim : s.heap.NoLimit := e0.mod.nolimit.keeps fun b o e => (e0.bs b o e).1
  have hkind : ∀ y ∈ ps.zip us, scope.names.lookup y.1 = some .local ∨ (scope.names.lookup y.1 = some .cell ∧ ((cellsFrom (s.heap.objs.size + 1) scope.names []).lookup y.1).isSome = true) := fun ⟨n, v⟩ hy => by
    rcases S.par n (List.of_mem_zip hy).1 with q | q
    · exact .inl q
    · exact .inr ⟨q, PySem.W.cellsFrom_some _ _ _ (.inl q)⟩
  refine codeAny_call_function hr.depth (KX _ _ lk) rfl S.co S.gen rfl (PySem.W.codeRec_of KX hcd) (hb _ _ _ _ ?_)
  refine wpAny_newFunctionEnv_cells S.kind hkind fun env he s1 x => ?_
  subst he
  refine ⟨lim.keeps x.toInCall.keep, codeAny_func ?_⟩
  obtain ⟨t, ht, hq⟩ := hbody A outer s H vs Q E (hr.deeper _) hsp
  have I : Inv (cxT P w K mg base N qual scope f cdv A outer s H E) [] (L2.start N vs) H s1 := inv_startT S e0 hl r x
  refine wpAny_mono (ht.nox.run [] s1 (L2.start N vs) H _ I hq) (fun fl s' hs => ?_) fun e s' hs => hs
  have fin : ∀ {σ' : L2.St} {H' : Hp} {v : V} {u : Value}, Inv (cxT P w K mg base N qual scope f cdv A outer s H E) [] σ' H' s' → L2.RelV v u → Q v H' → CE outer P w H s Q u s' :=
    fun {σ' H' v u} J rv q => ⟨v, H', J.os, J.bare, J.base, J.hok, rv, q⟩
  cases fl with
  | ret u =>
    obtain ⟨v, σ', H', J, rv, q⟩ := hs
    exact fin J rv q
  | next =>
    obtain ⟨σ', H', J, q⟩ := hs
    exact fin (v := V.non) (u := Value.none) J rfl q
  | brk =>
    obtain ⟨_, _, _, q⟩ := hs
    exact False.elim q
  | cont =>
    obtain ⟨_, _, _, q⟩ := hs
    exact False.elim q
section
variable {X : Cx} {k : Nat} {f : Addr} {fd : FuncData} {ps : List Str} {sp : Sp} {x : Str} {q pos : Pos} {e : Expr} {es : List Expr} {t : TA}
theorem run_fnT {pins : List (Addr × Obj)} {σ : L2.St} {H : Hp} {s : Shared} {Q : VK} {us : List Value} {vs : List V} (F : FnT X.prog X.w X.K X.mg X.base k f fd ps sp) (hr : RoomH k X.A) (hb : Binds X.K fd ps [])
    (I : Inv X pins σ H s) (r : Vals vs us) (h : sp vs H Q L2.E0) : wpAny (model X.prog X.w) X.A (call (.ref f) us) (EP X pins σ Q) X.xe s := by
  have hl : us.length = ps.length := by rw [← r.length]; exact F.len _ _ _ _ h
  have b := hb s us I.kIn (by rw [List.append_nil]; exact hl)
  rw [List.append_nil] at b
  refine wpAny_call (codeAny_mono (F.run X.A X.stack s H ⟨us, []⟩ us vs Q L2.E0 hr I.env0 b r h) fun r s' hq => ?_)
  cases r with
  | error e => exact False.elim hq
  | ok fl =>
    cases fl with
    | ret u => exact I.after hq
    | next => exact False.elim hq
    | brk => exact False.elim hq
    | cont => exact False.elim hq
theorem pe_callT (F : FnT X.prog X.w X.K X.mg X.base k f fd ps sp) (hr : RoomH k X.A) (hg : Gl X x) (hm : X.mg x = some (.ref f)) (hk : PySem.W.keepIn X.K (.ref f) = true) (hb : Binds X.K fd ps [])
    (ha : PA X (e :: es) t) (hdb : (x == ("__debug__" : Str)) = false := by decide) (he : starEach (e :: es) X.env = (false, eval e X.env) :: starEach es X.env := by rfl) (hpl : (backTo pos (starEach es X.env)).any (·.1) = false := by rfl) :
    PE X (.Call (.Name x q) (e :: es) [] pos) (tCall sp [] L2.E0 t) := by
  refine ⟨fun pins s σ H Q I h => ?_⟩
  refine wpAny_Call_Name_kw (ld_glob I hg hm ?_ hdb)
  refine PySem.W.callWith_K (h₀ := X.base) I.ok.mod.kin hk (thn (ha.run pos pins s σ H _ I h) fun us s1 ⟨vs, H1, I1, r, q⟩ => ⟨I1.kIn, ?_⟩) he hpl
  have q2 : sp vs H1 Q L2.E0 := by
    have q3 : sp (vs ++ []) H1 Q L2.E0 := q
    rw [List.append_nil] at q3
    exact q3
  exact run_fnT F hr hb I1 r q2
end
end Dl
/-! Tz: exceptions by data: raise, a def that may raise, fields of an exception, except. -/
namespace Dl
open PySem PySem.Spec PyProof.Rows L2
section
variable {K : PySem.W.Frag} {B : Bt} {G H : Hp} {δ : List Sd} {P : D → Prop} {X : Xc} {O : Out} {te : TE} {ta : TA}
theorem lookup_putD (f g : Str) (y : D) (fs : List (Str × D)) : ((f, y) :: fs).lookup g = if g = f then some y else fs.lookup g := by
  by_cases h : g = f
  · subst h
    simp [List.lookup]
  · have e : (g == f) = false := by simpa using h
    rw [if_neg h]
    simp [List.lookup, e]
theorem lookup_dd : ∀ {fs : List (Str × V)} {ds : List D} {f : Str} {x : D}, Dds K B G (fs.map (·.2)) ds → ((fs.map (·.1)).zip ds).lookup f = some x → ∃ v, fs.lookup f = some v ∧ Dd K B G v x
  | [], _, _, _, _, e => by simp at e
  | (g, v) :: fs, _, f, x, .cons h t, e => by
    rw [List.map_cons, List.zip_cons_cons, lookup_putD] at e
    rw [lookup_put]
    by_cases q : f = g
    · rw [if_pos q] at e ⊢
      cases e
      exact ⟨v, rfl, h⟩
    · rw [if_neg q] at e ⊢
      exact lookup_dd t e
/-- what is known of an own exception class: its fields may be read -/
structure XcF (K : PySem.W.Frag) (C : Addr) (fs : List Str) : Prop where
  x : XfC K C
  n : ∀ f ∈ fs, PySem.W.findIn K (.ref C) f = some none
theorem we_xv {f : Str} (h : WEx K B X te δ fun d => ∃ C ks ds x, d = .exn C ks ds ∧ (ks.zip ds).lookup f = some x ∧ (XfC K C ∧ PySem.W.findIn K (.ref C) f = some none) ∧ P x) : WEx K B X (tXv K f te) δ P := fun G0 H0 σ G H Q s xx q =>
  h G0 H0 σ G H _ s xx fun v d G1 H1 g1 o1 hv ⟨C, ks, ds, x, e, l, T, p⟩ => by
    subst e
    cases hv with
    | exn h1 h2 t =>
      obtain ⟨u, l2, hu⟩ := lookup_dd t l
      exact ⟨_, _, _, _, u, rfl, o1.u _ _ h1, o1.u _ _ h2, l2, T.1, T.2, (q.on g1 o1).nil o1 hu p⟩
/-- what an __init__ promises that stores its n arguments and a code: mk, the fields -/
def spIni (C : Addr) (n : Nat) (mk : List V → List (Str × V)) : Sp := fun vs H Q _ => ∃ (a : Addr) (ws : List V), vs = .ref a :: ws ∧ ws.length = n ∧ H a = some (exo a C none) ∧ ∀ d, H d = none → d ≠ a → Q .non (upd (upd H d (exd d (mk ws))) a (exo a C (some d)))
theorem ini_heap {H : Hp} {a C d : Addr} {fs : List (Str × V)} (na : H a = none) (nd : d ≠ a) : upd (del (upd (upd (upd H a (exo a C none)) d (exd d fs)) a (exo a C (some d))) a) d (.xd fs) = upd H d (.xd fs) := by
  funext b
  by_cases hb : b = d
  · rw [hb, upd_same, upd_same]
  · rw [upd_ne hb, upd_ne hb]
    by_cases ha : b = a
    · rw [ha, del_same, na]
    · rw [del_ne ha, upd_ne ha, upd_ne hb, upd_ne ha]
/-- raise C(e, ..) -/
theorem ws_raise {C : Addr} {n : Nat} {mk : List V → List (Str × V)} {ks : List Str} {mkD : List D → List D} (hn : n ≤ 1000) (hk : ∀ ws : List V, ws.length = n → (mk ws).map (·.1) = ks) (hm : ∀ {G : Hp} {ws : List V} {ds : List D}, Dds K B G ws ds → ws.length = n → Dds K B G ((mk ws).map (·.2)) (mkD ds))
    (h : WAx K B O.x ta δ fun ds => ds.length = n ∧ O.x.ex δ C ks (mkD ds)) : WS K B (fun _ σ H => tMkO C (spIni C n mk) [] ta σ H fun cls d H' => O.x.W cls d σ H') δ O := fun G0 H0 σ G H E s xx _ _ _ _ =>
  h G0 H0 σ G H _ s (xx.ct s) fun vs ds G1 H1 g1 o1 hs ⟨l, p⟩ => by
    have lv : vs.length = n := hs.length.trans l
    refine ⟨by omega, fun a na => ⟨a, vs, by rw [List.append_nil], lv, upd_same, fun d nd hda => ⟨rfl, d, mk vs, upd_same, ?_, ?_, ?_⟩⟩⟩
    · rw [upd_ne hda, upd_same]
    · rw [upd_ne hda] at nd; exact nd
    · rw [upd_ne hda] at nd
      rw [ini_heap na hda]
      have g2 := new_go o1 (x := .xd (mk vs)) nd
      have o2 := new_ok o1 xd_nt nd (x := .xd (mk vs))
      refine ((xx.ct s).on g1 o1) C d ks (mkD ds) _ _ g2 o2 ⟨mk vs, upd_same, hk vs lv, (hm hs lv).mono g2.s⟩ p
/-- a call that may raise -/
theorem we_callX {pre : List D → Prop} {post : List D → D → Prop} {exc : List D → Addr → List Str → List D → Prop} {t : TA} (h : WAx K B X t δ fun ds => pre ds ∧ (∀ d, post ds d → P d) ∧ ∀ C ks es, exc ds C ks es → X.ex δ C ks es) : WEx K B X (tCallS (SpX K pre post exc) (L2.WE X.W) t) δ P := fun G0 H0 σ G H Q s xx q =>
  h G0 H0 σ G H _ s xx fun vs ds G1 H1 g1 o1 hs ⟨p, m, ex⟩ =>
    ⟨B, G1, ds, o1, hs, p, fun v d G2 H2 g2 o2 hd pd => (q.on g1 o1) v d G2 H2 g2 o2 hd (m d pd), fun C d ks es G2 H2 g2 o2 hd pe => (xx.on g1 o1) C d ks es G2 H2 g2 o2 hd (ex C ks es pe)⟩
end
/-! ### defs that may raise -/
section
variable {P : Program} {w : World} {K : PySem.W.Frag} {mg : Str → Option Value} {base : Heap}
structure Clx (P : Program) (w : World) (K : PySem.W.Frag) (mg : Str → Option Value) (base : Heap) (k : Nat) (x : Str) (st : Stmt) (ps : List Str) (sp : Sp) : Prop where
  ex : ∃ (f : Addr) (fd : FuncData), Fun K x x st f fd ∧ FnOk P w K mg base (L2.CX P w) k f fd ps sp ∧ mg x = some (.ref f) ∧ Binds K fd ps []
/-- .. by keywords alone -/
structure Ckx (P : Program) (w : World) (K : PySem.W.Frag) (mg : Str → Option Value) (base : Heap) (k : Nat) (x : Str) (ks : List Str) (sp : Sp) (gV : List V → List V) : Prop where
  ex : ∃ (f : Addr) (fd : FuncData) (ps : List Str) (g : List Value → List Value), FnOk P w K mg base (L2.CX P w) k f fd ps sp ∧ mg x = some (.ref f) ∧ PySem.W.keepIn K (.ref f) = true ∧ KBn K fd ps 0 ks (fun _ ws => g ws) (fun _ zs => gV zs)
theorem clx_of {x : Str} {st : Stmt} {N ps : List Str} {k : Nat} {pre : List D → Prop} {post : List D → D → Prop} {exc : List D → Addr → List Str → List D → Prop} (F : Df K mg x st) (S : FnScope N ps (defScope st))
    (hb : ∀ (kV doc pm : Value) (an : Option Addr) (cdv ct : Value) (us : List Value), us.length = ps.length → bindArgs (PySem.W.fnOf x x (defArgs st) (defBody st) (defScope st) .none kV doc pm an cdv ct) ⟨us, []⟩ = pure (ps.zip us))
    (hl : ∀ ds, pre ds → ds.length = ps.length)
    (h : ∀ (f : Addr) (cdv : Value) (A : Around) (outer : List Env) (s : Shared) (H : Hp) (E : XK), Room k (A.deeper (envOfC x (defScope st) s.heap.objs.size f cdv)) →
      ∃ t, PSs (cxOf (L2.CX P w) P w K mg base N x (defScope st) f cdv A outer s H E) (defBody st) t ∧ ∀ B ds, pre ds → WS K B t (init N ds) { nx := fun _ => post ds .non, rt := post ds, x := { W := fun cls d _ H => E cls d H, ex := fun _ => exc ds } }) : Clx P w K mg base (k + 1) x st ps (SpX K pre post exc) := by
  obtain ⟨f, fd, F, hm⟩ := F.ex
  refine ⟨f, fd, F, F.okX S (fun vs H Q E hsp => ?_) (fun cdv A outer s H vs Q E hr hsp => ?_), hm, F.binds hb⟩
  · obtain ⟨B, G, ds, o, hs, p, q, _⟩ := hsp
    exact hs.length.trans (hl ds p)
  · obtain ⟨B, G, ds, o, hs, p, q, qx⟩ := hsp
    obtain ⟨t, ht, ww⟩ := h f cdv A outer s H E hr
    refine ⟨t, ht, ww B ds p G H _ G H _ (stt_start o hs) (fun σ1 δ1 G1 H1 m s1 C d ks es hd pe => qx C d ks es G1 H1 s1.go s1.ok hd pe) (fun σ1 δ1 G1 H1 _ s1 z => q .non .non G1 H1 s1.go s1.ok .non z) ⟨fun v d G1 H1 g o1 hd z => q v d G1 H1 g o1 hd z, fun _ _ _ _ _ _ _ _ _ _ _ _ z => z.elim⟩ (fun _ _ _ _ _ _ z => z.elim) (fun _ _ _ _ _ _ z => z.elim)⟩
theorem ckx_of {x : Str} {st : Stmt} {k : Nat} {ps ks : List Str} {sp : Sp} {gV : List V → List V} (c : Clx P w K mg base k x st ps sp) (g : List Value → List Value)
    (hb : ∀ (kV doc pm : Value) (an : Option Addr) (cdv ct : Value) (ws : List Value), ws.length = ks.length → bindArgs (PySem.W.fnOf x x (defArgs st) (defBody st) (defScope st) .none kV doc pm an cdv ct) ⟨[], ks.zip ws⟩ = pure (ps.zip (g ws)))
    (hr : ∀ {zs : List V} {ws : List Value}, Vals zs ws → Vals (gV zs) (g ws)) : Ckx P w K mg base k x ks sp gV := by
  obtain ⟨f, fd, F, G, hm, _⟩ := c.ex
  have kp := F.kp
  obtain ⟨oc, od, kV, doc, pm, an, cdv, ct, osl, rfl, lk, hcd⟩ := F.ex
  refine ⟨f, _, ps, g, G, hm, kp, ⟨fun s us ws _ l1 l2 => ?_, fun _ r => hr r⟩⟩
  have e : us = [] := List.length_eq_zero_iff.mp l1
  subst e
  exact .of_eq (hb kV doc pm an cdv ct ws l2)
end
section
variable {X : Cx} {W : WX} {k j : Nat} {x : Str} {st : Stmt} {ps ks : List Str} {sp : Sp} {p pos : Pos} {e : Expr} {es : List Expr} {t tk : TA} {kws : List Keyword} {gV : List V → List V}
theorem pe_cx (c : Clx X.prog X.w X.K X.mg X.base k x st ps sp) (tk : Takes X W) (hr : Room j X.A) (hk : k ≤ j) (hg : Gl X x) (ha : PA X (e :: es) t)
    (hdb : (x == ("__debug__" : Str)) = false := by decide) (he : starEach (e :: es) X.env = (false, eval e X.env) :: starEach es X.env := by rfl) (hpl : (backTo pos (starEach es X.env)).any (·.1) = false := by rfl) :
    PE X (.Call (.Name x p) (e :: es) [] pos) (tCallS sp (L2.WE W) t) := by
  obtain ⟨f, fd, F0, F, hm, b⟩ := c.ex
  exact pe_callS F (hr.mono hk) hg hm F0.kp b (fun σ => passAt tk σ) ha hdb he hpl
/-- f(k = v, ..) that may raise -/
def tCkX (m : Nat) (sp : Sp) (gV : List V → List V) (W : WX) (tk : TA) : TE := fun σ H Q => tk σ H fun zs H2 => zs.length = m ∧ sp (gV zs) H2 Q (L2.WE W σ)
theorem pe_ckx {E : XK} (c : Ckx X.prog X.w X.K X.mg X.base k x ks sp gV) (tk2 : Takes X (fun cls d _ H => E cls d H)) (hr : Room j X.A) (hk : k ≤ j) (hg : Gl X x) (hkw : PK X kws tk)
    (hall : (backToKw pos (keywordEach kws X.env)).all (·.1.isSome) = true := by rfl) (hks : (backToKw pos (keywordEach kws X.env)).filterMap (·.1) = ks := by rfl) (hdb : (x == ("__debug__" : Str)) = false := by decide)
    (hpl : ((backTo pos (starEach [] X.env)).any (·.1) || (backToKw pos (keywordEach kws X.env)).any (·.1.isNone)) = false := by rfl) :
    PE X (.Call (.Name x p) [] kws pos) (tCkX ks.length sp gV (fun cls d _ H => E cls d H) tk) := by
  obtain ⟨f, fd, ps, g, F, hm, kp, b⟩ := c.ex
  refine ⟨fun pins s σ H Q I h => ?_⟩
  refine wpAny_Call_Name_kw (ld_glob I hg hm ?_ hdb)
  refine PySem.W.callWith_KW0 (h₀ := X.base) I.ok.mod.kin kp hall ?_ hpl
  refine thn (hkw.run pos pins s σ H _ I h) fun ws s2 ⟨zs, H2, I2, rz, l2, q2⟩ => ⟨I2.kIn, ?_⟩
  rw [hks]
  exact run_fnN F (hr.mono hk) b (passes_call tk2 fun _ _ _ _ h => h) I2 .nil rz rfl l2 q2
end
section
variable {K : PySem.W.Frag} {B : Bt} {δ : List Sd} {P : D → Prop} {X : Xc}
theorem we_ckx {pre : List D → Prop} {post : List D → D → Prop} {exc : List D → Addr → List Str → List D → Prop} {m : Nat} {gV : List V → List V} {gD : List D → List D} {tk : TA} (hg : ∀ G vs ds, Dds K B G vs ds → Dds K B G (gV vs) (gD ds)) (h : WAx K B X tk δ fun ds => ds.length = m ∧ pre (gD ds) ∧ (∀ d, post (gD ds) d → P d) ∧ ∀ C ks es, exc (gD ds) C ks es → X.ex δ C ks es) : WEx K B X (tCkX m (SpX K pre post exc) gV X.W tk) δ P := fun G0 H0 σ G H Q s xx q =>
  h G0 H0 σ G H _ s xx fun vs ds G1 H1 g1 o1 hs ⟨l, p, mm, ex⟩ =>
    ⟨hs.length.trans l, B, G1, gD ds, o1, hg _ _ _ hs, p, fun v d G2 H2 g2 o2 hd pd => (q.on g1 o1) v d G2 H2 g2 o2 hd (mm d pd), fun C d ks es G2 H2 g2 o2 hd pe => (xx.on g1 o1) C d ks es G2 H2 g2 o2 hd (ex C ks es pe)⟩
end
end Dl
/-! Ta: a lambda handed to a def that calls it in a try and answers ('told', value) or by the error that was caught. -/
namespace Dl
open PySem PySem.Spec PyProof.Rows L2 LamX
open L2H (RoomH roomH_of)
section
variable {X : Cx} {pins : List (Addr × Obj)} {σ : L2.St} {H : Hp} {s : Shared}
/-- x(), in the def that got the lambda; what is raised goes on by the slots as they stand -/
theorem pe_actS {CXg : CXT} {Eg : XK} {Ng : List Str} {qg : Str} {sg : Scope} {g f c' : Addr} {cdg pm ctv : Value} {params : Arguments} {body : Expr} {scope : Scope} {k i : Nat} {a : Str} {pn : List (Addr × Obj)} {xe : Value → Shared → Prop} {W : WX} {tb : XK → TE} {p1 p2 : Pos}
    (I : L2.Inv X pins σ H s) (L : LamS X.env.scope scope) (hf : s.heap.get? f = some (PySem.W.kla_obj "<lambda>" (X.env.qual ++ "<lambda>") params body scope (cloFrom X.env.cells scope.names []) pm c' ctv)) (hfn : H f = none) (hfr : f ∉ frs X.stack)
    (hbind : bindArgs (PySem.W.kla_fn "<lambda>" (X.env.qual ++ "<lambda>") params body scope (cloFrom X.env.cells scope.names []) pm (.ref c') ctv) ⟨[], []⟩ = pure [])
    (tk : Takes ((cxOf CXg X.prog X.w X.K X.mg X.base Ng qg sg g cdg X.A X.stack s H Eg).tr pn xe) W) (hr : Room (k + 1) (X.A.deeper (envOfC qg sg s.heap.objs.size g cdg)))
    (hbody : ∀ (A : Around) (outer : List Env) (s : Shared) (H : Hp) (E : XK), Room k (A.deeper (lamEnv X scope s.heap.objs.size f c')) → PE (lamCx X A outer s H E scope f c') body (tb E))
    (hN : Ng[i]? = some a) (hv : Vis sg a) (hd : (a == ("__debug__" : Str)) = false := by decide) (hcd : (a == ("__classdict__" : Str)) = false := by decide) :
    PE ((cxOf CXg X.prog X.w X.K X.mg X.base Ng qg sg g cdg X.A X.stack s H Eg).tr pn xe) (.Call (.Name a p1) [] [] p2)
      (fun σZ HZ Q => σZ[i]? = some (some (.ref f)) ∧ HZ c' = some (CodeO c' (X.env.qual ++ "<lambda>")) ∧ tb (L2.WE W σZ) σ HZ Q) := by
  refine ⟨fun pinsZ sZ σZ HZ Q IZ h => ?_⟩
  obtain ⟨hs, hc, ht⟩ := h
  refine wpAny_Call_Name_kw (thn ((pe_var (pos := p1) (i := i) hN hv hd hcd).run pinsZ sZ σZ HZ (fun v H1 => v = .ref f ∧ H1 = HZ) IZ ⟨.ref f, hs, rfl, rfl⟩) fun u s1 ⟨v, H1, I1, r1, q1⟩ => ?_)
  obtain ⟨ev, eH⟩ := q1
  subst ev
  rw [eH] at I1
  obtain rfl : u = Value.ref f := r1
  have of1 : s1.heap.get? f = some (PySem.W.kla_obj "<lambda>" (X.env.qual ++ "<lambda>") params body scope (cloFrom X.env.cells scope.names []) pm c' ctv) := I1.base.keep f _ hf hfn hfr (fun z => nomatch (show f ∈ ([] : List Addr) from z))
  refine PySem.W.callWith_F0 ⟨_, _, _, _, of1⟩ ?_
  have un : Un (frs X.stack) [] H HZ s.heap s1.heap := I1.base
  obtain ⟨⟨oc, vs, t, hoc, hdc, hvc⟩, _, _⟩ := I1.hok c' _ hc
  have rc : codeAny (model X.prog X.w) (X.A.deeper (envOfC qg sg s.heap.objs.size g cdg)) (.call (.ref f) ⟨[], []⟩) (CR (L2.CX X.prog X.w) (envOfC qg sg s.heap.objs.size g cdg :: X.stack) X.prog X.w HZ s1 Q (L2.WE W σZ)) s1 := by
    refine PySem.W.kla_callFunE hr.depth of1 rfl L.co L.gen rfl ⟨c', oc, vs, t, rfl, hoc, hdc, hvc⟩ ?_
    rw [hbind]
    refine wpAny_pure (wpAny_newFunctionEnv (fun y hy => (L.own y hy).2) (fun y hy => absurd hy (by simp)) (fun h₁ hns hsb => ⟨I1.nolimit.fresh _ hsb, ?_⟩) L.kind)
    show codeAny _ _ (.expr body (lamEnv X scope s1.heap.objs.size f c')) _ _
    have kp : ∀ b o, s1.heap.get? b = some o → h₁.get? b = some o := fun b o e => hsb.extBut b o (Nat.ne_of_lt (Heap.lt_size e)) (Heap.get?_push_of_some _ e)
    have J : L2.Inv (lamCx X (X.A.deeper (envOfC qg sg s.heap.objs.size g cdg)) (envOfC qg sg s.heap.objs.size g cdg :: X.stack) s1 HZ (L2.WE W σZ) scope f c') [] σ HZ { s1 with heap := h₁, toks := s1.toks + ([] : List (Str × Value)).length } :=
      lam_start2 I L I1.env0 hr.hd un hns kp
    refine PySem.W.kla_codeExpr (wpAny_mono ((hbody _ _ s1 HZ (L2.WE W σZ) (hr.deeper _)).run [] _ _ HZ Q J ht) (fun v s' hq => ?_) fun e s' hq => hq)
    obtain ⟨w', H', J', rv, q⟩ := hq
    exact ⟨w', H', J'.os, J'.bare, J'.base, J'.hok, rv, q⟩
  refine wpAny_call (codeAny_mono rc fun r s' hq => ?_)
  cases r with
  | error e => exact passAt tk σZ pinsZ HZ s1 e s' I1 hq
  | ok fl =>
    cases fl with
    | ret u => exact I1.after hq
    | next => exact False.elim hq
    | brk => exact False.elim hq
    | cont => exact False.elim hq
end
/-- the def that calls what it got -/
def GivesS (X : Cx) (Ng : List Str) (x : Str) (sg : Scope) (g : Addr) (cdg : Value) (bg : List Stmt) (a : Str) (q : Str) (j : Nat) (TT : (XK → Hp → VK → Prop) → Hp → VK → Prop) : Prop :=
  ∀ (f c' : Addr) (s : Shared) (H : Hp) (Q : VK) (tl : XK → Hp → VK → Prop), Room (j + 1) (X.A.deeper (envOfC x sg s.heap.objs.size g cdg)) →
    (∀ (W : WX) (pn : List (Addr × Obj)) (xe : Value → Shared → Prop) (p1 p2 : Pos), Takes ((cxOf C8.CX0 X.prog X.w X.K X.mg X.base Ng x sg g cdg X.A X.stack s H C8.E0).tr pn xe) W →
      PE ((cxOf C8.CX0 X.prog X.w X.K X.mg X.base Ng x sg g cdg X.A X.stack s H C8.E0).tr pn xe) (.Call (.Name a p1) [] [] p2) (fun σZ HZ Q => σZ[0]? = some (some (.ref f)) ∧ HZ c' = some (CodeO c' q) ∧ tl (L2.WE W σZ) HZ Q)) →
    H c' = some (CodeO c' q) → TT tl H Q →
    ∃ t, PSs (cxOf C8.CX0 X.prog X.w X.K X.mg X.base Ng x sg g cdg X.A X.stack s H C8.E0).nox bg t ∧ t { nx := fun _ H' => Q .non H', rt := Q } (L2.start Ng [.ref f]) H
section
variable {X : Cx}
/-- x(lambda: body) -/
theorem pe_lamS {T : List (Addr × Str)} {TT : (XK → Hp → VK → Prop) → Hp → VK → Prop} {x a : Str} {g c P : Addr} {k : Nat} {pg : Arguments} {bg : List Stmt} {sg : Scope} {dV kV doc pm cdv ct oc : Value} {an od : Option Addr} {osl : Array (Option Value)} {Ng : List Str}
    {params : Arguments} {body : Expr} {scope : Scope} {t : XK → TE} {p lpos pos : Pos} (hg : Gl X x) (hm : X.mg x = some (.ref g)) (hk : PySem.W.keepIn X.K (.ref g) = true)
    (lk : X.K.lookup g = some ⟨oc, od, .func (PySem.W.fnOf x x pg bg sg dV kV doc pm an cdv ct), osl⟩) (hcg : PySem.W.codeIn X.K cdv x = true) (hb : L2.Binds X.K (PySem.W.fnOf x x pg bg sg dV kV doc pm an cdv ct) [a] []) (Sg : FnScope Ng [a] sg) (hNg : Ng[0]? = some a) (hva : Vis sg a)
    (hG : GivesS X Ng x sg g cdv bg a (X.env.qual ++ "<lambda>") k TT)
    (TB : TabB X.base X.mg c P) (hcode : X.env.code = .ref c) (hmT : (P, X.env.qual ++ "<lambda>") ∈ T) (hu : ∀ p ∈ T, p.1 = P → p.2 = X.env.qual ++ "<lambda>") (hr : Room (k + 2) X.A) (L : LamS X.env.scope scope) (hdef : defaultsOf params X.env = ([], []))
    (hbind : ∀ (q : Str) (cl : List (Str × Addr)) (pm cv ctv : Value), bindArgs (PySem.W.kla_fn "<lambda>" q params body scope cl pm cv ctv) ⟨[], []⟩ = pure [])
    (hbody : ∀ (A : Around) (outer : List Env) (s : Shared) (H : Hp) (E : XK) (f c' : Addr), Room k (A.deeper (lamEnv X scope s.heap.objs.size f c')) → PE (lamCx X A outer s H E scope f c') body (t E))
    (hdb : (x == ("__debug__" : Str)) = false := by decide) (hd : (a == ("__debug__" : Str)) = false := by decide) (hcd : (a == ("__classdict__" : Str)) = false := by decide) :
    PE X (.Call (.Name x p) [.Lambda params body scope lpos] [] pos) (tLam T TT t) := by
  refine ⟨fun pins s σ H Q I h => ?_⟩
  obtain ⟨hT, h⟩ := h
  refine wpAny_Call_Name_kw (ld_glob I hg hm ?_ hdb)
  refine PySem.W.callWith_K (h₀ := X.base) I.ok.mod.kin hk ?_ (by rfl) (by rfl)
  show wpAny _ _ (spliced ((false, eval (.Lambda params body scope lpos) X.env) :: backTo pos (starEach [] X.env))) _ _ s
  refine Calls.spliced_cons (lam_make2 I TB hcode hmT hu hT hdef (L.has I.ok) fun f c' pm' ctv H1 s' I1 eN T1 hf hfn hfr hco => ?_)
  refine Calls.spliced_nil ⟨I1.kIn, ?_⟩
  have rc : codeAny (model X.prog X.w) X.A (.call (.ref g) ⟨[.ref f], []⟩) (CR C8.CX0 X.stack X.prog X.w H1 s' Q C8.E0) s' := by
    refine run_ofS (N := Ng) (ps := [a]) (us := [.ref f]) (vs := [.ref f]) lk hcg Sg hr I1.env0 (hb s' [.ref f] I1.kIn rfl) (.cons rfl .nil) rfl fun hr' => ?_
    obtain ⟨t', ht', hq'⟩ := hG f c' s' H1 Q (fun E H' Q' => t E σ H' Q') hr' (fun W pn xe p1 p2 tk => pe_actS (i := 0) I1 L hf hfn hfr (hbind _ _ _ _ _) tk hr' (fun A outer s H E hr2 => hbody A outer s H E f c' hr2) hNg hva hd hcd) hco (h H1 eN T1)
    exact ⟨t', ht'.nox, hq'⟩
  refine wpAny_call (codeAny_mono rc fun r s2 hq => ?_)
  cases r with
  | error e => exact (show False from hq).elim
  | ok fl =>
    cases fl with
    | ret u => exact I1.after hq
    | next => exact False.elim hq
    | brk => exact False.elim hq
    | cont => exact False.elim hq
/-- the suite: return ('no', e.code) + fields(e) -/
def tSuite (K : PySem.W.Frag) (spF : Sp) : TS := tRet (tOp (rCatA K) (tTup (tCons (tC (.str "no")) (tCons (tXv K "code" (tVar 1)) tNil))) (tCall spF [] L2.E0 (tCons (tVar 1) tNil)))
def TGot (K : PySem.W.Frag) (c1 c2 : Value) (spF : Sp) : (XK → Hp → VK → Prop) → Hp → VK → Prop := fun tl H Q => ∀ f : Addr,
  tl (L2.WE (wTup K c1 c2 1 (tSuite K spF) (fun _ _ _ _ => False) { nx := fun _ H' => Q .non H', rt := Q }) [some (.ref f), none]) H fun v H1 => ([.str "told", v] : List V).length ≤ sizeLine ∧ ∀ p, H1 p = none → Q (.ref p) (upd H1 p (.tup [.str "told", v]))
theorem got_gives {a x1 x2 n xf x q : Str} {sg : Scope} {g : Addr} {cdg c1 c2 : Value} {j kf ff kk k2 k3 : Nat} {fdF : FuncData} {psF : List Str} {spF : Sp} {P1 P2 P3 P4 P5 P6 P7 P8 P9 P10 P11 P12 P13 P14 P15 P16 P17 P18 P19 : Pos} {kn kt kq : Nat}
    (Sg : FnScope [a, n] [a] sg) (h1 : sg.names.lookup x1 = some .globalImplicit) (h2 : sg.names.lookup x2 = some .globalImplicit) (d1 : (x1 == ("__debug__" : Str)) = false) (d2 : (x2 == ("__debug__" : Str)) = false) (hn : sg.names.lookup n = some .local)
    (m1 : X.mg x1 = some c1) (m2 : X.mg x2 = some c2) (hgf : sg.names.lookup xf = some .globalImplicit) (mf : X.mg xf = some (.ref ff)) (kf' : PySem.W.keepIn X.K (.ref ff) = true) (bf : Binds X.K fdF psF []) (dF : (xf == ("__debug__" : Str)) = false) (dn : (n == ("__debug__" : Str)) = false) (dnc : (n == ("__classdict__" : Str)) = false)
    (F : FnT X.prog X.w X.K X.mg X.base kf ff fdF psF spF) (hj : kf ≤ j + 1) :
    GivesS X [a, n] x sg g cdg [.Try [.Return (some (.Tuple [.Constant (.str "told") kt P1, .Call (.Name a P2) [] [] P3] k2 P4)) P5] [.ExceptHandler (some (.Tuple [.Name x1 P6, .Name x2 P7] kk P8)) (some n) [.Return (some (.BinOp (.Tuple [.Constant (.str "no") kn P9, .Attribute (.Name n P10) "code" P11] k3 P12) .Add (.Call (.Name xf P13) [.Name n P14] [] P15) P16)) P17] P18] [] [] P19] a q j (TGot X.K c1 c2 spF) := by
  intro f c' s H Q tl hr act hc h
  have vn : Vis sg n := .inl hn
  refine ⟨_, pss_one (ps_try_tup (X := (cxOf C8.CX0 X.prog X.w X.K X.mg X.base [a, n] x sg g cdg X.A X.stack s H C8.E0).nox) (c1 := c1) (c2 := c2) (i := 1) (ts := tSuite X.K spF)
      (tb := fun W => tRet (tTup (tCons (tC (.str "told")) (tCons (fun σZ HZ Q => σZ[0]? = some (some (.ref f)) ∧ HZ c' = some (CodeO c' q) ∧ tl (L2.WE W σZ) HZ Q) tNil))))
      rfl rfl rfl Sg.nd rfl (show sg.names.lookup n = some .local from hn) ⟨h1, d1, .inl m1⟩ ⟨h2, d2, .inl m2⟩ L2.takes0 (fun W pn xe tk _ => pss_one (ps_ret (pe_tup (pa_cons pe_str (pa_cons (act W pn xe P2 P3 tk) pa_nil))))) (fun a' pn => ?_)), ?_⟩
  · have hrH : RoomH kf (((cxOf C8.CX0 X.prog X.w X.K X.mg X.base [a, n] x sg g cdg X.A X.stack s H C8.E0).nox.suite a' pn)).A := ⟨(roomH_of hr).mono hj |>.dp, (roomH_of hr).mono hj |>.un⟩
    have ve : ∀ {pp : Pos}, PE ((cxOf C8.CX0 X.prog X.w X.K X.mg X.base [a, n] x sg g cdg X.A X.stack s H C8.E0).nox.suite a' pn) (.Name n pp) (tVar 1) := fun {pp} => pe_var (pos := pp) (i := 1) rfl vn dn dnc
    exact pss_one (ps_ret (pe_op op_catA (pe_tup (pa_cons pe_str (pa_cons (pe_xv ve) pa_nil))) (pe_callT (X := ((cxOf C8.CX0 X.prog X.w X.K X.mg X.base [a, n] x sg g cdg X.A X.stack s H C8.E0).nox.suite a' pn)) F hrH hgf mf kf' bf (pa_cons ve pa_nil) dF)))
  · exact ⟨rfl, hc, h f⟩
end
end Dl
namespace Dl
open PySem PySem.Spec PyProof.Rows L2 LamX
section
variable {K : PySem.W.Frag} {B : Bt} {G H H1 : Hp} {δ : List Sd} {P : D → Prop} {X : Xc}
/-- all but the tables stands: a state by data -/
theorem ext_go (o : Ok B G H) (e : ExtN H H1) (t : Tabs B.T H1) : Go B G H G H1 ∧ Ok B G H1 := by
  refine ⟨⟨Same.refl G, fun a u _ ht h => e a u h ht, fun _ _ _ _ h => h, fun c r h => ⟨r, e _ _ h nt_lst⟩⟩, ⟨fun a u h => e a u (o.u a u h) (o.f a u h), o.b, ?_, t, o.f⟩⟩
  obtain ⟨c, cells, p', r, m, n, h, g', w⟩ := o.x
  exact ⟨c, cells, p', r, m, n, e _ _ h nt_lst, g', w⟩
theorem we_got {c1 c2 : Value} {preF : List D → Prop} {postF : List D → D → Prop} {te : XK → TE} {R : D → Prop} {exc : Addr → List Str → List D → Prop}
    (hb : ∀ E : XK, WEx K B { W := fun cls d _ H => E cls d H, ex := fun _ => exc } (te E) δ R) (hv : ∀ d, R d → P (.tup [.str "told", d]))
    (hx : ∀ C ks ds, exc C ks ds → PySem.W.exmAny K (.ref C) [c1, c2] = some true ∧ WS K B (tSuite K (SpD K preF postF)) [.no, .val (.exn C ks ds)] { nx := fun _ => False, rt := P }) :
    WEx K B X (tLam B.T (TGot K c1 c2 (SpD K preF postF)) te) δ P := fun G0 H0 σ G H Q s xx q => by
  refine ⟨s.ok.t, fun H1 hE hT f => ?_⟩
  obtain ⟨g1, o1⟩ := ext_go s.ok hE hT
  refine hb _ G0 H0 σ G H1 _ (s.on g1 o1) (fun C d ks ds G2 H2 g2 o2 hd pe => ?_) fun v d G2 H2 g2 o2 hd pd => ?_
  · obtain ⟨hm, hw⟩ := hx C ks ds pe
    refine ⟨true, hm, fun _ => ⟨C, d, rfl, rfl, fun a na => ?_⟩, fun z => absurd z (by decide)⟩
    obtain ⟨fs, e1, rfl, e3⟩ := hd
    have hda : d ≠ a := fun z => by
      have z2 := o2.u _ _ e1
      rw [z, na] at z2; cases z2
    have g3 := new_go o2 (x := xo a C d) na
    have o3 := new_ok o2 (xo_nt (a := a) (C := C) (d := d)) na
    have st : Stt K B (upd G2 a (xo a C d)) (upd H2 a (xo a C d)) (upd G2 a (xo a C d)) (upd H2 a (xo a C d)) ([some (V.ref f), none].set 1 (some (V.ref a))) [.no, .val (.exn C (fs.map (·.1)) ds)] := by
      refine ⟨Go.refl, o3, rfl, fun i d' h => ?_, fun i es h => ?_, fun i j es es' x h => ?_⟩
      · match i, h with
        | 0, h => cases h
        | 1, h => cases h; exact ⟨.ref a, rfl, .exn upd_same (by rw [upd_ne hda]; exact e1) (e3.mono g3.s)⟩
        | n + 2, h => cases h
      · match i, h with
        | 0, h => cases h
        | 1, h => cases h
        | n + 2, h => cases h
      · match i, h with
        | 0, h => cases h
        | 1, h => cases h
        | n + 2, h => cases h
    exact hw _ _ _ _ _ _ st xs0 (fun _ _ _ _ _ _ z => z.elim) ⟨fun v d' G4 H4 g4 o4 hd' pd' => (((q.on g1 o1).on g2 o2).on g3 o3) v d' G4 H4 g4 o4 hd' pd', fun _ _ _ _ _ _ _ _ _ _ _ _ z => z.elim⟩ (fun _ _ _ _ _ _ z => z.elim) (fun _ _ _ _ _ _ z => z.elim)
  · refine ⟨by show 2 ≤ sizeLine; decide, fun p hp => ?_⟩
    exact ((q.on g1 o1).on g2 o2).new o2 nt_tup hp (.tup upd_same ((Dds.cons (.str "told") (.cons hd .nil)).mono (same_upd (o2.fresh hp)))) (hv d pd)
end
end Dl
namespace Dl
open PySem PySem.Spec PyProof.Rows L2 LamX
/-! ### raise C(..) of an own class whose __init__ stores -/
structure Rz (P : Program) (w : World) (K : PySem.W.Frag) (mg : Str → Option Value) (base : Heap) (k : Nat) (x : Str) (C : Addr) (n : Nat) (mk : List V → List (Str × V)) : Prop where
  ex : ∃ (fI : Addr) (fd : FuncData) (ps : List Str), OexC K C ∧ PySem.W.findIn K (.ref C) "__init__" = some (some (.ref fI)) ∧ PySem.W.typeIn K (.ref fI) = some (.type "function") ∧ FnOk P w K mg base L2.CX0 k fI fd ps (spIni C n mk) ∧ Binds K fd ps [] ∧ mg x = some (.ref C)
/-- what the top tells of such a class -/
structure Er (K : PySem.W.Frag) (mg : Str → Option Value) (x q : Str) (C : Addr) (st : Stmt) (fs : List Str) : Prop where
  o : OexC K C
  xf : XfC K C
  n : ∀ f ∈ fs, PySem.W.findIn K (.ref C) f = some none
  i : ∃ (fI : Addr) (fd : FuncData), Fun K "__init__" q st fI fd ∧ PySem.W.findIn K (.ref C) "__init__" = some (some (.ref fI)) ∧ PySem.W.typeIn K (.ref fI) = some (.type "function")
  g : mg x = some (.ref C)
section
variable {X : Cx} {W : WX} {k j n : Nat} {x : Str} {C : Addr} {mk : List V → List (Str × V)} {e : Expr} {es : List Expr} {ta : TA} {p pos pos2 : Pos}
theorem ps_rz (R : Rz X.prog X.w X.K X.mg X.base k x C n mk) (tk : Takes X W) (hc : X.calm = true) (hr : Room j X.A) (hk : k + 1 ≤ j) (hg : Gl X x) (ha : PA X (e :: es) ta) (hdb : (x == ("__debug__" : Str)) = false := by decide)
    (he : starEach (e :: es) X.env = (false, eval e X.env) :: starEach es X.env := by rfl) (hpl : (backTo pos (starEach es X.env)).any (·.1) = false := by rfl) :
    PS X (.Raise (some (.Call (.Name x p) (e :: es) [] pos)) none pos2) (fun _ σ H => tMkO C (spIni C n mk) [] ta σ H fun cls d H' => W cls d σ H') := by
  obtain ⟨fI, fd, ps, T, i, t, F, b, m⟩ := R.ex
  exact ps_raise hc tk (pmk_oex T i t F (hr.mono hk) b .nil (fun _ _ _ _ _ _ _ h => h.elim) hg m ha hdb he hpl)
end
section
variable {P : Program} {w : World} {K : PySem.W.Frag} {mg : Str → Option Value} {base : Heap}
/-- __init__(self, f): self.f = f; self.code = z -/
theorem rz1 {x q f z : Str} {C : Addr} {st : Stmt} {k : Nat} (E : Er K mg x q C st [f, ("code" : Str)]) (S : FnScope [("self" : Str), f] [("self" : Str), f] (defScope st)) (hf : (f == ("__debug__" : Str)) = false) (hf2 : (f == ("__classdict__" : Str)) = false)
    (hb : ∀ (kV doc pm : Value) (an : Option Addr) (cdv ct : Value) (us : List Value), us.length = 2 → bindArgs (PySem.W.fnOf "__init__" q (defArgs st) (defBody st) (defScope st) .none kV doc pm an cdv ct) ⟨us, []⟩ = pure ([("self" : Str), f].zip us))
    {p1 p2 p3 p4 p5 p6 p7 p8 : Pos} {KZ : Nat} (eb : defBody st = [.Assign [.Attribute (.Name "self" p1) f p2] (.Name f p3) p4, .Assign [.Attribute (.Name "self" p5) "code" p6] (.Constant (.str z) KZ p7) p8])
    (sw1 : ∀ (f0 : Addr) (cdv : Value) (A : Around) (outer : List Env) (s : Shared) (H : Hp) (E : XK), swapsWith (.Name f p3) (some (.Attribute (.Name "self" p1) f p2)) p4.line (cxOf L2.CX0 P w K mg base [("self" : Str), f] q (defScope st) f0 cdv A outer s H E).nox.env = pure false)
    (sw2 : ∀ (f0 : Addr) (cdv : Value) (A : Around) (outer : List Env) (s : Shared) (H : Hp) (E : XK), swapsWith (.Constant (.str z) KZ p7) (some (.Attribute (.Name "self" p5) "code" p6)) p8.line (cxOf L2.CX0 P w K mg base [("self" : Str), f] q (defScope st) f0 cdv A outer s H E).nox.env = pure false) :
    Rz P w K mg base (k + 1) x C 1 (fun ws => [("code", .str z), (f, ws.headD .non)]) := by
  obtain ⟨fI, fd, F, i, t⟩ := E.i
  refine ⟨fI, fd, [("self" : Str), f], E.o, i, t, F.ok S (fun vs H Q E' h => ?_) (fun cdv A outer s H vs Q E' hr h => ?_), F.binds hb, E.g⟩
  · obtain ⟨a, ws, rfl, l, _⟩ := h
    rw [List.length_cons, l]; rfl
  · obtain ⟨a, ws, rfl, l, hA, hq⟩ := h
    obtain ⟨v, rfl⟩ : ∃ v, ws = [v] := by
      match ws, l with
      | [v], _ => exact ⟨v, rfl⟩
    rw [eb]
    have vs0 : Vis (defScope st) "self" := (S.par "self" (by simp)).elim .inl (fun h => .inr (.inl h))
    have vs1 : Vis (defScope st) f := (S.par f (by simp)).elim .inl (fun h => .inr (.inl h))
    refine ⟨_, pss_cons (ps_ost (pe_var (i := 0) rfl vs0) (pe_var (i := 1) rfl vs1 hf hf2) (sw1 _ _ _ _ _ _ _)) (pss_one (ps_ost (pe_var (i := 0) rfl vs0) pe_str (sw2 _ _ _ _ _ _ _))), ?_⟩
    refine ⟨v, rfl, .ref a, rfl, a, C, rfl, E.o, E.n f (by simp), .inl ⟨hA, fun dx nd ne => ?_⟩⟩
    refine ⟨.ref a, rfl, a, C, rfl, E.o, E.n "code" (by simp), .inr ⟨dx, [(f, v)], upd_same, ?_, (by show 1 ≤ 900; decide), ?_⟩⟩
    · rw [upd_ne ne, upd_same]
    · have e : upd (upd (upd H dx (exd dx [(f, v)])) a (exo a C (some dx))) dx (exd dx [("code", .str z), (f, v)]) = upd (upd H dx (exd dx [("code", .str z), (f, v)])) a (exo a C (some dx)) := by
        funext b
        by_cases hb : b = dx
        · rw [hb, upd_same, upd_ne ne, upd_same]
        · rw [upd_ne hb]
          by_cases ha : b = a
          · rw [ha, upd_same, upd_same]
          · rw [upd_ne ha, upd_ne ha, upd_ne hb, upd_ne hb]
      show Q .non (upd (upd (upd H dx (exd dx [(f, v)])) a (exo a C (some dx))) dx (exd dx [("code", .str z), (f, v)]))
      rw [e]
      exact hq dx nd ne
end
end Dl
namespace Dl
open PySem L2
section
variable {K : PySem.W.Frag} {B : Bt} {δ : List Sd} {te : TE} {O : Out}
/-- a, b = a list of two, a tuple of two; a, b, c = x, y, z -/
theorem ws_unl2 {i j : Nat} (h : WEx K B O.x te δ fun d => ∃ a b, d = .lst [a, b] ∧ O.nx ((δ.set i (.val a)).set j (.val b))) : WS K B (tAsg te (gLst K 2 (gCons (gName i) (gCons (gName j) gNil)))) δ O := fun G0 H0 σ G H E s xx n _ _ _ =>
  h G0 H0 σ G H _ s (xx.ct s) fun v d G1 H1 g o hd ⟨a, b, e, p⟩ => by
    subst e
    cases hd with
    | lst hg t =>
      cases t with
      | cons h1 t =>
        cases t with
        | cons h2 t =>
          cases t
          exact ⟨_, _, rfl, SqL.of (o.u _ _ hg), rfl, _, _, rfl, _, _, rfl, rfl, n _ _ G1 H1 g.s (((s.on g o).setVal i h1).setVal j h2) p⟩
theorem ws_unt2 {i j : Nat} (h : WEx K B O.x te δ fun d => ∃ a b, d = .tup [a, b] ∧ O.nx ((δ.set i (.val a)).set j (.val b))) : WS K B (tAsg te (gTup K 2 (gCons (gName i) (gCons (gName j) gNil)))) δ O := fun G0 H0 σ G H E s xx n _ _ _ =>
  h G0 H0 σ G H _ s (xx.ct s) fun v d G1 H1 g o hd ⟨a, b, e, p⟩ => by
    subst e
    cases hd with
    | tup hg t =>
      cases t with
      | cons h1 t =>
        cases t with
        | cons h2 t =>
          cases t
          exact ⟨_, _, rfl, SqT.of (o.u _ _ hg), rfl, _, _, rfl, _, _, rfl, rfl, n _ _ G1 H1 g.s (((s.on g o).setVal i h1).setVal j h2) p⟩
theorem ws_par3 {i j l : Nat} {ta : TA} (h : WAx K B O.x ta δ fun ds => ∃ a b c, ds = [a, b, c] ∧ O.nx (((δ.set i (.val a)).set j (.val b)).set l (.val c))) : WS K B (tPar3 i j l ta) δ O := fun G0 H0 σ G H E s xx n _ _ _ =>
  h G0 H0 σ G H _ s (xx.ct s) fun vs ds G1 H1 g o hs ⟨a, b, c, e, p⟩ => by
    subst e
    cases hs with
    | cons h1 t1 =>
      cases t1 with
      | cons h2 t2 =>
        cases t2 with
        | cons h3 t3 =>
          cases t3
          exact ⟨_, _, _, rfl, n _ _ G1 H1 g.s ((((s.on g o).setVal i h1).setVal j h2).setVal l h3) p⟩
end
end Dl
namespace Dl
open PySem L2
theorem u65 {k : Nat} {A : Around} (hr : Room k A) : A.units + 65 < cLine := by have := hr.un; omega
end Dl
namespace Dl
open PySem PySem.Spec PyProof.Rows L2
open L2H (RoomH roomH_of)
section
variable {P : Program} {w : World} {K : PySem.W.Frag} {mg : Str → Option Value} {base : Heap}
/-- a def that may be called where an error is handled -/
structure ClHot (P : Program) (w : World) (K : PySem.W.Frag) (mg : Str → Option Value) (base : Heap) (k : Nat) (x : Str) (ps : List Str) (sp : Sp) : Prop where
  ex : ∃ (ff : Addr) (fd : FuncData), FnT P w K mg base k ff fd ps sp ∧ mg x = some (.ref ff) ∧ PySem.W.keepIn K (.ref ff) = true ∧ Binds K fd ps []
theorem clHot_of {x : Str} {st : Stmt} {N ps : List Str} {k : Nat} {pre : List D → Prop} {post : List D → D → Prop} (F : Df K mg x st) (S : FnScope N ps (defScope st))
    (hb : ∀ (kV doc pm : Value) (an : Option Addr) (cdv ct : Value) (us : List Value), us.length = ps.length → bindArgs (PySem.W.fnOf x x (defArgs st) (defBody st) (defScope st) .none kV doc pm an cdv ct) ⟨us, []⟩ = pure (ps.zip us))
    (hl : ∀ ds, pre ds → ds.length = ps.length)
    (h : ∀ (f : Addr) (cdv : Value) (A : Around) (outer : List Env) (s : Shared) (H : Hp) (E : XK), RoomH k (A.deeper (envOfC x (defScope st) s.heap.objs.size f cdv)) →
      ∃ t, PSs (cxT P w K mg base N x (defScope st) f cdv A outer s H E).nox (defBody st) t ∧ ∀ B ds, pre ds → WS K B t (init N ds) { nx := fun _ => post ds .non, rt := post ds }) : ClHot P w K mg base (k + 1) x ps (SpD K pre post) := by
  obtain ⟨f, fd, F, hm⟩ := F.ex
  have kp := F.kp
  have hbd := F.binds hb
  obtain ⟨oc, od, kV, doc, pm, an, cdv, ct, osl, rfl, lk, hcd⟩ := F.ex
  refine ⟨f, _, fn_ofT lk hcd S (fun vs H Q E hsp => ?_) (fun A outer s H vs Q E hr hsp => ?_), hm, kp, hbd⟩
  · obtain ⟨B, G, ds, o, hs, p, q⟩ := hsp
    exact hs.length.trans (hl ds p)
  · obtain ⟨B, G, ds, o, hs, p, q⟩ := hsp
    obtain ⟨t, ht, ww⟩ := h f cdv A outer s H E hr
    exact ⟨t, ht, ww B ds p G H _ G H _ (stt_start o hs) xs0 (fun σ1 δ1 G1 H1 _ s1 z => q .non .non G1 H1 s1.go s1.ok .non z) ⟨fun v d G1 H1 g o1 hd z => q v d G1 H1 g o1 hd z, fun _ _ _ _ _ _ _ _ _ _ _ _ z => z.elim⟩ (fun _ _ _ _ _ _ z => z.elim) (fun _ _ _ _ _ _ z => z.elim)⟩
end
end Dl
/-! The round order of pairs: plain mathematics. -/
namespace Rm
def sec (u v : Int) : Bool := decide (v < 0) || (decide (v = 0) && decide (u < 0))
def ahd (u v x y : Int) : Bool := if (sec u v != sec x y) = true then sec x y else decide (0 < u * y - v * x)
/-- in the first half -/
def up (u v : Int) : Prop := 0 < v ∨ (v = 0 ∧ 0 < u)
theorem up_or {u v : Int} (h : u ≠ 0 ∨ v ≠ 0) : (up u v ∧ sec u v = false) ∨ (up (-u) (-v) ∧ sec u v = true) := by
  unfold up sec
  by_cases h1 : v < 0
  · right
    exact ⟨by left; omega, by simp [h1]⟩
  · by_cases h2 : v = 0
    · by_cases h3 : u < 0
      · right; exact ⟨by right; omega, by simp [h2, h3]⟩
      · left; exact ⟨by right; omega, by simp [h2, h3]⟩
    · left; exact ⟨by left; omega, by simp [h1, h2]⟩
theorem ident (u1 v1 u2 v2 u3 v3 : Int) : v2 * (u1 * v3 - v1 * u3) = v3 * (u1 * v2 - v1 * u2) + v1 * (u2 * v3 - v2 * u3) := by
  simp only [Int.mul_sub, ← Int.mul_assoc]
  rw [Int.mul_comm v2 u1, Int.mul_comm v2 v1, Int.mul_comm v3 u1, Int.mul_comm v3 v1, Int.mul_assoc u1 v2 v3, Int.mul_assoc u1 v3 v2, Int.mul_comm v2 v3, Int.mul_assoc v1 v3 u2, Int.mul_comm v3 u2, ← Int.mul_assoc v1 u2 v3]
  omega
theorem up_trans {u1 v1 u2 v2 u3 v3 : Int} (h1 : up u1 v1) (h2 : up u2 v2) (h3 : up u3 v3) (a : 0 < u1 * v2 - v1 * u2) (b : 0 < u2 * v3 - v2 * u3) : 0 < u1 * v3 - v1 * u3 := by
  have p1 : 0 ≤ v1 := by unfold up at h1; omega
  have p2 : 0 ≤ v2 := by unfold up at h2; omega
  have p3 : 0 ≤ v3 := by unfold up at h3; omega
  have q2 : 0 < v2 := by
    rcases h2 with h | ⟨h, h'⟩
    · exact h
    · exfalso
      subst h
      rw [Int.mul_zero, Int.zero_sub] at a
      have := Int.mul_nonneg p1 (Int.le_of_lt h')
      omega
  have q13 : 0 < v1 ∨ 0 < v3 := by
    by_cases e1 : v1 = 0
    · by_cases e3 : v3 = 0
      · exfalso
        subst e3
        have u3p : 0 < u3 := by unfold up at h3; omega
        rw [Int.mul_zero, Int.zero_sub] at b
        have := Int.mul_pos q2 u3p
        omega
      · right; omega
    · left; omega
  have key := ident u1 v1 u2 v2 u3 v3
  have r1 : 0 ≤ v3 * (u1 * v2 - v1 * u2) := Int.mul_nonneg p3 (Int.le_of_lt a)
  have r2 : 0 ≤ v1 * (u2 * v3 - v2 * u3) := Int.mul_nonneg p1 (Int.le_of_lt b)
  have r : 0 < v2 * (u1 * v3 - v1 * u3) := by
    rcases q13 with q | q
    · have := Int.mul_pos q b
      omega
    · have := Int.mul_pos q a
      omega
  exact Int.pos_of_mul_pos_left (by rw [Int.mul_comm]; exact r) q2
theorem ahd_irr (u v : Int) : ahd u v u v = false := by
  unfold ahd
  rw [if_neg (by simp), Int.mul_comm u v]
  exact decide_eq_false (by omega)
theorem neg_cross (u v x y : Int) : (-u) * (-y) - (-v) * (-x) = u * y - v * x := by
  rw [Int.neg_mul_neg, Int.neg_mul_neg]
theorem ahd_trans {u1 v1 u2 v2 u3 v3 : Int} (n1 : u1 ≠ 0 ∨ v1 ≠ 0) (n2 : u2 ≠ 0 ∨ v2 ≠ 0) (n3 : u3 ≠ 0 ∨ v3 ≠ 0) (a : ahd u1 v1 u2 v2 = true) (b : ahd u2 v2 u3 v3 = true) : ahd u1 v1 u3 v3 = true := by
  unfold ahd at a b ⊢
  rcases up_or n1 with ⟨p1, s1⟩ | ⟨p1, s1⟩ <;> rcases up_or n2 with ⟨p2, s2⟩ | ⟨p2, s2⟩ <;> rcases up_or n3 with ⟨p3, s3⟩ | ⟨p3, s3⟩ <;> rw [s1, s2] at a <;> rw [s2, s3] at b <;> rw [s1, s3]
  · have a' : 0 < u1 * v2 - v1 * u2 := by simpa using a
    have b' : 0 < u2 * v3 - v2 * u3 := by simpa using b
    simpa using up_trans p1 p2 p3 a' b'
  · simp
  · simp at b
  · simp
  · simp at a
  · simp at a
  · simp at b
  · have a' : 0 < (-u1) * (-v2) - (-v1) * (-u2) := by rw [neg_cross]; simpa using a
    have b' : 0 < (-u2) * (-v3) - (-v2) * (-u3) := by rw [neg_cross]; simpa using b
    have c := up_trans p1 p2 p3 a' b'
    rw [neg_cross] at c
    simpa using c
theorem abs_eq {u v x y : Int} (g1 : Nat.gcd u.natAbs v.natAbs = 1) (g2 : Nat.gcd x.natAbs y.natAbs = 1) (e : u * y = v * x) : u.natAbs = x.natAbs ∧ v.natAbs = y.natAbs := by
  have e' : u.natAbs * y.natAbs = v.natAbs * x.natAbs := by rw [← Int.natAbs_mul, ← Int.natAbs_mul, e]
  have c1 : Nat.Coprime u.natAbs v.natAbs := g1
  have c2 : Nat.Coprime x.natAbs y.natAbs := g2
  constructor
  · apply Nat.dvd_antisymm
    · exact c1.dvd_of_dvd_mul_left ⟨y.natAbs, e'.symm⟩
    · exact c2.dvd_of_dvd_mul_right ⟨v.natAbs, by rw [e', Nat.mul_comm]⟩
  · apply Nat.dvd_antisymm
    · exact c1.symm.dvd_of_dvd_mul_left ⟨x.natAbs, e'⟩
    · exact c2.symm.dvd_of_dvd_mul_right ⟨u.natAbs, by rw [← e', Nat.mul_comm]⟩
theorem up_same {u v x y : Int} (h1 : up u v) (h2 : up x y) (g1 : Nat.gcd u.natAbs v.natAbs = 1) (g2 : Nat.gcd x.natAbs y.natAbs = 1) (e : u * y = v * x) : u = x ∧ v = y := by
  obtain ⟨e1, e2⟩ := abs_eq g1 g2 e
  have ev : v = y := by unfold up at h1 h2; omega
  subst ev
  refine ⟨?_, rfl⟩
  by_cases hv : v = 0
  · unfold up at h1 h2; omega
  · rw [Int.mul_comm u v] at e
    exact Int.eq_of_mul_eq_mul_left hv e
theorem nz_of {u v : Int} (g : Nat.gcd u.natAbs v.natAbs = 1) : u ≠ 0 ∨ v ≠ 0 := by
  by_cases h : u = 0
  · right
    intro hv
    rw [h, hv] at g
    simp at g
  · exact .inl h
/-- of two directions that are not the same one stands ahead of the other one -/
theorem ahd_total {u v x y : Int} (g1 : Nat.gcd u.natAbs v.natAbs = 1) (g2 : Nat.gcd x.natAbs y.natAbs = 1) (a : ahd u v x y = false) (b : ahd x y u v = false) : u = x ∧ v = y := by
  unfold ahd at a b
  rcases up_or (nz_of g1) with ⟨p1, s1⟩ | ⟨p1, s1⟩ <;> rcases up_or (nz_of g2) with ⟨p2, s2⟩ | ⟨p2, s2⟩ <;> rw [s1, s2] at a <;> rw [s2, s1] at b
  · have a' : ¬ 0 < u * y - v * x := by simpa using a
    have b' : ¬ 0 < x * v - y * u := by simpa using b
    rw [Int.mul_comm x v, Int.mul_comm y u] at b'
    exact up_same p1 p2 g1 g2 (by omega)
  · simp at a
  · simp at b
  · have a' : ¬ 0 < u * y - v * x := by simpa using a
    have b' : ¬ 0 < x * v - y * u := by simpa using b
    rw [Int.mul_comm x v, Int.mul_comm y u] at b'
    have e : (-u) * (-y) = (-v) * (-x) := by rw [Int.neg_mul_neg, Int.neg_mul_neg]; omega
    have r := up_same p1 p2 (by rw [Int.natAbs_neg, Int.natAbs_neg]; exact g1) (by rw [Int.natAbs_neg, Int.natAbs_neg]; exact g2) e
    omega
end Rm

/-! A row in a strict order: the place of one more. Plain mathematics. -/
namespace Sm
section
variable {α : Type} {lt : α → α → Bool} {D : α → Prop} (irr : ∀ a, lt a a = false) (tr : ∀ a b c, D a → D b → D c → lt a b = true → lt b c = true → lt a c = true) (tot : ∀ a b, D a → D b → lt a b = false → lt b a = false → a = b)
def Srt (lt : α → α → Bool) (xs : List α) : Prop := xs.Pairwise fun a b => lt a b = true
/-- n is the place of d in xs -/
def Plc (lt : α → α → Bool) (xs : List α) (d : α) (n : Nat) : Prop := n ≤ xs.length ∧ (∀ m x, n = m + 1 → xs[m]? = some x → lt x d = true) ∧ ∀ x, xs[n]? = some x → lt x d = false
include tr in
theorem before {xs : List α} {d : α} {n : Nat} (hs : Srt lt xs) (hD : ∀ x ∈ xs, D x) (hd : D d) (h : Plc lt xs d n) {i : Nat} {x : α} (hi : i < n) (hx : xs[i]? = some x) : lt x d = true := by
  obtain ⟨h1, h2, _⟩ := h
  have hl : n - 1 < xs.length := by omega
  have e := h2 (n - 1) xs[n - 1] (by omega) (List.getElem?_eq_getElem hl)
  obtain ⟨hi', ex⟩ := List.getElem?_eq_some_iff.mp hx
  by_cases q : i = n - 1
  · subst q; rw [← ex]; exact e
  · have p := (List.pairwise_iff_getElem.mp hs) i (n - 1) hi' hl (by omega)
    rw [ex] at p
    exact tr _ _ _ (hD _ (ex ▸ List.getElem_mem hi')) (hD _ (List.getElem_mem hl)) hd p e
include tr in
theorem behind {xs : List α} {d : α} {n : Nat} (hs : Srt lt xs) (hD : ∀ x ∈ xs, D x) (hd : D d) (h : Plc lt xs d n) {i : Nat} {x : α} (hi : n ≤ i) (hx : xs[i]? = some x) : lt x d = false := by
  obtain ⟨h1, _, h3⟩ := h
  obtain ⟨hi', ex⟩ := List.getElem?_eq_some_iff.mp hx
  have hl : n < xs.length := by omega
  have e := h3 xs[n] (List.getElem?_eq_getElem hl)
  by_cases q : i = n
  · subst q; rw [← ex]; exact e
  · cases g : lt x d with
    | false => rfl
    | true =>
      have p := (List.pairwise_iff_getElem.mp hs) n i hl hi' (by omega)
      rw [ex] at p
      have := tr _ _ _ (hD _ (List.getElem_mem hl)) (hD _ (ex ▸ List.getElem_mem hi')) hd p g
      rw [e] at this
      exact this.symm
include tr in
/-- the count of those ahead is the place -/
theorem count_plc {xs : List α} {d : α} {n : Nat} (hs : Srt lt xs) (hD : ∀ x ∈ xs, D x) (hd : D d) (h : Plc lt xs d n) : (xs.filter (lt · d)).length = n := by
  have e : xs = xs.take n ++ xs.drop n := (List.take_append_drop n xs).symm
  have f1 : (xs.take n).filter (lt · d) = xs.take n := List.filter_eq_self.mpr fun x hx => by
    obtain ⟨i, hi, ex⟩ := List.mem_iff_getElem.mp hx
    rw [List.length_take] at hi
    rw [List.getElem_take] at ex
    exact before (D := D) tr hs hD hd h (i := i) (by omega) (by rw [List.getElem?_eq_getElem (by omega), ex])
  have f2 : (xs.drop n).filter (lt · d) = [] := List.filter_eq_nil_iff.mpr fun x hx => by
    obtain ⟨i, hi, ex⟩ := List.mem_iff_getElem.mp hx
    rw [List.length_drop] at hi
    rw [List.getElem_drop] at ex
    rw [behind (D := D) tr hs hD hd h (i := n + i) (by omega) (by rw [List.getElem?_eq_getElem (by omega), ex])]
    exact Bool.false_ne_true
  have g : (xs.filter (lt · d)) = xs.take n := by
    have := congrArg (List.filter (lt · d)) e
    rw [this, List.filter_append, f1, f2, List.append_nil]
  rw [g, List.length_take]
  have := h.1
  omega
include irr tr in
/-- it is there exactly if it stands at its place -/
theorem mem_plc {xs : List α} {d : α} {n : Nat} (hs : Srt lt xs) (hD : ∀ x ∈ xs, D x) (hd : D d) (h : Plc lt xs d n) : d ∈ xs ↔ xs[n]? = some d := by
  constructor
  · intro m
    obtain ⟨i, hi, ex⟩ := List.mem_iff_getElem.mp m
    have hx : xs[i]? = some d := by rw [List.getElem?_eq_getElem hi, ex]
    have ni : ¬ i < n := fun q => by
      have := before (D := D) tr hs hD hd h q hx
      rw [irr] at this; cases this
    by_cases q : i = n
    · rw [← q]; exact hx
    · exfalso
      have hl : n < xs.length := by omega
      have p := (List.pairwise_iff_getElem.mp hs) n i hl hi (by omega)
      rw [ex] at p
      have e := h.2.2 xs[n] (List.getElem?_eq_getElem hl)
      rw [p] at e; cases e
  · intro e
    exact List.mem_of_getElem? e
include tr tot in
/-- one more at its place, if it is not there: the row stays in order -/
theorem ins_srt {xs : List α} {d : α} {n : Nat} (hs : Srt lt xs) (hD : ∀ x ∈ xs, D x) (hd : D d) (h : Plc lt xs d n) (hn : d ∉ xs) : Srt lt (xs.take n ++ [d] ++ xs.drop n) := by
  unfold Srt at *
  rw [List.append_assoc, List.pairwise_append]
  refine ⟨hs.sublist (List.take_sublist n xs), ?_, fun a ha b hb => ?_⟩
  · rw [List.singleton_append, List.pairwise_cons]
    refine ⟨fun b hb => ?_, hs.sublist (List.drop_sublist n xs)⟩
    obtain ⟨i, hi, ex⟩ := List.mem_iff_getElem.mp hb
    rw [List.length_drop] at hi
    rw [List.getElem_drop] at ex
    have hx : xs[n + i]? = some b := by rw [List.getElem?_eq_getElem (by omega), ex]
    have q := behind (D := D) tr hs hD hd h (i := n + i) (by omega) hx
    have mb : b ∈ xs := List.mem_of_mem_drop hb
    cases g : lt d b with
    | true => rfl
    | false =>
      have e := tot d b hd (hD b mb) g q
      exact absurd (e ▸ mb) hn
  · obtain ⟨i, hi, ex⟩ := List.mem_iff_getElem.mp ha
    rw [List.length_take] at hi
    rw [List.getElem_take] at ex
    have hx : xs[i]? = some a := by rw [List.getElem?_eq_getElem (by omega), ex]
    have qa := before (D := D) tr hs hD hd h (i := i) (by omega) hx
    rw [List.singleton_append] at hb
    rcases List.mem_cons.mp hb with e | hb
    · rw [e]; exact qa
    · obtain ⟨j, hj, ey⟩ := List.mem_iff_getElem.mp hb
      rw [List.length_drop] at hj
      rw [List.getElem_drop] at ey
      have p := (List.pairwise_iff_getElem.mp hs) i (n + j) (by omega) (by omega) (by omega)
      rw [ex, ey] at p
      exact p
end
end Sm
namespace K02
open PySem PySem.Spec PyProof.Rows L2 Dl
/-! #### Qa -/
def topS (i : Nat) : Stmt := PySem.Challenge.pw_stucklots_k02_rounds_told.main.body.getD i (.Pass ⟨0, 0, 0, 0⟩)
theorem pe_gi {X : Cx} {x : Str} {pos : Pos} {i : Int} (hg : Gl X x) (h : ∃ t, X.mg x = some (.int i t)) (hdb : (x == ("__debug__" : Str)) = false := by decide) : PE X (.Name x pos) (tC (.int i)) := by
  obtain ⟨t, e⟩ := h
  exact pe_glob hg e ⟨t, rfl⟩ hdb
theorem pe_gs {X : Cx} {x : Str} {pos : Pos} {z : Str} (hg : Gl X x) (h : ∃ t, X.mg x = some (.str z t)) (hdb : (x == ("__debug__" : Str)) = false := by decide) : PE X (.Name x pos) (tC (.str z)) := by
  obtain ⟨t, e⟩ := h
  exact pe_glob hg e ⟨t, rfl⟩ hdb

structure Gn (mg : Str → Option Value) : Prop where
  g_isinstance : mg "isinstance" = none
  g_int : mg "int" = none
  g_bool : mg "bool" = none
  g_str : mg "str" = none
  g_tuple : mg "tuple" = none
  g_list : mg "list" = none
  g_dict : mg "dict" = none
  g_len : mg "len" = none
  g_abs : mg "abs" = none
  g_all : mg "all" = none
  g_range : mg "range" = none
  g_gcd : mg "gcd" = some (.builtin "math.gcd")
  g_DIRECTION_BOUND : ∃ t, mg "DIRECTION_BOUND" = some (.int 999 t)
mutual
def sm : D → Bool
  | .str z => decide (z.length ≤ 1000)
  | .tup xs => decide (xs.length ≤ 1000) && sms xs
  | .lst xs => decide (xs.length ≤ 1000) && sms xs
  | .cls _ => false
  | .box => false
  | .exn _ _ _ => false
  | _ => true
def sms : List D → Bool
  | [] => true
  | x :: xs => sm x && sms xs
end
theorem sm_cls {d : D} (h : sm d = true) : d.isCls = false := by
  cases d <;> first | rfl | (exact Bool.noConfusion h)
theorem sms_mem : ∀ {xs : List D} {x : D}, sms xs = true → x ∈ xs → sm x = true
  | y :: ys, x, h, m => by
    have h' : (sm y && sms ys) = true := h
    rw [Bool.and_eq_true] at h'
    rcases List.mem_cons.mp m with e | m
    · rw [e]; exact h'.1
    · exact sms_mem h'.2 m
theorem sm_tup {xs : List D} (h : sm (.tup xs) = true) : xs.length ≤ 1000 ∧ sms xs = true := by
  have h' : (decide (xs.length ≤ 1000) && sms xs) = true := h
  rw [Bool.and_eq_true, decide_eq_true_eq] at h'
  exact h'
def isNum : D → Bool
  | .int _ => true
  | _ => false
abbrev SmP : List D → Prop := p1 fun d => sm d = true
abbrev bl1 (f : D → Bool) : List D → D := f1 fun d => .bl (f d)
abbrev ClB (P : Program) (w : World) (K : PySem.W.Frag) (mg : Str → Option Value) (base : Heap) (k : Nat) (x : Str) (st : Stmt) (v : Str) (f : D → Bool) := Cl P w K mg base k x st [v] (SpD K SmP fun ds r => r = bl1 f ds)
local macro_rules | `(tactic| walk_at "dl") => `(tactic| first
  | (with_reducible refine ws_seq ?_) | (with_reducible refine ws_if ?_) | (with_reducible refine ws_ret ?_) | ((with_reducible refine ws_set ?_); (try dsimp only [List.set])) | ((with_reducible refine ws_par ?_)) | (with_reducible refine ws_drop ?_) | (with_reducible refine ws_next ?_)
  | ((with_reducible refine' we_var ?hv ?_); (case hv => exact rfl)) | (with_reducible refine we_int ?_) | (with_reducible refine we_str ?_) | (with_reducible refine we_bl ?_) | (with_reducible refine we_non ?_) | (with_reducible refine we_cls ?_)
  | (with_reducible refine we_op ?_) | (with_reducible refine we_un ?_) | (with_reducible refine we_andV ?_) | (with_reducible refine we_orV ?_) | (with_reducible refine we_notV ?_) | (with_reducible refine we_if ?_) | (with_reducible refine we_chain ?_)
  | (with_reducible refine we_tup ?_) | (with_reducible refine we_lst ?_) | (with_reducible refine we_cb ?_) | (with_reducible refine we_callF ?_) | (with_reducible refine we_call ?_) | (with_reducible refine we_sl ?_)
  | (with_reducible refine wt_test ?_) | (with_reducible refine wt_B ?_) | (with_reducible refine wt_and ?_) | (with_reducible refine wt_or ?_) | (with_reducible refine wt_not ?_) | (with_reducible refine wt_yes ?_)
  | (with_reducible refine wa_nil ?_) | (with_reducible refine wa_cons ?_) | (with_reducible refine wo_none ?_) | (with_reducible refine wo_some ?_)
  | (with_reducible refine ro_int0 ?_) | (with_reducible refine ro_bl0 ?_) | (with_reducible refine r1_int ?_) | (with_reducible refine ro_eqI ?_) | (with_reducible refine ro_neI ?_) | (with_reducible refine ro_eqB ?_) | (with_reducible refine ro_neB ?_) | (with_reducible refine ro_eqS ?_) | (with_reducible refine ro_neS ?_)
  | (with_reducible refine ro_inC ?_) | (with_reducible refine rc_abs ?_) | (with_reducible refine rc_int1 ?_) | (with_reducible refine rc_gcd ?_)
  | ((with_reducible refine' rc_int ?hc ?_); (case hc => first | exact rfl | assumption | exact sm_cls (by assumption))) | ((with_reducible refine' rc_bool ?hc ?_); (case hc => first | exact rfl | assumption | exact sm_cls (by assumption))) | ((with_reducible refine' rc_str ?hc ?_); (case hc => first | exact rfl | assumption | exact sm_cls (by assumption))) | ((with_reducible refine' rc_tuple ?hc ?_); (case hc => first | exact rfl | assumption | exact sm_cls (by assumption))) | ((with_reducible refine' rc_list ?hc ?_); (case hc => first | exact rfl | assumption | exact sm_cls (by assumption))) | ((with_reducible refine' rc_dict ?hc ?_); (case hc => first | exact rfl | assumption | exact sm_cls (by assumption))) | ((with_reducible refine' rc_lt ?hc ?_); (case hc => first | exact rfl | assumption | exact sm_cls (by assumption)))
  | ((with_reducible refine' rc_len ?he ?hl ?_); (case he => exact rfl); (case hl => first | omega | (simp; omega)))
  | (with_reducible refine rc_allf ?_)
  | (with_reducible refine' And.intro (show List.length _ ≤ 1000 from by exact Nat.le_of_ble_eq_true rfl) ?_)
  | (refine iteT ?_) | (refine iteF ?_) | (with_reducible refine' Exists.intro _ (And.intro rfl ?_)) | (with_reducible refine' Exists.intro _ (Exists.intro _ (And.intro rfl ?_))))
section
variable {P : Program} {w : World} {K : PySem.W.Frag} {mg : Str → Option Value} {base : Heap}
/-! ### is_any_number -/
abbrev s_is_any_number : Stmt := topS 7
abbrev N_is_any_number : List Str := ["value"]
theorem sc_is_any_number : FnScope N_is_any_number ["value"] (defScope s_is_any_number) := ⟨rfl, rfl, rfl, by decide +kernel, rfl, by decide +kernel, by decide +kernel⟩
theorem ok_is_any_number {k : Nat} (G : Gn mg) (F : Df K mg "is_any_number" s_is_any_number) : Cl P w K mg base (k + 1) "is_any_number" s_is_any_number ["value"] (SpD K SmP fun ds r => r = bl1 isNum ds) := by
  refine cl_of F sc_is_any_number (fun _ _ _ _ _ _ us hl => match us, hl with | [_], _ => rfl) p1_len fun f cdv A outer s H E hr => ⟨_, (pss_one (ps_ret (pe_and (pe_callB (show CallR _ (.builtin "isinstance") (rIsi K) from call_isi) (by rfl) G.g_isinstance (by decide +kernel) (pa_cons (pv 0) (pa_cons (pe_bltn (v := .ty "int") (u := .type "int") (by rfl) G.g_int (by decide +kernel) rfl) pa_nil))) (pe_one (pe_not (pe_callB (show CallR _ (.builtin "isinstance") (rIsi K) from call_isi) (by rfl) G.g_isinstance (by decide +kernel) (pa_cons (pv 0) (pa_cons (pe_bltn (v := .ty "bool") (u := .type "bool") (by rfl) G.g_bool (by decide +kernel) rfl) pa_nil)))))))), fun B ds hp => ?_⟩
  obtain ⟨d, rfl, hd⟩ := p1_ex hp
  show WS K B _ [.val d] _
  try dsimp only [cxOf, Cx.nox, Cx.blk]
  have hc := sm_cls hd
  cases d <;> first | (exact Bool.noConfusion hc) | (repeat walk_at "dl")
  all_goals rfl
/-! ### is_number_pair -/
abbrev s_is_number_pair : Stmt := topS 8
abbrev N_is_number_pair : List Str := ["value", "item"]
theorem sc_is_number_pair : FnScope N_is_number_pair ["value"] (defScope s_is_number_pair) := ⟨rfl, rfl, rfl, by decide +kernel, rfl, by decide +kernel, by decide +kernel⟩
def isNumPair : D → Bool
  | .tup xs => decide ((xs.length : Int) = 2) && xs.all isNum
  | _ => false
theorem ok_is_number_pair {k : Nat} (G : Gn mg) (F : Df K mg "is_number_pair" s_is_number_pair) (C_is_any_number : ClB P w K mg base k "is_any_number" s_is_any_number "value" isNum) : ClB P w K mg base (k + 1) "is_number_pair" s_is_number_pair "value" isNumPair := by
  refine cl_of F sc_is_number_pair (fun _ _ _ _ _ _ us hl => match us, hl with | [_], _ => rfl) p1_len fun f cdv A outer s H E hr => ⟨_, (pss_one (ps_ret (pe_and (pe_callB (show CallR _ (.builtin "isinstance") (rIsi K) from call_isi) (by rfl) G.g_isinstance (by decide +kernel) (pa_cons (pv 0) (pa_cons (pe_bltn (v := .ty "tuple") (u := .type "tuple") (by rfl) G.g_tuple (by decide +kernel) rfl) pa_nil))) (pe_and (pe_cmpR op_eq (pe_callB (show CallR _ (.builtin "len") (fun xs H Q => ∃ x n, xs = [x] ∧ LenV K x H n ∧ Q (.int n) H) from call_len) (by rfl) G.g_len (by decide +kernel) (pa_cons (pv 0) pa_nil)) pe_int (nomark _)) (pe_one (pe_callB (cr_all rfl) (by rfl) G.g_all (by decide +kernel) (pa_cons (pe_lc (own := [("item", 1)]) (g := gName 1) (tt := tYes) rfl sc_is_number_pair.nd (pi_tup (pv 0)) (blkOk_by (N := N_is_number_pair) (sc := defScope s_is_number_pair) (by decide +kernel)) (fun _ _ _ _ _ => pg_name (i := 1) sc_is_number_pair.nd rfl (Or.inl rfl)) (fun _ _ _ _ _ => pts_nil) (fun _ _ _ _ _ => (pe_c C_is_any_number hr (by omega) (by rfl) (pa_cons (pv 1) pa_nil)))) pa_nil))))))), fun B ds hp => ?_⟩
  obtain ⟨d, rfl, hd⟩ := p1_ex hp
  show WS K B _ [.val d, .no] _
  try dsimp only [cxOf, Cx.nox, Cx.blk]
  have hc := sm_cls hd
  cases d with
  | tup xs =>
    obtain ⟨hl, hs⟩ := sm_tup hd
    repeat walk_at "dl"
    refine ite2 (fun h => ?_) (fun h => ?_)
    · repeat walk_at "dl"
      refine we_lcmap (fun d => .bl (isNum d)) (wi_tup ?_)
      repeat walk_at "dl"
      refine ⟨by omega, fun d m => ?_, ?_⟩
      · repeat walk_at "dl"
        exact ⟨sms_mem hs m, rfl⟩
      · repeat walk_at "dl"
        show D.bl _ = D.bl (_ && _)
        rw [h, Bool.true_and]
    · show D.bl _ = D.bl (_ && _)
      rw [Bool.eq_false_iff.mpr h, Bool.false_and]
  | cls n => exact Bool.noConfusion hc
  | exn _ _ _ => exact Bool.noConfusion hc
  | _ => (repeat walk_at "dl"); rfl
/-! ### helpers of Pb -/
theorem and_t {a b : Bool} (h : a = true) : D.bl b = D.bl (a && b) := by rw [h, Bool.true_and]
theorem and_f {a b : Bool} (h : ¬ a = true) : D.bl false = D.bl (a && b) := by rw [Bool.eq_false_iff.mpr h, Bool.false_and]
/-! ### is_bounded_pair -/
abbrev s_is_bounded_pair : Stmt := topS 9
abbrev N_is_bounded_pair : List Str := ["value", "bound", "item"]
theorem sc_is_bounded_pair : FnScope N_is_bounded_pair ["value", "bound"] (defScope s_is_bounded_pair) := ⟨rfl, rfl, rfl, by decide +kernel, rfl, by decide +kernel, by decide +kernel⟩
def inB (b : Int) : D → Bool
  | .int i => decide (-b ≤ i) && decide (i ≤ b)
  | _ => false
def isBnd (b : Int) : D → Bool
  | .tup xs => isNumPair (.tup xs) && xs.all (inB b)
  | _ => false
def bnd : D → D → D
  | d, .int b => .bl (isBnd b d)
  | _, _ => .non
theorem num_ex {d : D} (z : isNum d = true) : ∃ i, d = .int i := by
  cases d <;> first | exact ⟨_, rfl⟩ | exact Bool.noConfusion z
theorem num_mem {xs : List D} (h : isNumPair (.tup xs) = true) {d : D} (m : d ∈ xs) : ∃ i, d = .int i := by
  have h' : (decide ((xs.length : Int) = 2) && xs.all isNum) = true := h
  rw [Bool.and_eq_true] at h'
  have z := List.all_eq_true.mp h'.2 d m
  cases d <;> first | exact ⟨_, rfl⟩ | exact Bool.noConfusion z
theorem ok_is_bounded_pair {k : Nat} (G : Gn mg) (F : Df K mg "is_bounded_pair" s_is_bounded_pair) (C_is_number_pair : ClB P w K mg base k "is_number_pair" s_is_number_pair "value" isNumPair) :
    Cl P w K mg base (k + 1) "is_bounded_pair" s_is_bounded_pair ["value", "bound"] (SpD K (p2 fun d b => sm d = true ∧ ∃ i, b = .int i) fun ds r => r = f2 bnd ds) := by
  refine cl_of F sc_is_bounded_pair (fun _ _ _ _ _ _ us hl => match us, hl with | [_, _], _ => rfl) p2_len fun f cdv A outer s H E hr => ⟨_, (pss_one (ps_ret (pe_and (pe_c C_is_number_pair hr (by omega) (by rfl) (pa_cons (pv 0) pa_nil)) (pe_one (pe_callB (cr_all rfl) (by rfl) G.g_all (by decide +kernel) (pa_cons (pe_lc (own := [("item", 2)]) (g := gName 2) (tt := tYes) rfl sc_is_bounded_pair.nd (pi_tup (pv 0)) (blkOk_by (N := N_is_bounded_pair) (sc := defScope s_is_bounded_pair) (by decide +kernel)) (fun _ _ _ _ _ => pg_name (i := 2) sc_is_bounded_pair.nd rfl (Or.inl rfl)) (fun _ _ _ _ _ => pts_nil) (fun _ _ _ _ _ => (pe_chain op_le op_le (pe_un un_neg (pv 1)) (pv 2) (pv 1)))) pa_nil)))))), fun B ds hp => ?_⟩
  obtain ⟨d, _, rfl, hd, ⟨b, rfl⟩⟩ := p2_ex hp
  show WS K B _ [.val d, .val (.int b), .no] _
  try dsimp only [cxOf, Cx.nox, Cx.blk]
  have hc := sm_cls hd
  cases d with
  | tup xs =>
    obtain ⟨hl, hs⟩ := sm_tup hd
    repeat walk_at "dl"
    refine ⟨hd, ?_⟩
    repeat walk_at "dl"
    refine ite2 (fun h => ?_) (fun h => ?_)
    · repeat walk_at "dl"
      refine we_lcmap (fun d => .bl (inB b d)) (wi_tup ?_)
      repeat walk_at "dl"
      refine ⟨by omega, fun d m => ?_, ?_⟩
      · obtain ⟨i, rfl⟩ := num_mem h m
        repeat walk_at "dl"
        refine ite2 (fun h => ?_) (fun h => ?_)
        · repeat walk_at "dl"
          exact and_t h
        · exact and_f h
      · repeat walk_at "dl"
        exact and_t h
    · exact and_f h
  | cls n => exact Bool.noConfusion hc
  | exn _ _ _ => exact Bool.noConfusion hc
  | _ => (repeat walk_at "dl"); (refine ⟨hd, ?_⟩); (repeat walk_at "dl"); rfl
abbrev ClN (P : Program) (w : World) (K : PySem.W.Frag) (mg : Str → Option Value) (base : Heap) (k : Nat) := Cl P w K mg base k "is_bounded_pair" s_is_bounded_pair ["value", "bound"] (SpD K (p2 fun d b => sm d = true ∧ ∃ i, b = .int i) fun ds r => r = f2 bnd ds)
theorem all_in {b : Int} : ∀ xs : List D, (xs.all isNum && xs.all (inB b)) = xs.all (inB b)
  | [] => rfl
  | x :: xs => by
    have ih := all_in (b := b) xs
    rw [List.all_cons, List.all_cons]
    cases hx : inB b x with
    | false => rw [Bool.false_and, Bool.and_false]
    | true =>
      have hn : isNum x = true := by
        cases x <;> first | rfl | exact Bool.noConfusion hx
      rw [hn, Bool.true_and, Bool.true_and]
      exact ih
theorem bnd_eq {b : Int} (xs : List D) : isBnd b (.tup xs) = (decide ((xs.length : Int) = 2) && xs.all (inB b)) := by
  show ((decide ((xs.length : Int) = 2) && xs.all isNum) && xs.all (inB b)) = _
  rw [Bool.and_assoc, all_in]
/-! ### is_direction -/
abbrev s_is_direction : Stmt := topS 10
abbrev N_is_direction : List Str := ["value"]
theorem sc_is_direction : FnScope N_is_direction ["value"] (defScope s_is_direction) := ⟨rfl, rfl, rfl, by decide +kernel, rfl, by decide +kernel, by decide +kernel⟩
def gcdD : D → Nat
  | .tup [.int a, .int b] => Nat.gcd a.natAbs b.natAbs
  | _ => 0
def isDir (d : D) : Bool := isBnd 999 d && decide (((gcdD d : Nat) : Int) = 1)
theorem bnd_pair {b : Int} {d : D} (h : isBnd b d = true) : ∃ x y : Int, d = .tup [.int x, .int y] ∧ -b ≤ x ∧ x ≤ b ∧ -b ≤ y ∧ y ≤ b := by
  cases d with
  | tup xs =>
    have h' : ((decide ((xs.length : Int) = 2) && xs.all isNum) && xs.all (inB b)) = true := h
    rw [Bool.and_eq_true, Bool.and_eq_true, decide_eq_true_eq] at h'
    obtain ⟨⟨hl, hn⟩, hb⟩ := h'
    match xs, hl, hn, hb with
    | [x, y], _, hn, hb =>
      have n1 := List.all_eq_true.mp hn x (by simp)
      have n2 := List.all_eq_true.mp hn y (by simp)
      have b1 := List.all_eq_true.mp hb x (by simp)
      have b2 := List.all_eq_true.mp hb y (by simp)
      obtain ⟨i, rfl⟩ := num_ex n1
      obtain ⟨j, rfl⟩ := num_ex n2
      have b1' : (decide (-b ≤ i) && decide (i ≤ b)) = true := b1
      have b2' : (decide (-b ≤ j) && decide (j ≤ b)) = true := b2
      rw [Bool.and_eq_true, decide_eq_true_eq, decide_eq_true_eq] at b1' b2'
      exact ⟨i, j, rfl, b1'.1, b1'.2, b2'.1, b2'.2⟩
    | [], hl, _, _ => simp at hl
    | [_], hl, _, _ => simp at hl
    | _ :: _ :: _ :: r, hl, _, _ => simp at hl; omega
  | _ => exact Bool.noConfusion h
theorem ok_is_direction {k : Nat} (G : Gn mg) (F : Df K mg "is_direction" s_is_direction) (C_is_bounded_pair : ClN P w K mg base k) : ClB P w K mg base (k + 1) "is_direction" s_is_direction "value" isDir := by
  refine cl_of F sc_is_direction (fun _ _ _ _ _ _ us hl => match us, hl with | [_], _ => rfl) p1_len fun f cdv A outer s H E hr => ⟨_, (pss_one (ps_ret (pe_and (pe_c C_is_bounded_pair hr (by omega) (by rfl) (pa_cons (pv 0) (pa_cons (pe_gi rfl G.g_DIRECTION_BOUND) pa_nil))) (pe_one (pe_cmpR op_eq (pe_callBfun cr_gcd (by rfl) G.g_gcd (pa_cons (pe_ix (show IxR _ (rIxT K) from ix_tup) (pv 0) pe_int (fun _ _ => rfl)) (pa_cons (pe_ix (show IxR _ (rIxT K) from ix_tup) (pv 0) pe_int (fun _ _ => rfl)) pa_nil))) pe_int (nomark _)))))), fun B ds hp => ?_⟩
  obtain ⟨d, rfl, hd⟩ := p1_ex hp
  show WS K B _ [.val d] _
  try dsimp only [cxOf, Cx.nox, Cx.blk]
  repeat walk_at "dl"
  refine ⟨⟨hd, _, rfl⟩, ?_⟩
  repeat walk_at "dl"
  refine ite2 (fun h => ?_) (fun h => ?_)
  · obtain ⟨x, y, rfl, _⟩ := bnd_pair h
    repeat walk_at "dl"
    refine ro_ixT (d := .int x) rfl ?_
    repeat walk_at "dl"
    refine ro_ixT (d := .int y) rfl ?_
    repeat walk_at "dl"
    exact and_t h
  · exact and_f h
/-! ### helpers of Pc -/
def inT (t : Str) : D → Bool
  | .str z => match z.cps.toList with
    | [c] => decide (c ∈ t.cps.toList)
    | _ => false
  | _ => false
theorem sm_str {z : Str} (h : sm (.str z) = true) : z.length ≤ 1000 := of_decide_eq_true h
theorem sign_ex {z : Str} {d : D} (m : d ∈ Dl.signs z) : ∃ c, d = .str ⟨#[c]⟩ ∧ c ∈ z.cps.toList := by
  unfold Dl.signs at m
  obtain ⟨c, hc, e⟩ := List.mem_map.mp m
  exact ⟨c, e.symm, hc⟩
theorem signs_len (z : Str) : (Dl.signs z).length = z.length := by
  unfold Dl.signs
  rw [List.length_map, Array.length_toList]
  rfl
/-! ### _law_is_whole -/
abbrev s__law_is_whole : Stmt := topS 31
abbrev N__law_is_whole : List Str := ["_law_x"]
theorem sc__law_is_whole : FnScope N__law_is_whole ["_law_x"] (defScope s__law_is_whole) := ⟨rfl, rfl, rfl, by decide +kernel, rfl, by decide +kernel, by decide +kernel⟩
theorem ok__law_is_whole {k : Nat} (G : Gn mg) (F : Df K mg "_law_is_whole" s__law_is_whole) : ClB P w K mg base (k + 1) "_law_is_whole" s__law_is_whole "_law_x" isNum := by
  refine cl_of F sc__law_is_whole (fun _ _ _ _ _ _ us hl => match us, hl with | [_], _ => rfl) p1_len fun f cdv A outer s H E hr => ⟨_, (pss_one (ps_ret (pe_and (pe_callB (show CallR _ (.builtin "isinstance") (rIsi K) from call_isi) (by rfl) G.g_isinstance (by decide +kernel) (pa_cons (pv 0) (pa_cons (pe_bltn (v := .ty "int") (u := .type "int") (by rfl) G.g_int (by decide +kernel) rfl) pa_nil))) (pe_one (pe_not (pe_callB (show CallR _ (.builtin "isinstance") (rIsi K) from call_isi) (by rfl) G.g_isinstance (by decide +kernel) (pa_cons (pv 0) (pa_cons (pe_bltn (v := .ty "bool") (u := .type "bool") (by rfl) G.g_bool (by decide +kernel) rfl) pa_nil)))))))), fun B ds hp => ?_⟩
  obtain ⟨d, rfl, hd⟩ := p1_ex hp
  show WS K B _ [.val d] _
  try dsimp only [cxOf, Cx.nox, Cx.blk]
  have hc := sm_cls hd
  cases d <;> first | (exact Bool.noConfusion hc) | (repeat walk_at "dl")
  all_goals rfl
/-! ### helpers of Pd -/
theorem abs_nat (i : Int) : (if i < 0 then -i else i) = (i.natAbs : Int) := by
  split <;> omega
/-! ### _law_gcd -/
abbrev s__law_gcd : Stmt := topS 28
abbrev N__law_gcd : List Str := ["_law_one_z", "_law_two_z", "_law_low", "_law_high"]
theorem sc__law_gcd : FnScope N__law_gcd ["_law_one_z", "_law_two_z"] (defScope s__law_gcd) := ⟨rfl, rfl, rfl, by decide +kernel, rfl, by decide +kernel, by decide +kernel⟩
def gcdF : D → D → D
  | .int i, .int j => .int ((Nat.gcd i.natAbs j.natAbs : Nat) : Int)
  | _, _ => .non
abbrev ClG (P : Program) (w : World) (K : PySem.W.Frag) (mg : Str → Option Value) (base : Heap) (k : Nat) := Cl P w K mg base k "_law_gcd" s__law_gcd ["_law_one_z", "_law_two_z"] (SpD K (p2 fun a b => (∃ i, a = .int i) ∧ ∃ j, b = .int j) fun ds r => r = f2 gcdF ds)
theorem ok__law_gcd {k : Nat} (G : Gn mg) (F : Df K mg "_law_gcd" s__law_gcd) : ClG P w K mg base (k + 1) := by
  refine cl_of F sc__law_gcd (fun _ _ _ _ _ _ us hl => match us, hl with | [_, _], _ => rfl) p2_len fun f cdv A outer s H E hr => ⟨_, (pss_cons (ps_par (i := 2) (j := 3) (by rfl) sc__law_gcd.nd rfl rfl (by decide) rfl rfl (pa_cons (pe_callB call_abs (by rfl) G.g_abs (by decide +kernel) (pa_cons (pv 0) pa_nil)) (pa_cons (pe_callB call_abs (by rfl) G.g_abs (by decide +kernel) (pa_cons (pv 1) pa_nil)) pa_nil)) (by rfl))
      (pss_cons (ps_while PassesOwn.never (pt_cmpR op_ne (pv 2) pe_int (nomark _)) (pss_one (ps_par (i := 2) (j := 3) (by rfl) sc__law_gcd.nd rfl rfl (by decide) rfl rfl (pa_cons (pe_op op_modN (pe_callTy call_int1 (by rfl) G.g_int (by decide +kernel) (pa_cons (pv 3) pa_nil)) (pe_callTy call_int1 (by rfl) G.g_int (by decide +kernel) (pa_cons (pv 2) pa_nil))) (pa_cons (pv 2) pa_nil)) (by rfl))))
      (pss_one (ps_ret (pv 3))))), fun B ds hp => ?_⟩
  obtain ⟨_, _, rfl, ⟨i, rfl⟩, ⟨j, rfl⟩⟩ := p2_ex hp
  show WS K B _ [.val (.int i), .val (.int j), .no, .no] _
  try dsimp only [cxOf, Cx.nox, Cx.blk]
  repeat walk_at "dl"
  rw [abs_nat i, abs_nat j]
  refine ws_while (fun m δ1 => ∃ l h : Nat, δ1 = [.val (.int i), .val (.int j), .val (.int l), .val (.int h)] ∧ Nat.gcd l h = Nat.gcd i.natAbs j.natAbs ∧ m = l) ⟨_, _, _, rfl, rfl, rfl⟩ ?_
  rintro m δ1 ⟨l, h, rfl, hg, rfl⟩
  repeat walk_at "dl"
  refine ite2 (fun h0 => ?_) (fun h0 => ?_)
  · have h1 : ¬ (m : Int) = 0 := by simpa using h0
    repeat walk_at "dl"
    refine ro_int h1 ?_
    repeat walk_at "dl"
    refine ⟨h % m, Nat.mod_lt _ (by omega), h % m, m, ?_, ?_, rfl⟩
    · have e : Int.fmod (h : Int) (m : Int) = ((h % m : Nat) : Int) := by
        rw [Int.fmod_eq_emod_of_nonneg _ (by omega)]
        rfl
      rw [e]
      rfl
    · rw [← hg]
      exact (Nat.gcd_rec m h).symm
  · have h1 : (m : Int) = 0 := by simpa using h0
    have h2 : m = 0 := by omega
    subst h2
    repeat walk_at "dl"
    show D.int _ = D.int _
    rw [← hg, Nat.gcd_zero_left]
/-! ### _law_is_dir -/
abbrev s__law_is_dir : Stmt := topS 32
abbrev N__law_is_dir : List Str := ["_law_x", "_law_c"]
theorem sc__law_is_dir : FnScope N__law_is_dir ["_law_x"] (defScope s__law_is_dir) := ⟨rfl, rfl, rfl, by decide +kernel, rfl, by decide +kernel, by decide +kernel⟩
theorem ok__law_is_dir {k : Nat} (G : Gn mg) (F : Df K mg "_law_is_dir" s__law_is_dir) (C__law_is_whole : ClB P w K mg base k "_law_is_whole" s__law_is_whole "_law_x" isNum) (C__law_gcd : ClG P w K mg base k) : ClB P w K mg base (k + 1) "_law_is_dir" s__law_is_dir "_law_x" isDir := by
  refine cl_of F sc__law_is_dir (fun _ _ _ _ _ _ us hl => match us, hl with | [_], _ => rfl) p1_len fun f cdv A outer s H E hr => ⟨_, (pss_one (ps_ret (pe_and (pe_callB (show CallR _ (.builtin "isinstance") (rIsi K) from call_isi) (by rfl) G.g_isinstance (by decide +kernel) (pa_cons (pv 0) (pa_cons (pe_bltn (v := .ty "tuple") (u := .type "tuple") (by rfl) G.g_tuple (by decide +kernel) rfl) pa_nil))) (pe_and (pe_cmpR op_eq (pe_callB (show CallR _ (.builtin "len") (fun xs H Q => ∃ x n, xs = [x] ∧ LenV K x H n ∧ Q (.int n) H) from call_len) (by rfl) G.g_len (by decide +kernel) (pa_cons (pv 0) pa_nil)) pe_int (nomark _)) (pe_and (pe_callB (cr_all rfl) (by rfl) G.g_all (by decide +kernel) (pa_cons (pe_lc (own := [("_law_c", 1)]) (g := gName 1) (tt := tYes) rfl sc__law_is_dir.nd (pi_tup (pv 0)) (blkOk_by (N := N__law_is_dir) (sc := defScope s__law_is_dir) (by decide +kernel)) (fun _ _ _ _ _ => pg_name (i := 1) sc__law_is_dir.nd rfl (Or.inl rfl)) (fun _ _ _ _ _ => pts_nil) (fun _ _ _ _ _ => (pe_and (pe_c C__law_is_whole hr (by omega) (by rfl) (pa_cons (pv 1) pa_nil)) (pe_and (pe_cmpR op_le (pe_un un_neg pe_int) (pv 1) (nomark _)) (pe_one (pe_cmpR op_le (pv 1) pe_int (nomark _))))))) pa_nil)) (pe_one (pe_cmpR op_eq (pe_c C__law_gcd hr (by omega) (by rfl) (pa_cons (pe_ix (show IxR _ (rIxT K) from ix_tup) (pv 0) pe_int (fun _ _ => rfl)) (pa_cons (pe_ix (show IxR _ (rIxT K) from ix_tup) (pv 0) pe_int (fun _ _ => rfl)) pa_nil))) pe_int (nomark _)))))))), fun B ds hp => ?_⟩
  obtain ⟨d, rfl, hd⟩ := p1_ex hp
  show WS K B _ [.val d, .no] _
  try dsimp only [cxOf, Cx.nox, Cx.blk]
  have hc := sm_cls hd
  cases d with
  | tup xs =>
    obtain ⟨hl, hs⟩ := sm_tup hd
    repeat walk_at "dl"
    refine ite2 (fun h => ?_) (fun h => ?_)
    · repeat walk_at "dl"
      refine we_lcmap (fun d => .bl (inB 999 d)) (wi_tup ?_)
      repeat walk_at "dl"
      refine ⟨by omega, fun d m => ?_, ?_⟩
      · repeat walk_at "dl"
        refine ⟨sms_mem hs m, ?_⟩
        cases d <;> (repeat walk_at "dl")
        all_goals first | rfl | skip
        refine ite2 (fun h => ?_) (fun h => ?_)
        · repeat walk_at "dl"
          exact and_t h
        · exact and_f h
      · repeat walk_at "dl"
        refine ite2 (fun h2 => ?_) (fun h2 => ?_)
        · have hb : isBnd 999 (.tup xs) = true := by rw [bnd_eq, h, h2]; rfl
          obtain ⟨x, y, e, _⟩ := bnd_pair hb
          cases e
          repeat walk_at "dl"
          refine ro_ixT (d := .int x) rfl ?_
          repeat walk_at "dl"
          refine ro_ixT (d := .int y) rfl ?_
          repeat walk_at "dl"
          refine ⟨⟨⟨_, rfl⟩, _, rfl⟩, ?_⟩
          show WE K B _ _ fun b => RO K B rEq (.int _) b _
          repeat walk_at "dl"
          exact and_t hb
        · have hb : ¬ isBnd 999 (.tup xs) = true := by rw [bnd_eq, h, Bool.true_and]; exact h2
          exact and_f hb
    · have hb : ¬ isBnd 999 (.tup xs) = true := by rw [bnd_eq, Bool.eq_false_iff.mpr h, Bool.false_and]; exact Bool.false_ne_true
      exact and_f hb
  | cls n => exact Bool.noConfusion hc
  | exn _ _ _ => exact Bool.noConfusion hc
  | _ => (repeat walk_at "dl"); rfl
/-! ### helpers of Pe -/
theorem cl_raw {x : Str} {st : Stmt} {N ps : List Str} {k : Nat} {pre : List D → Prop} {post : List D → D → Prop} (F : Df K mg x st) (S : FnScope N ps (defScope st))
    (hb : ∀ (kV doc pm : Value) (an : Option Addr) (cdv ct : Value) (us : List Value), us.length = ps.length → bindArgs (PySem.W.fnOf x x (defArgs st) (defBody st) (defScope st) .none kV doc pm an cdv ct) ⟨us, []⟩ = pure (ps.zip us))
    (hl : ∀ ds, pre ds → ds.length = ps.length)
    (h : ∀ (f : Addr) (cdv : Value) (A : Around) (outer : List Env) (s : Shared) (H : Hp) (E : XK) (B : Bt) (G : Hp) (ds : List D) (vs : List V) (Q : VK), Room k (A.deeper (envOfC x (defScope st) s.heap.objs.size f cdv)) → Ok B G H → Dds K B G vs ds → pre ds → Ct K B G H (post ds) Q →
      ∃ t, PSs (cxOf CX0 P w K mg base N x (defScope st) f cdv A outer s H E).nox (defBody st) t ∧ t { nx := fun _ H' => Q .non H', rt := Q } (L2.start N vs) H) : Cl P w K mg base (k + 1) x st ps (SpD K pre post) := by
  obtain ⟨f, fd, F, hm⟩ := F.ex
  refine ⟨f, fd, F, F.ok S (fun vs H Q E hsp => ?_) (fun cdv A outer s H vs Q E hr hsp => ?_), hm, F.binds hb⟩
  · obtain ⟨B, G, ds, o, hs, p, q⟩ := hsp
    exact hs.length.trans (hl ds p)
  · obtain ⟨B, G, ds, o, hs, p, q⟩ := hsp
    exact h f cdv A outer s H E B G ds vs Q hr o hs p q
/-! ### _law_take -/
abbrev s__law_take : Stmt := topS 22
abbrev N__law_take : List Str := ["_law_box_here", "_law_many", "_law_step", "_law_cell", "_law_digit"]
theorem sc__law_take : FnScope N__law_take ["_law_box_here", "_law_many"] (defScope s__law_take) := ⟨rfl, rfl, rfl, by decide +kernel, rfl, by decide +kernel, by decide +kernel⟩
abbrev takePre : List D → Prop := p2 fun b m => b = .box ∧ ∃ n : Int, m = .int n ∧ 0 < n ∧ n ≤ 1000000000
def takePost : List D → D → Prop := fun ds r => ∃ n i : Int, ds = [.box, .int n] ∧ r = .int i ∧ 0 ≤ i ∧ i < n
abbrev ClT (P : Program) (w : World) (K : PySem.W.Frag) (mg : Str → Option Value) (base : Heap) (k : Nat) := Cl P w K mg base k "_law_take" s__law_take ["_law_box_here", "_law_many"] (SpD K takePre takePost)
theorem fm0 {i n : Int} (h : 0 < n) : 0 ≤ i.fmod n ∧ i.fmod n < n := ⟨Int.fmod_nonneg_of_pos i h, Int.fmod_lt_of_pos i h⟩
theorem fd0 {i n : Int} (hi : 0 ≤ i) (h : 0 < n) : 0 ≤ i.fdiv n := by
  rw [Int.fdiv_eq_ediv_of_nonneg _ (by omega)]
  exact Int.ediv_nonneg hi (by omega)
theorem ok__law_take {k : Nat} (G : Gn mg) (F : Df K mg "_law_take" s__law_take) : ClT P w K mg base (k + 1) := by
  refine cl_raw F sc__law_take (fun _ _ _ _ _ _ us hl => match us, hl with | [_, _], _ => rfl) p2_len fun f cdv A outer s H E B G0 ds vs Q hr ok hs hp q => ?_
  obtain ⟨_, _, rfl, rfl, n, rfl, hn0, hn1⟩ := p2_ex hp
  have ev : vs = [.ref B.a, .int n] := by
    cases hs with
    | cons h1 t =>
      cases t with
      | cons h2 t2 => cases t2; cases h1; cases h2; rfl
  subst ev
  -- the end
  have fin : ∀ (H1 : Hp) (c : Addr) (cells : List Int) (p r m cnt i : Int), (∀ a, a ≠ B.a → H1 a = H a) → H1 B.a = some (.lst [.ref c, .int p, .int r, .int m, .int cnt]) → G0 c = some (.lst (cells.map V.int)) → cells.length ≤ 63 → 0 ≤ p → 0 ≤ r → 0 ≤ m → m < 2147483587 → 0 ≤ cnt → 0 ≤ i → i < n → (∀ c0 r0, H B.a = some (.lst (.ref c0 :: r0)) → c0 = c) → Q (.int i) H1 := by
    intro H1 c cells p r m cnt i hk hB hc hl hp hr hm hm2 hn hi hi2 hcc
    refine q (.int i) (.int i) G0 H1 ⟨Same.refl _, fun a o ne _ e => by rw [hk a ne]; exact e, fun _ _ _ _ g => g, fun c0 r0 e => ⟨[.int p, .int r, .int m, .int cnt], by have ec := hcc c0 r0 e; subst ec; exact hB⟩⟩ ⟨fun a o e => ?_, ok.b, ⟨c, cells, p, r, m, cnt, hB, hc, hl, hp, hr, hm, hm2, hn⟩, ?_, ok.f⟩ (.int i) ⟨n, i, rfl, rfl, hi, hi2⟩
    · have ne : a ≠ B.a := fun z => by rw [z, ok.b] at e; cases e
      rw [hk a ne]
      exact ok.u a o e
    · obtain ⟨c1, cells1, p1, r1, m1, n1, hB1, _⟩ := ok.x
      have e1 : H1 = upd H B.a (.lst [.ref c, .int p, .int r, .int m, .int cnt]) := by
        funext a
        by_cases z : a = B.a
        · rw [z, hB, upd_same]
        · rw [upd_ne z]; exact hk a z
      rw [e1]
      exact tabs_upd ok.t hB1
  -- the lines behind the first if
  obtain ⟨T2, h2, w2⟩ : ∃ T2, PSs (cxOf CX0 P w K mg base N__law_take "_law_take" (defScope s__law_take) f cdv A outer s H E).nox ((defBody s__law_take).drop 1) T2 ∧
      ∀ (H1 : Hp) (c : Addr) (cells : List Int) (p r m cnt : Int) (y2 y3 y4 : Option V), (∀ a, a ≠ B.a → H1 a = H a) → H1 B.a = some (.lst [.ref c, .int p, .int r, .int m, .int cnt]) → G0 c = some (.lst (cells.map V.int)) → cells.length ≤ 63 → 0 ≤ p → 0 ≤ r → 0 ≤ m → m < 2147483587 → 0 ≤ cnt → (∀ c0 r0, H B.a = some (.lst (.ref c0 :: r0)) → c0 = c) →
        T2 { nx := fun _ H' => Q .non H', rt := Q } [some (.ref B.a), some (.int n), y2, y3, y4] H1 := by
    refine ⟨_, (pss_cons (ps_if (pt_cmpR op_gt (pe_ix (show IxR _ (rIxL K) from ix_list) (pv 0) pe_int (fun _ _ => rfl)) pe_int (nomark _)) (pss_cons (ps_set (i := 4) sc__law_take.nd rfl (Or.inl rfl) (pe_op op_modN (pe_callTy call_int1 (by rfl) G.g_int (by decide +kernel) (pa_cons (pe_ix (show IxR _ (rIxL K) from ix_list) (pv 0) pe_int (fun _ _ => rfl)) pa_nil)) (pv 1)))
      (pss_cons (ps_asg (pe_op op_fdivN (pe_callTy call_int1 (by rfl) G.g_int (by decide +kernel) (pa_cons (pe_ix (show IxR _ (rIxL K) from ix_list) (pv 0) pe_int (fun _ _ => rfl)) pa_nil)) (pv 1)) (pg_sub (pv 0) pe_int set_list))
      (pss_one (ps_ret (pv 4))))) pss_nil)
      (pss_cons (ps_asg (pe_op op_add (pe_ix (show IxR _ (rIxL K) from ix_list) (pv 0) pe_int (fun _ _ => rfl)) pe_int) (pg_sub (pv 0) pe_int set_list))
      (pss_cons (ps_set (i := 2) sc__law_take.nd rfl (Or.inl rfl) (pe_op op_modN (pe_callTy call_int1 (by rfl) G.g_int (by decide +kernel) (pa_cons (pe_op op_add (pe_ix (show IxR _ (rIxL K) from ix_list) (pv 0) pe_int (fun _ _ => rfl)) (pe_op op_mul (pe_ix (show IxR _ (rIxL K) from ix_list) (pv 0) pe_int (fun _ _ => rfl)) pe_int)) pa_nil)) pe_int))
      (pss_cons (ps_asg (pe_op op_modN (pe_callTy call_int1 (by rfl) G.g_int (by decide +kernel) (pa_cons (pe_op op_add (pe_op op_add (pe_op op_pow (pv 2) pe_int) (pe_op op_mul pe_int (pv 2))) pe_int) pa_nil)) pe_int) (pg_sub (pv 0) pe_int set_list))
      (pss_one (ps_ret (pe_op op_modN (pe_callTy call_int1 (by rfl) G.g_int (by decide +kernel) (pa_cons (pe_op op_add (pe_op op_fdivN (pe_ix (show IxR _ (rIxL K) from ix_list) (pv 0) pe_int (fun _ _ => rfl)) pe_int) (pe_op op_mul (pe_op op_modN (pe_callTy call_int1 (by rfl) G.g_int (by decide +kernel) (pa_cons (pe_ix (show IxR _ (rIxL K) from ix_list) (pv 0) pe_int (fun _ _ => rfl)) pa_nil)) pe_int) pe_int)) pa_nil)) (pv 1)))))))), ?_⟩
    intro H1 c cells p r m cnt y2 y3 y4 hk hB hc hl hp hr hm hm2 hn hcc
    refine ⟨_, rfl, B.a, _, _, _, rfl, rfl, SqL.of hB, rfl, _, _, rfl, rfl, _, rfl, ?_⟩
    refine ite2 (fun h => ?_) (fun h => ?_)
    · refine ⟨_, rfl, B.a, _, _, _, rfl, rfl, SqL.of hB, rfl, .inl ⟨_, rfl, _, rfl, _, _, rfl, rfl, (show n ≠ 0 by omega), ?_⟩⟩
      refine ⟨_, rfl, B.a, _, _, _, rfl, rfl, SqL.of hB, rfl, .inl ⟨_, rfl, _, rfl, _, _, rfl, rfl, (show n ≠ 0 ∧ n.natAbs < 1073741824 from ⟨by omega, by omega⟩), _, rfl, B.a, _, _, _, rfl, rfl, hB, rfl, ?_⟩⟩
      refine ⟨_, rfl, ?_⟩
      have f0 := fm0 (i := r) hn0
      exact fin _ c cells p (r.fdiv n) m cnt _ (fun a ne => by rw [upd_ne ne]; exact hk a ne) upd_same hc hl hp (fd0 hr hn0) hm hm2 hn f0.1 f0.2 hcc
    · -- box[4] = box[4] + 1
      refine ⟨_, rfl, B.a, _, _, _, rfl, rfl, SqL.of hB, rfl, _, _, rfl, rfl, _, rfl, B.a, _, _, _, rfl, rfl, hB, rfl, ?_⟩
      -- step
      refine ⟨_, rfl, B.a, _, _, _, rfl, rfl, SqL.of upd_same, rfl, _, rfl, B.a, _, _, _, rfl, rfl, SqL.of upd_same, rfl, _, _, rfl, rfl, .inr ⟨by decide, by decide⟩, _, _, rfl, rfl, .inl ⟨_, rfl, _, _, rfl, rfl, (by intro z; exact absurd z (by decide)), ?_⟩⟩
      have fs := fm0 (i := m + (cnt + 1) * 6007) (n := 2147483587) (by decide)
      -- box[3] = int(step ** 3 + 30011 * step + 977) % ..
      refine ⟨_, rfl, _, _, rfl, rfl, ⟨by decide, by decide, (show ((m + (cnt + 1) * 6007).fmod 2147483587).natAbs < 2 ^ 64 by omega)⟩, _, rfl, _, _, rfl, rfl, .inl ⟨by decide, by decide⟩, _, _, rfl, rfl, _, _, rfl, rfl, .inl ⟨_, rfl, _, _, rfl, rfl, (by intro z; exact absurd z (by decide)), _, rfl, B.a, _, _, _, rfl, rfl, upd_same, rfl, ?_⟩⟩
      have fm := fm0 (i := ((m + (cnt + 1) * 6007).fmod 2147483587) ^ (3 : Int).toNat + 30011 * ((m + (cnt + 1) * 6007).fmod 2147483587) + 977) (n := 2147483587) (by decide)
      -- the answer
      refine ⟨_, rfl, B.a, _, _, _, rfl, rfl, SqL.of upd_same, rfl, _, _, rfl, rfl, ⟨by decide, by decide⟩, _, rfl, B.a, _, _, _, rfl, rfl, SqL.of upd_same, rfl, .inl ⟨_, rfl, _, _, rfl, rfl, (by intro z; exact absurd z (by decide)), _, _, rfl, rfl, .inr ⟨by decide, by decide⟩, _, _, rfl, rfl, .inl ⟨_, rfl, _, rfl, _, _, rfl, rfl, (show n ≠ 0 by omega), ?_⟩⟩⟩
      refine fin _ c cells p r _ (cnt + 1) _ (fun a ne => by rw [upd_ne ne, upd_ne ne]; exact hk a ne) upd_same hc hl hp hr fm.1 fm.2 (by omega) (fm0 hn0).1 (fm0 hn0).2 hcc
  refine ⟨_, pss_cons (ps_if (PW.pt (pw_and (pt_cmpR op_eq (pe_ix (show IxR _ (rIxL K) from ix_list) (pv 0) pe_int (fun _ _ => rfl)) pe_int (nomark _)) (pw_and1 (pt_cmpR op_lt (pe_ix (show IxR _ (rIxL K) from ix_list) (pv 0) pe_int (fun _ _ => rfl)) (pe_callB (show CallR _ (.builtin "len") (fun xs H Q => ∃ x n, xs = [x] ∧ LenV K x H n ∧ Q (.int n) H) from call_len) (by rfl) G.g_len (by decide +kernel) (pa_cons (pe_ix (show IxR _ (rIxL K) from ix_list) (pv 0) pe_int (fun _ _ => rfl)) pa_nil)) (nomark _))))) (pss_cons (ps_set (i := 3) sc__law_take.nd rfl (Or.inl rfl) (pe_ix (show IxR _ (rIxL K) from ix_list) (pe_ix (show IxR _ (rIxL K) from ix_list) (pv 0) pe_int (fun _ _ => rfl)) (pe_ix (show IxR _ (rIxL K) from ix_list) (pv 0) pe_int (fun _ _ => rfl)) (fun _ _ => rfl)))
      (pss_cons (ps_asg (pe_op op_add (pe_ix (show IxR _ (rIxL K) from ix_list) (pv 0) pe_int (fun _ _ => rfl)) pe_int) (pg_sub (pv 0) pe_int set_list))
      (pss_cons (ps_asg (pe_op op_modN (pe_callTy call_int1 (by rfl) G.g_int (by decide +kernel) (pa_cons (pe_op op_add (pe_op op_add (pe_op op_mul (pe_ix (show IxR _ (rIxL K) from ix_list) (pv 0) pe_int (fun _ _ => rfl)) pe_int) (pe_op op_mul (pe_op op_modN (pe_callTy call_int1 (by rfl) G.g_int (by decide +kernel) (pa_cons (pv 3) pa_nil)) pe_int) pe_int)) pe_int) pa_nil)) pe_int) (pg_sub (pv 0) pe_int set_list))
      (pss_one (ps_if (pt_cmpR op_ge (pe_callB call_abs (by rfl) G.g_abs (by decide +kernel) (pa_cons (pv 3) pa_nil)) (pe_op op_pow pe_int pe_int) (nomark _)) (pss_one (ps_asg (pe_callB call_abs (by rfl) G.g_abs (by decide +kernel) (pa_cons (pv 3) pa_nil)) (pg_sub (pv 0) pe_int set_list))) pss_nil))))) pss_nil) h2, ?_⟩
  obtain ⟨c, cells, p, r, m, cnt, hB, hc, hl, hp, hr0, hm, hm2, hn⟩ := ok.x
  show (tSeq _ T2) _ [some (.ref B.a), some (.int n), none, none, none] H
  have hcc : ∀ c0 r0, H B.a = some (.lst (.ref c0 :: r0)) → c0 = c := fun c0 r0 e => by
    rw [hB] at e
    exact (V.ref.inj (List.cons.inj (HO.lst.inj (Option.some.inj e))).1).symm
  have go0 := w2 H c cells p r m cnt none none none (fun _ _ => rfl) hB hc hl hp hr0 hm hm2 hn hcc
  refine ⟨_, rfl, B.a, _, _, _, rfl, rfl, SqL.of hB, rfl, rfl, _, rfl, ?_⟩
  refine ite2 (fun h => ?_) (fun h => iteF go0)
  have er : r = 0 := V.int.inj (of_decide_eq_true h)
  have hcH : SqL K H c (cells.map V.int) := SqL.of (ok.u _ _ hc)
  refine ⟨_, rfl, B.a, _, _, _, rfl, rfl, SqL.of hB, rfl, _, rfl, B.a, _, _, _, rfl, rfl, SqL.of hB, rfl, _, _, rfl, .inl ⟨_, hcH, rfl⟩, _, _, rfl, rfl, _, rfl, ?_⟩
  refine ite2 (fun h2 => ?_) (fun h2 => go0)
  have hp2 : p < ((cells.map V.int).length : Int) := of_decide_eq_true h2
  rw [List.length_map] at hp2
  obtain ⟨j, rfl⟩ : ∃ j : Nat, p = (j : Int) := ⟨p.toNat, by omega⟩
  have hj : j < cells.length := by omega
  have hat : atI (cells.map V.int) (j : Int) = some (.int cells[j]) := atI_nat (by rw [List.getElem?_map, List.getElem?_eq_getElem hj]; rfl)
  generalize cells[j] = cell at hat
  -- cell = box[0][box[1]]
  refine ⟨_, rfl, B.a, _, _, _, rfl, rfl, SqL.of hB, rfl, _, rfl, B.a, _, _, _, rfl, rfl, SqL.of hB, rfl, c, _, _, _, rfl, rfl, hcH, hat, ?_⟩
  -- box[1] = box[1] + 1
  refine ⟨_, rfl, B.a, _, _, _, rfl, rfl, SqL.of hB, rfl, _, _, rfl, rfl, _, rfl, B.a, _, _, _, rfl, rfl, hB, rfl, ?_⟩
  -- box[3] = ..
  refine ⟨_, rfl, B.a, _, _, _, rfl, rfl, SqL.of upd_same, rfl, _, _, rfl, rfl, .inr ⟨by decide, by decide⟩, _, rfl, .inl ⟨_, rfl, _, _, rfl, rfl, (by intro z; exact absurd z (by decide)), _, _, rfl, rfl, .inr ⟨by decide, by decide⟩, _, _, rfl, rfl, _, _, rfl, rfl, .inl ⟨_, rfl, _, _, rfl, rfl, (by intro z; exact absurd z (by decide)), _, rfl, B.a, _, _, _, rfl, rfl, upd_same, rfl, ?_⟩⟩⟩
  have fm := fm0 (i := m * 48271 + cell.fmod 2147483399 * 7 + 13) (n := 2147483587) (by decide)
  -- if abs(cell) >= 10 ** 18
  refine ⟨_, rfl, _, rfl, _, _, rfl, rfl, ⟨by decide, by decide, by decide⟩, _, _, rfl, rfl, _, rfl, ?_⟩
  refine ite2 (fun h3 => ?_) (fun h3 => ?_)
  · refine ⟨_, rfl, _, rfl, _, rfl, B.a, _, _, _, rfl, rfl, upd_same, rfl, ?_⟩
    exact w2 _ c cells (j + 1) (if cell < 0 then -cell else cell) _ cnt none (some (.int cell)) none (fun a ne => by rw [upd_ne ne, upd_ne ne, upd_ne ne]) upd_same hc hl (by omega) (by split <;> omega) fm.1 fm.2 hn hcc
  · exact w2 _ c cells (j + 1) r _ cnt none (some (.int cell)) none (fun a ne => by rw [upd_ne ne, upd_ne ne]) upd_same hc hl (by omega) hr0 fm.1 fm.2 hn hcc
/-! ### _law_pick -/
abbrev s__law_pick : Stmt := topS 23
abbrev N__law_pick : List Str := ["_law_box_here", "_law_some"]
theorem sc__law_pick : FnScope N__law_pick ["_law_box_here", "_law_some"] (defScope s__law_pick) := ⟨rfl, rfl, rfl, by decide +kernel, rfl, by decide +kernel, by decide +kernel⟩
abbrev pickPre : List D → Prop := p2 fun b l => b = .box ∧ ∃ xs, l = .lst xs ∧ 0 < xs.length ∧ xs.length ≤ 1000
def pickPost : List D → D → Prop := fun ds r => ∃ xs, ds = [.box, .lst xs] ∧ r ∈ xs
abbrev ClP (P : Program) (w : World) (K : PySem.W.Frag) (mg : Str → Option Value) (base : Heap) (k : Nat) := Cl P w K mg base k "_law_pick" s__law_pick ["_law_box_here", "_law_some"] (SpD K pickPre pickPost)
theorem ok__law_pick {k : Nat} (G : Gn mg) (F : Df K mg "_law_pick" s__law_pick) (C__law_take : ClT P w K mg base k) : ClP P w K mg base (k + 1) := by
  refine cl_of F sc__law_pick (fun _ _ _ _ _ _ us hl => match us, hl with | [_, _], _ => rfl) p2_len fun f cdv A outer s H E hr => ⟨_, (pss_one (ps_ret (pe_ix (show IxR _ (rIxL K) from ix_list) (pv 1) (pe_c C__law_take hr (by omega) (by rfl) (pa_cons (pv 0) (pa_cons (pe_callB (show CallR _ (.builtin "len") (fun xs H Q => ∃ x n, xs = [x] ∧ LenV K x H n ∧ Q (.int n) H) from call_len) (by rfl) G.g_len (by decide +kernel) (pa_cons (pv 1) pa_nil)) pa_nil))) (fun _ _ => rfl)))), fun B ds hp => ?_⟩
  obtain ⟨_, _, rfl, rfl, xs, rfl, h0, h1⟩ := p2_ex hp
  show WS K B _ [.val .box, .val (.lst xs)] _
  try dsimp only [cxOf, Cx.nox, Cx.blk]
  repeat walk_at "dl"
  refine ⟨⟨rfl, _, rfl, by omega, by omega⟩, ?_⟩
  rintro d ⟨n, i, e, rfl, hi0, hi1⟩
  cases e
  obtain ⟨j, rfl⟩ : ∃ j : Nat, i = (j : Int) := ⟨i.toNat, by omega⟩
  have hj : j < xs.length := by omega
  exact ro_ixL (atI_nat (List.getElem?_eq_getElem hj)) ⟨xs, rfl, List.getElem_mem hj⟩
/-! ### _law_same -/
def isNon : D → Bool | .non => true | _ => false
theorem ro_isN {B : Bt} {Pp : D → Prop} {a : D} (p : Pp (.bl (isNon a))) : RO K B (fun x y H Q => y = .non ∧ Q (.bl (decide (x = .non))) H) a .non Pp := fun _ _ x _ _ o hx hy q => by
  cases hy
  refine ⟨rfl, ?_⟩
  have e : decide (x = V.non) = isNon a := by cases hx <;> rfl
  rw [e]
  exact q.nil o (.bl _) p
theorem ro_eq5 {B : Bt} {Pp : D → Prop} {a b c d e : Bool} (p : Pp (.bl true)) : RO K B (rEqD K) (.lst [.bl a, .bl b, .bl c, .bl d, .bl e]) (.lst [.bl a, .bl b, .bl c, .bl d, .bl e]) Pp := fun G H x y _ o hx hy q => by
  have key : ∀ v, Dd K B G v (.lst [.bl a, .bl b, .bl c, .bl d, .bl e]) → Dp K H v (.list [.bool a, .bool b, .bool c, .bool d, .bool e]) := by
    intro v hv
    cases hv with
    | lst hg t =>
      cases t with
      | cons h1 t =>
        cases t with
        | cons h2 t =>
          cases t with
          | cons h3 t =>
            cases t with
            | cons h4 t =>
              cases t with
              | cons h5 t =>
                cases t; cases h1; cases h2; cases h3; cases h4; cases h5
                exact .lst (SqL.of (o.u _ _ hg)) (.cons (.bl a) (.cons (.bl b) (.cons (.bl c) (.cons (.bl d) (.cons (.bl e) .nil)))))
  have hsh : SeqAt.shaped (.list [.bool a, .bool b, .bool c, .bool d, .bool e]) = true := by
    cases a <;> cases b <;> cases c <;> cases d <;> cases e <;> decide +kernel
  refine ⟨_, _, key x hx, key y hy, hsh, hsh, ?_⟩
  have e : PyData.eqv (.list [.bool a, .bool b, .bool c, .bool d, .bool e]) (.list [.bool a, .bool b, .bool c, .bool d, .bool e]) = true := by
    cases a <;> cases b <;> cases c <;> cases d <;> cases e <;> decide +kernel
  rw [e]
  exact q.nil o (.bl true) p
theorem ro_eqU1 {B : Bt} {Pp : D → Prop} {a b : D} (h : RO K B rEq a b Pp) : RO K B rEqU a b Pp := fun G H x y Q o hx hy q => .inl (h G H x y Q o hx hy q)
theorem ro_eqU2 {B : Bt} {Pp : D → Prop} {ks : List Key} {xs : List D} (h : (ks = [] ∧ xs = []) ∨ ∃ k x, ks = [k] ∧ xs = [x] ∧ x.flat = true) (p : Pp (.bl true)) : RO K B rEqU (.dic ks xs) (.dic ks xs) Pp := fun G H x y Q o hx hy q => by
  refine .inr ?_
  generalize e1 : D.dic ks xs = d1 at hx
  cases hx with
  | @dic a kvs ds hg t =>
    generalize e2 : D.dic ks xs = d2 at hy
    cases hy with
    | @dic b lvs es hg2 t2 =>
      cases e1
      injection e2 with e3 e4
      subst e4
      refine ⟨a, b, kvs, lvs, rfl, rfl, o.u _ _ hg, o.u _ _ hg2, ?_, ?_, q.nil o (.bl true) p⟩
      · rw [← List.length_map (f := (·.1)) (as := kvs), ← List.length_map (f := (·.1)) (as := lvs), e3]
      · rcases h with ⟨h1, _⟩ | ⟨k, z, h1, h2, hf⟩
        · have : kvs = [] := by simpa using h1
          subst this
          intro p hp; cases hp
        · match kvs, lvs, h1, e3 with
          | [(k1, v1)], [(k2, v2)], h1, e3 =>
            have ek : k1 = k2 := by simpa using e3
            subst ek
            subst h2
            intro p hp
            rw [List.mem_singleton.mp hp]
            cases t with
            | cons a1 _ =>
              cases t2 with
              | cons a2 _ =>
                have f1 := a1.flat hf
                have f2 := a2.flat hf
                have f3 : v1 = z.v := f1
                have f4 : v2 = z.v := f2
                subst f3 f4
                refine ⟨?_, ?_⟩
                · unfold valV
                  rw [List.find?_cons_of_pos (by exact decide_eq_true rfl)]
                  rfl
                · show flatB z.v = true
                  cases z <;> first | rfl | exact Bool.noConfusion hf
          | [], _, h1, _ => simp at h1
          | _ :: _ :: _, _, h1, _ => simp at h1
          | [_], [], _, e3 => simp at e3
          | [_], _ :: _ :: _, _, e3 => simp at e3
    | _ => cases e2
  | _ => cases e1
abbrev s__law_same : Stmt := topS 24
abbrev N__law_same : List Str := ["_law_found", "_law_due", "_law_kinds", "_law_x", "_law_k"]
theorem sc__law_same : FnScope N__law_same ["_law_found", "_law_due"] (defScope s__law_same) := ⟨rfl, rfl, rfl, by decide +kernel, rfl, by decide +kernel, by decide +kernel⟩
/-- how deep, and of plain things alone -/
def plain : Nat → D → Bool
  | _, .non => true | _, .bl _ => true | _, .int _ => true | _, .str _ => true | _, .dic [] [] => true | _, .dic [_] [x] => x.flat
  | n + 1, .lst xs => decide (xs.length ≤ 1000) && xs.all (plain n)
  | n + 1, .tup xs => decide (xs.length ≤ 1000) && xs.all (plain n)
  | _, _ => false
abbrev samePre (n : Nat) : List D → Prop := p2 fun a b => a = b ∧ plain n a = true
abbrev ClS (P : Program) (w : World) (K : PySem.W.Frag) (mg : Str → Option Value) (base : Heap) (k n : Nat) := Cl P w K mg base k "_law_same" s__law_same ["_law_found", "_law_due"] (SpD K (samePre n) fun ds r => r = (fun _ => D.bl true) ds)
theorem all_true : ∀ n : Nat, (upto 0 n).all (fun _ => true) = true := fun n => List.all_eq_true.mpr fun _ _ => rfl
theorem upto_mem {n : Nat} {d : D} (m : d ∈ upto 0 n) : ∃ j : Nat, d = .int j ∧ j < n := by
  unfold upto at m
  obtain ⟨j, hj, e⟩ := List.mem_map.mp m
  exact ⟨j, by rw [← e, Int.zero_add], List.mem_range.mp hj⟩
theorem upto_len {lo : Int} {n : Nat} : (upto lo n).length = n := by unfold upto; rw [List.length_map, List.length_range]
theorem same_body {k n : Nat} (G : Gn mg) (F : Df K mg "_law_same" s__law_same) (C__law_same : Cl P w K mg base k "_law_same" s__law_same ["_law_found", "_law_due"] (SpD K (p2 fun a b => a = b ∧ ∃ m, n = m + 1 ∧ plain m a = true) fun ds r => r = (fun _ => D.bl true) ds)) : ClS P w K mg base (k + 1) n := by
    refine cl_of F sc__law_same (fun _ _ _ _ _ _ us hl => match us, hl with | [_, _], _ => rfl) p2_len fun f cdv A outer s H E hr => ?_
    refine ⟨_, (pss_cons (ps_if (pt_val (pe_callB (show CallR _ (.builtin "isinstance") (rIsiT K) from call_isiT) (by rfl) G.g_isinstance (by decide +kernel) (pa_cons (pv 1) (pa_cons (pe_tup (pa_cons (pe_bltn (v := .ty "list") (u := .type "list") (by rfl) G.g_list (by decide +kernel) rfl) (pa_cons (pe_bltn (v := .ty "tuple") (u := .type "tuple") (by rfl) G.g_tuple (by decide +kernel) rfl) pa_nil))) pa_nil)))) (pss_cons (ps_if (PW.pt (pw_or (pt_cmpR op_ne (pe_callB (show CallR _ (.builtin "isinstance") (rIsi K) from call_isi) (by rfl) G.g_isinstance (by decide +kernel) (pa_cons (pv 0) (pa_cons (pe_bltn (v := .ty "list") (u := .type "list") (by rfl) G.g_list (by decide +kernel) rfl) pa_nil))) (pe_callB (show CallR _ (.builtin "isinstance") (rIsi K) from call_isi) (by rfl) G.g_isinstance (by decide +kernel) (pa_cons (pv 1) (pa_cons (pe_bltn (v := .ty "list") (u := .type "list") (by rfl) G.g_list (by decide +kernel) rfl) pa_nil))) (nomark _)) (pw_or1 (pt_cmpR op_ne (pe_callB (show CallR _ (.builtin "isinstance") (rIsi K) from call_isi) (by rfl) G.g_isinstance (by decide +kernel) (pa_cons (pv 0) (pa_cons (pe_bltn (v := .ty "tuple") (u := .type "tuple") (by rfl) G.g_tuple (by decide +kernel) rfl) pa_nil))) (pe_callB (show CallR _ (.builtin "isinstance") (rIsi K) from call_isi) (by rfl) G.g_isinstance (by decide +kernel) (pa_cons (pv 1) (pa_cons (pe_bltn (v := .ty "tuple") (u := .type "tuple") (by rfl) G.g_tuple (by decide +kernel) rfl) pa_nil))) (nomark _))))) (pss_one (ps_ret pe_bl)) pss_nil)
      (pss_one (ps_ret (pe_and (pe_cmpR op_eq (pe_callB (show CallR _ (.builtin "len") (fun xs H Q => ∃ x n, xs = [x] ∧ LenV K x H n ∧ Q (.int n) H) from call_len) (by rfl) G.g_len (by decide +kernel) (pa_cons (pv 0) pa_nil)) (pe_callB (show CallR _ (.builtin "len") (fun xs H Q => ∃ x n, xs = [x] ∧ LenV K x H n ∧ Q (.int n) H) from call_len) (by rfl) G.g_len (by decide +kernel) (pa_cons (pv 1) pa_nil)) (nomark _)) (pe_one (pe_callB (cr_all rfl) (by rfl) G.g_all (by decide +kernel) (pa_cons (pe_lc (own := [("_law_k", 4)]) (g := gName 4) (tt := tYes) rfl sc__law_same.nd (pi_range1 rfl G.g_range (pa_cons (pe_callB (show CallR _ (.builtin "len") (fun xs H Q => ∃ x n, xs = [x] ∧ LenV K x H n ∧ Q (.int n) H) from call_len) (by rfl) G.g_len (by decide +kernel) (pa_cons (pv 1) pa_nil)) pa_nil)) (blkOk_by (N := N__law_same) (sc := defScope s__law_same) (by decide +kernel)) (fun _ _ _ _ _ => pg_name (i := 4) sc__law_same.nd rfl (Or.inl rfl)) (fun _ _ _ _ _ => pts_nil) (fun _ _ _ _ _ => (pe_c C__law_same hr (by omega) (by rfl) (pa_cons (pe_ix (show IxR _ (rIx K) from ix_seq) (pv 0) (pv 4) (fun _ _ => rfl)) (pa_cons (pe_ix (show IxR _ (rIx K) from ix_seq) (pv 1) (pv 4) (fun _ _ => rfl)) pa_nil))))) pa_nil))))))) pss_nil)
      (pss_cons (ps_setLc (i := 2) (own := [("_law_x", 3)]) (g := gName 3) (tt := tYes) rfl sc__law_same.nd rfl rfl (sw_true rfl rfl rfl (by decide +kernel)) (pi_tup (pe_tup (pa_cons (pv 0) (pa_cons (pv 1) pa_nil)))) (blkOk_by (N := N__law_same) (sc := defScope s__law_same) (by decide +kernel)) (fun _ _ _ _ _ => pg_name (i := 3) sc__law_same.nd rfl (Or.inl rfl)) (fun _ _ _ _ _ => pts_nil) (fun _ _ _ _ _ => (pe_lst (pa_cons (pe_callB (show CallR _ (.builtin "isinstance") (rIsi K) from call_isi) (by rfl) G.g_isinstance (by decide +kernel) (pa_cons (pv 3) (pa_cons (pe_bltn (v := .ty "bool") (u := .type "bool") (by rfl) G.g_bool (by decide +kernel) rfl) pa_nil))) (pa_cons (pe_callB (show CallR _ (.builtin "isinstance") (rIsi K) from call_isi) (by rfl) G.g_isinstance (by decide +kernel) (pa_cons (pv 3) (pa_cons (pe_bltn (v := .ty "int") (u := .type "int") (by rfl) G.g_int (by decide +kernel) rfl) pa_nil))) (pa_cons (pe_callB (show CallR _ (.builtin "isinstance") (rIsi K) from call_isi) (by rfl) G.g_isinstance (by decide +kernel) (pa_cons (pv 3) (pa_cons (pe_bltn (v := .ty "str") (u := .type "str") (by rfl) G.g_str (by decide +kernel) rfl) pa_nil))) (pa_cons (pe_callB (show CallR _ (.builtin "isinstance") (rIsi K) from call_isi) (by rfl) G.g_isinstance (by decide +kernel) (pa_cons (pv 3) (pa_cons (pe_bltn (v := .ty "dict") (u := .type "dict") (by rfl) G.g_dict (by decide +kernel) rfl) pa_nil))) (pa_cons (pe_cmpR op_isN (pv 3) pe_non (nomark _)) pa_nil))))))))
      (pss_one (ps_ret (pe_and (pe_cmpR (op_eqD hr.units) (pe_ix (show IxR _ (rIxL K) from ix_list) (pv 2) pe_int (fun _ _ => rfl)) (pe_ix (show IxR _ (rIxL K) from ix_list) (pv 2) pe_int (fun _ _ => rfl)) (nomark _)) (pe_and (pe_not (pe_callB (show CallR _ (.builtin "isinstance") (rIsiT K) from call_isiT) (by rfl) G.g_isinstance (by decide +kernel) (pa_cons (pv 0) (pa_cons (pe_tup (pa_cons (pe_bltn (v := .ty "list") (u := .type "list") (by rfl) G.g_list (by decide +kernel) rfl) (pa_cons (pe_bltn (v := .ty "tuple") (u := .type "tuple") (by rfl) G.g_tuple (by decide +kernel) rfl) pa_nil))) pa_nil)))) (pe_one (pe_cmpR (op_eqU (u0 hr)) (pv 0) (pv 1) (nomark _))))))))), fun B ds hp => ?_⟩
    obtain ⟨d, _, rfl, rfl, hd⟩ := p2_ex hp
    show WS K B _ [.val d, .val d, .no, .no, .no] _
    try dsimp only [cxOf, Cx.nox, Cx.blk]
    cases d with
    | lst xs =>
      cases n with
      | zero => exact Bool.noConfusion hd
      | succ n =>
        have hd' : (decide (xs.length ≤ 1000) && xs.all (plain n)) = true := hd
        rw [Bool.and_eq_true, decide_eq_true_eq] at hd'
        obtain ⟨hl, ha⟩ := hd'
        repeat walk_at "dl"
        refine ite2 (fun _ => ?_) (fun h => absurd (decide_eq_true rfl) h)
        repeat walk_at "dl"
        refine we_lcmap (fun _ => .bl true) (wi_range1 ?_)
        repeat walk_at "dl"
        refine ⟨by omega, by omega, ?_, ?_, ?_⟩
        · rw [upto_len]; omega
        · intro d m
          obtain ⟨j, rfl, hj⟩ := upto_mem m
          have hj' : j < xs.length := by omega
          repeat walk_at "dl"
          refine ro_ixsL (atI_nat (List.getElem?_eq_getElem hj')) ?_
          repeat walk_at "dl"
          refine ro_ixsL (atI_nat (List.getElem?_eq_getElem hj')) ?_
          repeat walk_at "dl"
          exact ⟨⟨rfl, n, rfl, List.all_eq_true.mp ha _ (List.getElem_mem hj')⟩, rfl⟩
        · repeat walk_at "dl"
          show D.bl _ = D.bl true
          rw [all_true]
    | tup xs =>
      cases n with
      | zero => exact Bool.noConfusion hd
      | succ n =>
        have hd' : (decide (xs.length ≤ 1000) && xs.all (plain n)) = true := hd
        rw [Bool.and_eq_true, decide_eq_true_eq] at hd'
        obtain ⟨hl, ha⟩ := hd'
        repeat walk_at "dl"
        refine ite2 (fun _ => ?_) (fun h => absurd (decide_eq_true rfl) h)
        repeat walk_at "dl"
        refine we_lcmap (fun _ => .bl true) (wi_range1 ?_)
        repeat walk_at "dl"
        refine ⟨by omega, by omega, ?_, ?_, ?_⟩
        · rw [upto_len]; omega
        · intro d m
          obtain ⟨j, rfl, hj⟩ := upto_mem m
          have hj' : j < xs.length := by omega
          repeat walk_at "dl"
          refine ro_ixsT (atI_nat (List.getElem?_eq_getElem hj')) ?_
          repeat walk_at "dl"
          refine ro_ixsT (atI_nat (List.getElem?_eq_getElem hj')) ?_
          repeat walk_at "dl"
          exact ⟨⟨rfl, n, rfl, List.all_eq_true.mp ha _ (List.getElem_mem hj')⟩, rfl⟩
        · repeat walk_at "dl"
          show D.bl _ = D.bl true
          rw [all_true]
    | cls z => cases n <;> exact Bool.noConfusion hd
    | exn _ _ _ => cases n <;> exact Bool.noConfusion hd
    | box => cases n <;> exact Bool.noConfusion hd
    | dic ks xs =>
      have hd2 : (ks = [] ∧ xs = []) ∨ ∃ k x, ks = [k] ∧ xs = [x] ∧ x.flat = true := by
        match ks, xs, hd with
        | [], [], _ => exact .inl ⟨rfl, rfl⟩
        | [k], [x], hd => exact .inr ⟨k, x, rfl, rfl, by cases n <;> exact hd⟩
        | [], _ :: _, hd => cases n <;> exact Bool.noConfusion hd
        | [_], [], hd => cases n <;> exact Bool.noConfusion hd
        | [_], _ :: _ :: _, hd => cases n <;> exact Bool.noConfusion hd
        | _ :: _ :: _, _, hd => cases n <;> exact Bool.noConfusion hd
      repeat walk_at "dl"
      refine we_lcmap (fun d => .lst [.bl (isBool d), .bl (Dl.isInt d), .bl (isStr d), .bl (isDic d), .bl (isNon d)]) (wi_tup ?_)
      repeat walk_at "dl"
      refine ⟨fun d m => ?_, ?_⟩
      · have hc : d.isCls = false := by
          rcases List.mem_cons.mp m with e | m
          · rw [e]; rfl
          · rw [List.mem_singleton.mp m]; rfl
        repeat walk_at "dl"
        refine ro_isN ?_
        repeat walk_at "dl"
        rfl
      · repeat walk_at "dl"
        refine ro_ixL (d := .lst [.bl _, .bl _, .bl _, .bl _, .bl _]) rfl ?_
        repeat walk_at "dl"
        refine ro_ixL (d := .lst [.bl _, .bl _, .bl _, .bl _, .bl _]) rfl ?_
        refine ro_eq5 ?_
        repeat walk_at "dl"
        exact ro_eqU2 hd2 rfl
    | non =>
      repeat walk_at "dl"
      refine we_lcmap (fun d => .lst [.bl (isBool d), .bl (Dl.isInt d), .bl (isStr d), .bl (isDic d), .bl (isNon d)]) (wi_tup ?_)
      repeat walk_at "dl"
      refine ⟨fun d m => ?_, ?_⟩
      · have hc : d.isCls = false := by
          rcases List.mem_cons.mp m with e | m
          · rw [e]; rfl
          · rw [List.mem_singleton.mp m]; rfl
        repeat walk_at "dl"
        refine ro_isN ?_
        repeat walk_at "dl"
        rfl
      · repeat walk_at "dl"
        refine ro_ixL (d := .lst [.bl _, .bl _, .bl _, .bl _, .bl _]) rfl ?_
        repeat walk_at "dl"
        refine ro_ixL (d := .lst [.bl _, .bl _, .bl _, .bl _, .bl _]) rfl ?_
        refine ro_eq5 ?_
        repeat walk_at "dl"
        refine ro_eqU1 (ro_eq rfl rfl rfl ?_)
        show D.bl _ = D.bl true
        rw [decide_eq_true rfl]
    | bl b =>
      repeat walk_at "dl"
      refine we_lcmap (fun d => .lst [.bl (isBool d), .bl (Dl.isInt d), .bl (isStr d), .bl (isDic d), .bl (isNon d)]) (wi_tup ?_)
      repeat walk_at "dl"
      refine ⟨fun d m => ?_, ?_⟩
      · have hc : d.isCls = false := by
          rcases List.mem_cons.mp m with e | m
          · rw [e]; rfl
          · rw [List.mem_singleton.mp m]; rfl
        repeat walk_at "dl"
        refine ro_isN ?_
        repeat walk_at "dl"
        rfl
      · repeat walk_at "dl"
        refine ro_ixL (d := .lst [.bl _, .bl _, .bl _, .bl _, .bl _]) rfl ?_
        repeat walk_at "dl"
        refine ro_ixL (d := .lst [.bl _, .bl _, .bl _, .bl _, .bl _]) rfl ?_
        refine ro_eq5 ?_
        repeat walk_at "dl"
        refine ro_eqU1 (ro_eq rfl rfl rfl ?_)
        show D.bl _ = D.bl true
        rw [decide_eq_true rfl]
    | int i =>
      repeat walk_at "dl"
      refine we_lcmap (fun d => .lst [.bl (isBool d), .bl (Dl.isInt d), .bl (isStr d), .bl (isDic d), .bl (isNon d)]) (wi_tup ?_)
      repeat walk_at "dl"
      refine ⟨fun d m => ?_, ?_⟩
      · have hc : d.isCls = false := by
          rcases List.mem_cons.mp m with e | m
          · rw [e]; rfl
          · rw [List.mem_singleton.mp m]; rfl
        repeat walk_at "dl"
        refine ro_isN ?_
        repeat walk_at "dl"
        rfl
      · repeat walk_at "dl"
        refine ro_ixL (d := .lst [.bl _, .bl _, .bl _, .bl _, .bl _]) rfl ?_
        repeat walk_at "dl"
        refine ro_ixL (d := .lst [.bl _, .bl _, .bl _, .bl _, .bl _]) rfl ?_
        refine ro_eq5 ?_
        repeat walk_at "dl"
        refine ro_eqU1 (ro_eq rfl rfl rfl ?_)
        show D.bl _ = D.bl true
        rw [decide_eq_true rfl]
    | str z =>
      repeat walk_at "dl"
      refine we_lcmap (fun d => .lst [.bl (isBool d), .bl (Dl.isInt d), .bl (isStr d), .bl (isDic d), .bl (isNon d)]) (wi_tup ?_)
      repeat walk_at "dl"
      refine ⟨fun d m => ?_, ?_⟩
      · have hc : d.isCls = false := by
          rcases List.mem_cons.mp m with e | m
          · rw [e]; rfl
          · rw [List.mem_singleton.mp m]; rfl
        repeat walk_at "dl"
        refine ro_isN ?_
        repeat walk_at "dl"
        rfl
      · repeat walk_at "dl"
        refine ro_ixL (d := .lst [.bl _, .bl _, .bl _, .bl _, .bl _]) rfl ?_
        repeat walk_at "dl"
        refine ro_ixL (d := .lst [.bl _, .bl _, .bl _, .bl _, .bl _]) rfl ?_
        refine ro_eq5 ?_
        repeat walk_at "dl"
        refine ro_eqU1 (ro_eq rfl rfl rfl ?_)
        show D.bl _ = D.bl true
        rw [decide_eq_true rfl]
theorem ok__law_same {k : Nat} (G : Gn mg) (F : Df K mg "_law_same" s__law_same) : ∀ n : Nat, ClS P w K mg base (k + n + 1) n := by
  intro n
  induction n with
  | zero =>
    refine same_body (k := k) G F ?_
    obtain ⟨f, fd, F, hm⟩ := F.ex
    have no : ∀ vs H Q E, ¬ SpD K (p2 fun a b => a = b ∧ ∃ m, 0 = m + 1 ∧ plain m a = true) (fun ds r => r = (fun _ => D.bl true) ds) vs H Q E := by
      rintro vs H Q E ⟨B, G1, ds, o, hs, hp, q⟩
      obtain ⟨a, b, rfl, e, m', hm, hpl⟩ := p2_ex hp
      exact absurd hm (by omega)
    exact ⟨f, fd, F, ⟨fun vs H Q E h => (no vs H Q E h).elim, fun A outer s H args us vs Q E _ _ _ _ h => (no vs H Q E h).elim⟩, hm, F.binds fun _ _ _ _ _ _ us hl => match us, hl with | [_, _], _ => rfl⟩
  | succ m ih =>
    refine same_body (k := k + m + 1) G F (ih.imp fun vs H Q E h => ?_)
    obtain ⟨B, G1, ds, o, hs, hp, q⟩ := h
    refine ⟨B, G1, ds, o, hs, ?_, q⟩
    obtain ⟨a, b, rfl, e, m', hm, hpl⟩ := p2_ex hp
    cases hm
    exact ⟨e, hpl⟩
/-! ### dicts as displays -/
theorem nt_dK {kvs : List (Key × V)} : nt (.dK kvs) := fun _ z => nomatch z
theorem we_dnew {B : Bt} {δ : List Sd} {Pp : D → Prop} (p : Pp (.dic [] [])) : WE K B tDNewK δ Pp := fun _ _ _ G H Q s _ q a ha => q.new s.ok nt_dK ha (.dic (kvs := []) upd_same .nil) p
theorem we_disp1 {B : Bt} {δ : List Sd} {Pp : D → Prop} {z : Str} {i : Int} (p : Pp (.dic [.inr z] [.int i])) : WE K B (tDisp [(tC (.str z), tC (.int i))]) δ Pp := fun _ _ _ G H Q s _ q a ha => by
  refine ⟨upd_same, [(.inr z, .int i)], rfl, Nat.le_of_ble_eq_true rfl, ?_⟩
  have e : mergeK [] [((Sum.inr z : Key), V.int i)] = [(.inr z, .int i)] := rfl
  rw [e, upd_upd]
  exact q.new s.ok nt_dK ha (.dic (kvs := [(.inr z, .int i)]) upd_same (.cons (.int i) .nil)) p
/-! ### _law_odd -/
abbrev s__law_odd : Stmt := topS 27
abbrev N__law_odd : List Str := ["_law_box_here"]
theorem sc__law_odd : FnScope N__law_odd ["_law_box_here"] (defScope s__law_odd) := ⟨rfl, rfl, rfl, by decide +kernel, rfl, by decide +kernel, by decide +kernel⟩
abbrev oddPre : List D → Prop := p1 fun b => b = .box
def oddPost : List D → D → Prop := fun _ r => sm r = true
abbrev ClO (P : Program) (w : World) (K : PySem.W.Frag) (mg : Str → Option Value) (base : Heap) (k : Nat) := Cl P w K mg base k "_law_odd" s__law_odd ["_law_box_here"] (SpD K oddPre oddPost)
theorem ok__law_odd {k : Nat} (G : Gn mg) (F : Df K mg "_law_odd" s__law_odd) (C__law_pick : ClP P w K mg base k) : ClO P w K mg base (k + 1) := by
  refine cl_of F sc__law_odd (fun _ _ _ _ _ _ us hl => match us, hl with | [_], _ => rfl) p1_len fun f cdv A outer s H E hr => ⟨_, (pss_one (ps_ret (pe_c C__law_pick hr (by omega) (by rfl) (pa_cons (pv 0) (pa_cons (pe_lst (pa_cons pe_non (pa_cons pe_bl (pa_cons pe_bl (pa_cons pe_int (pa_cons (pe_un un_neg pe_int) (pa_cons pe_int (pa_cons pe_str (pa_cons pe_str (pa_cons pe_str (pa_cons pe_str (pa_cons pe_str (pa_cons pe_str (pa_cons (pe_tup pa_nil) (pa_cons (pe_lst pa_nil) (pa_cons pe_dnewK (pa_cons (pe_tup (pa_cons pe_str pa_nil)) (pa_cons (pe_lst (pa_cons pe_str pa_nil)) (pa_cons (pe_disp (pps_cons pe_str pe_int pps_nil) (by rfl) (by rfl) (fun z => by cases z) (by decide)) (pa_cons (pe_tup (pa_cons pe_int (pa_cons pe_int pa_nil))) (pa_cons (pe_lst (pa_cons pe_int pa_nil)) (pa_cons (pe_tup (pa_cons pe_non pa_nil)) (pa_cons (pe_tup (pa_cons (pe_tup (pa_cons pe_int (pa_cons pe_int pa_nil))) (pa_cons (pe_tup (pa_cons pe_int (pa_cons pe_int pa_nil))) pa_nil))) pa_nil))))))))))))))))))))))) pa_nil))))), fun B ds hp => ?_⟩
  obtain ⟨_, rfl, rfl⟩ := p1_ex hp
  show WS K B _ [.val .box] _
  try dsimp only [cxOf, Cx.nox, Cx.blk]
  repeat (first | walk_at "dl" | refine we_dnew ?_ | refine we_disp1 ?_)
  refine ⟨⟨rfl, _, rfl, by decide, by decide⟩, ?_⟩
  rintro d ⟨xs, e, m⟩
  cases e
  have key : sms [D.non, .bl true, .bl false, .int 0, .int (-1), .int 5, .str "", .str "A", .str "ab1", .str "abcdefg", .str "a b", .str "a\n", .tup [], .lst [], .dic [] [], .tup [.str "a"], .lst [.str "a"], .dic [.inr "a"] [.int 1], .tup [.int 1, .int 2], .lst [.int 0], .tup [.non], .tup [.tup [.int 0, .int 0], .tup [.int 1, .int 0]]] = true := by decide +kernel
  exact sms_mem key m
/-! ### _law_box -/
abbrev s__law_box : Stmt := topS 21
abbrev N__law_box : List Str := ["_law_script", "_law_own", "_law_mixed", "_law_cell"]
theorem sc__law_box : FnScope N__law_box ["_law_script", "_law_own"] (defScope s__law_box) := ⟨rfl, rfl, rfl, by decide +kernel, rfl, by decide +kernel, by decide +kernel⟩
def spBox (K : PySem.W.Frag) : Sp := fun vs H Q _ => ∃ (a : Addr) (ns : List Int) (own : Int), vs = [.ref a, .int own] ∧ SqL K H a (ns.map V.int) ∧ ns.length ≤ 63 ∧ 0 ≤ own ∧ own < 2147483587 ∧ ∃ T, LamX.Tabs T H ∧ ∀ B G H', B.T = T → Same H H' → Ok B G H' → Q (.ref B.a) H'
theorem cut63 {ns : List Int} (h : ns.length ≤ 63) : cutV (ns.map V.int) none (some 63) = ns.map V.int := by
  unfold cutV
  rw [HT.sIx_none]
  have e : HT.sIx (ns.map V.int).length (ns.map V.int).length (some 63) = (ns.map V.int).length := by
    rw [show HT.sIx (ns.map V.int).length (ns.map V.int).length (some 63) = min 63 (ns.map V.int).length from HT.sIx_nat _ _ 63, List.length_map]
    omega
  rw [e, List.drop_zero, Nat.sub_zero]
  exact List.take_length
theorem ok__law_box {f : Addr} {fd : FuncData} {k : Nat} (G : Gn mg) (F : Fun K "_law_box" "_law_box" s__law_box f fd) : FnOk P w K mg base CX0 (k + 1) f fd ["_law_script", "_law_own"] (spBox K) := by
  refine F.ok sc__law_box (fun vs H Q E h => ?_) (fun cdv A outer s H vs Q E hr h => ?_)
  · obtain ⟨a, ns, own, rfl, _⟩ := h
    rfl
  · obtain ⟨a, ns, own, rfl, hS, hl, h0, h1, T, hT, q⟩ := h
    refine ⟨_, (pss_cons (ps_set (i := 2) sc__law_box.nd rfl (Or.inl rfl) (pv 1))
      (pss_cons (ps_for PassesOwn.never rfl (pi_list (pe_slice sl_list (pv 0) po_none (po_some pe_int))) (pg_name (i := 3) sc__law_box.nd rfl (Or.inl rfl)) (pss_one (ps_set (i := 2) sc__law_box.nd rfl (Or.inl rfl) (pe_op op_modN (pe_callTy call_int1 (by rfl) G.g_int (by decide +kernel) (pa_cons (pe_op op_add (pe_op op_add (pe_op op_mul (pv 2) pe_int) (pe_op op_modN (pe_callTy call_int1 (by rfl) G.g_int (by decide +kernel) (pa_cons (pv 3) pa_nil)) pe_int)) pe_int) pa_nil)) pe_int))))
      (pss_one (ps_ret (pe_lst (pa_cons (pe_lc (own := [("_law_cell", 3)]) (g := gName 3) (tt := tYes) rfl sc__law_box.nd (pi_list (pe_slice sl_list (pv 0) po_none (po_some pe_int))) (blkOk_by (N := N__law_box) (sc := defScope s__law_box) (by decide +kernel)) (fun _ _ _ _ _ => pg_name (i := 3) sc__law_box.nd rfl (Or.inl rfl)) (fun _ _ _ _ _ => pts_nil) (fun _ _ _ _ _ => (pe_callTy call_int1 (by rfl) G.g_int (by decide +kernel) (pa_cons (pv 3) pa_nil)))) (pa_cons pe_int (pa_cons pe_int (pa_cons (pv 2) (pa_cons pe_int pa_nil)))))))))), ?_⟩
    -- mixed = own
    refine ⟨_, rfl, ?_⟩
    -- the loop over script[:63]
    refine ⟨_, rfl, _, rfl, a, _, rfl, hS, fun p np => ?_⟩
    refine ⟨p, rfl, ⟨_, SqL.of upd_same⟩, ?_⟩
    rw [cut63 hl]
    have s1 : Same H (upd H p (.lst (ns.map V.int))) := same_upd np
    refine for_list (xs := ns.map V.int) (fun i σ H1 => ∃ (m : Int) (y : Option V), σ = [some (.ref a), some (.int own), some (.int m), y] ∧ 0 ≤ m ∧ m < 2147483587 ∧ H1 = upd H p (.lst (ns.map V.int))) ⟨own, none, rfl, h0, h1, rfl⟩ ?_ ?_ ?_
    · rintro i σ H1 _ ⟨m, y, rfl, hm, hm2, rfl⟩
      exact SqL.of upd_same
    · rintro i x σ H1 hx ⟨m, y, rfl, hm, hm2, rfl⟩
      obtain ⟨u, rfl⟩ : ∃ u, x = V.int u := by
        rw [List.getElem?_map] at hx
        cases e : ns[i]? with
        | none => rw [e] at hx; cases hx
        | some u => rw [e] at hx; exact ⟨u, (Option.some.inj hx).symm⟩
      refine ⟨_, rfl, _, _, rfl, rfl, .inr ⟨by decide, by decide⟩, _, rfl, .inl ⟨_, rfl, _, _, rfl, rfl, (by intro z; exact absurd z (by decide)), _, _, rfl, rfl, _, _, rfl, rfl, .inl ⟨_, rfl, _, _, rfl, rfl, (by intro z; exact absurd z (by decide)), ?_⟩⟩⟩
      have fm := fm0 (i := m * 40503 + u.fmod 2147483423 + 11) (n := 2147483587) (by decide)
      exact ⟨_, _, rfl, fm.1, fm.2, rfl⟩
    · rintro σ H1 ⟨m, y, rfl, hm, hm2, rfl⟩
      -- [int(cell) for cell in script[:63]]
      refine ⟨_, rfl, _, rfl, a, _, rfl, s1.seq hS, fun p2 np2 => ?_⟩
      rw [cut63 hl]
      have s2 : Same (upd H p (.lst (ns.map V.int))) (upd (upd H p (.lst (ns.map V.int))) p2 (.lst (ns.map V.int))) := same_upd np2
      generalize hH2 : upd (upd H p (.lst (ns.map V.int))) p2 (.lst (ns.map V.int)) = H2 at s2
      have hp2 : H2 p2 = some (.lst (ns.map V.int)) := by rw [← hH2, upd_same]
      refine ⟨p2, rfl, ⟨_, SqL.of hp2⟩, fun c nc => ?_⟩
      have ne2 : p2 ≠ c := ne_of_none hp2 nc
      refine lc_list (K := K) (a := p2) (xs := ns.map V.int) (fun i H3 => H3 = upd H2 c (.lst ((ns.take i).map V.int))) rfl ?_ ?_ ?_
      · rintro i H3 _ rfl
        exact SqL.of (by rw [upd_ne ne2]; exact hp2)
      · rintro i x H3 hx rfl
        obtain ⟨u, rfl, eu⟩ : ∃ u, x = V.int u ∧ ns[i]? = some u := by
          rw [List.getElem?_map] at hx
          cases e : ns[i]? with
          | none => rw [e] at hx; cases hx
          | some u => rw [e] at hx; exact ⟨u, (Option.some.inj hx).symm, rfl⟩
        refine ⟨rfl, ?_⟩
        dsimp only [tYes]
        rw [if_pos rfl]
        refine ⟨_, rfl, .inl ⟨_, rfl, _, upd_same, ?_, ?_⟩⟩
        · rw [List.length_map, List.length_take]
          exact Nat.lt_of_le_of_lt (by omega : min i ns.length ≤ 1000) (by decide)
        · rw [upd_upd, List.take_add_one, eu, List.map_append]
          rfl
      · rintro H3 rfl
        -- the list of the box
        refine ⟨_, rfl, by show 5 ≤ sizeLine; decide, fun B nB => ?_⟩
        have et : ns.take (ns.map V.int).length = ns := by rw [List.length_map]; exact List.take_length
        rw [et] at nB ⊢
        have hc : (upd H2 c (.lst (ns.map V.int))) c = some (.lst (ns.map V.int)) := upd_same
        have s3 : Same H2 (upd H2 c (.lst (ns.map V.int))) := same_upd nc
        have s4 : Same (upd H2 c (.lst (ns.map V.int))) (upd (upd H2 c (.lst (ns.map V.int))) B (.lst [.ref c, .int 0, .int 0, .int m, .int 0])) := same_upd nB
        have neB : c ≠ B := ne_of_none hc nB
        have s5 := ((s1.trans s2).trans s3).trans s4
        refine q ⟨B, T⟩ (fun x => if x = c then some (.lst (ns.map V.int)) else none) _ rfl s5 ⟨fun x o e => ?_, ?_, ⟨c, ns, 0, 0, m, 0, upd_same, ?_, hl, Int.le_refl 0, Int.le_refl 0, hm, hm2, Int.le_refl 0⟩, hT.ext fun b o e => s5 b o e, fun x o e => ?_⟩
        · by_cases ex : x = c
          · subst ex
            rw [if_pos rfl] at e
            exact s4 _ _ (e ▸ hc)
          · rw [if_neg ex] at e
            cases e
        · show (if B = c then _ else none) = none
          rw [if_neg (Ne.symm neB)]
        · show (if c = c then _ else none) = _
          rw [if_pos rfl]
        · have e' : (if x = c then some (HO.lst (ns.map V.int)) else none) = some o := e
          by_cases ex : x = c
          · rw [if_pos ex] at e'; cases e'; exact nt_lst
          · rw [if_neg ex] at e'; cases e'
end
/-! #### Qb -/
section
variable {P : Program} {w : World} {K : PySem.W.Frag} {mg : Str → Option Value} {base : Heap}
/-! ### own -/
def sec (u v : Int) : Bool := decide (v < 0) || (decide (v = 0) && decide (u < 0))
def ahd (u v x y : Int) : Bool := if (sec u v != sec x y) = true then sec x y else decide (0 < u * y - v * x)
def crossF : D → D → D
  | .tup [.int u, .int v], .tup [.int x, .int y] => .int (u * y - v * x)
  | _, _ => .non
def secF : D → D
  | .tup [.int u, .int v] => .bl (sec u v)
  | _ => .non
def ahdF : D → D → D
  | .tup [.int u, .int v], .tup [.int x, .int y] => .bl (ahd u v x y)
  | _, _ => .non
def halfF : D → D
  | .tup [.int u, .int v] => .tup [.int (-u), .int (-v)]
  | _ => .non
/-- a pair of numbers that are not too great -/
def Pa2 (d : D) : Prop := ∃ u v : Int, d = .tup [.int u, .int v] ∧ -1000000000000 ≤ u ∧ u ≤ 1000000000000 ∧ -1000000000000 ≤ v ∧ v ≤ 1000000000000
abbrev s_cross : Stmt := topS 12
abbrev N_cross : List Str := ["one", "other"]
theorem sc_cross : FnScope N_cross ["one", "other"] (defScope s_cross) := ⟨rfl, rfl, rfl, by decide +kernel, rfl, by decide +kernel, by decide +kernel⟩
abbrev ClCr (P : Program) (w : World) (K : PySem.W.Frag) (mg : Str → Option Value) (base : Heap) (k : Nat) := Cl P w K mg base k "cross" s_cross ["one", "other"] (SpD K (p2 fun a b => Pa2 a ∧ Pa2 b) fun ds r => r = f2 crossF ds)
theorem ok_cross {k : Nat} (F : Df K mg "cross" s_cross) : ClCr P w K mg base (k + 1) := by
  refine cl_of F sc_cross (fun _ _ _ _ _ _ us hl => match us, hl with | [_, _], _ => rfl) p2_len fun f cdv A outer s H E hr => ⟨_, (pss_one (ps_ret (pe_op op_sub (pe_op op_mul (pe_ix (show IxR _ (rIxT K) from ix_tup) (pv 0) pe_int (fun _ _ => rfl)) (pe_ix (show IxR _ (rIxT K) from ix_tup) (pv 1) pe_int (fun _ _ => rfl))) (pe_op op_mul (pe_ix (show IxR _ (rIxT K) from ix_tup) (pv 0) pe_int (fun _ _ => rfl)) (pe_ix (show IxR _ (rIxT K) from ix_tup) (pv 1) pe_int (fun _ _ => rfl)))))), fun B ds hp => ?_⟩
  obtain ⟨_, _, rfl, ⟨u, v, rfl, hu, hu', hv, hv'⟩, ⟨x, y, rfl, hx, hx', hy, hy'⟩⟩ := p2_ex hp
  show WS K B _ [.val (.tup [.int u, .int v]), .val (.tup [.int x, .int y])] _
  try dsimp only [cxOf, Cx.nox, Cx.blk]
  repeat walk_at "dl"
  refine ro_ixT (d := .int u) rfl ?_
  repeat walk_at "dl"
  refine ro_ixT (d := .int y) rfl ?_
  refine ro_int (.inl ⟨by omega, by omega⟩) ?_
  repeat walk_at "dl"
  refine ro_ixT (d := .int v) rfl ?_
  repeat walk_at "dl"
  refine ro_ixT (d := .int x) rfl ?_
  refine ro_int (.inl ⟨by omega, by omega⟩) ?_
  repeat walk_at "dl"
  rfl
abbrev s_turned_half : Stmt := topS 13
abbrev N_turned_half : List Str := ["direction"]
theorem sc_turned_half : FnScope N_turned_half ["direction"] (defScope s_turned_half) := ⟨rfl, rfl, rfl, by decide +kernel, rfl, by decide +kernel, by decide +kernel⟩
theorem ok_turned_half {k : Nat} (F : Df K mg "turned_half" s_turned_half) : Cl P w K mg base (k + 1) "turned_half" s_turned_half ["direction"] (SpD K (p1 Pa2) fun ds r => r = f1 halfF ds) := by
  refine cl_of F sc_turned_half (fun _ _ _ _ _ _ us hl => match us, hl with | [_], _ => rfl) p1_len fun f cdv A outer s H E hr => ⟨_, (pss_one (ps_ret (pe_tup (pa_cons (pe_un un_neg (pe_ix (show IxR _ (rIxT K) from ix_tup) (pv 0) pe_int (fun _ _ => rfl))) (pa_cons (pe_un un_neg (pe_ix (show IxR _ (rIxT K) from ix_tup) (pv 0) pe_int (fun _ _ => rfl))) pa_nil))))), fun B ds hp => ?_⟩
  obtain ⟨_, rfl, u, v, rfl, _⟩ := p1_ex hp
  show WS K B _ [.val (.tup [.int u, .int v])] _
  try dsimp only [cxOf, Cx.nox, Cx.blk]
  repeat walk_at "dl"
  refine ro_ixT (d := .int u) rfl ?_
  repeat walk_at "dl"
  refine ro_ixT (d := .int v) rfl ?_
  repeat walk_at "dl"
  rfl
abbrev s_in_second_half : Stmt := topS 15
abbrev N_in_second_half : List Str := ["direction"]
theorem sc_in_second_half : FnScope N_in_second_half ["direction"] (defScope s_in_second_half) := ⟨rfl, rfl, rfl, by decide +kernel, rfl, by decide +kernel, by decide +kernel⟩
abbrev ClSh (P : Program) (w : World) (K : PySem.W.Frag) (mg : Str → Option Value) (base : Heap) (k : Nat) := Cl P w K mg base k "in_second_half" s_in_second_half ["direction"] (SpD K (p1 Pa2) fun ds r => r = f1 secF ds)
theorem ok_in_second_half {k : Nat} (F : Df K mg "in_second_half" s_in_second_half) : ClSh P w K mg base (k + 1) := by
  refine cl_of F sc_in_second_half (fun _ _ _ _ _ _ us hl => match us, hl with | [_], _ => rfl) p1_len fun f cdv A outer s H E hr => ⟨_, (pss_one (ps_ret (pe_or (pe_cmpR op_lt (pe_ix (show IxR _ (rIxT K) from ix_tup) (pv 0) pe_int (fun _ _ => rfl)) pe_int (nomark _)) (pe_one (pe_and (pe_cmpR op_eq (pe_ix (show IxR _ (rIxT K) from ix_tup) (pv 0) pe_int (fun _ _ => rfl)) pe_int (nomark _)) (pe_one (pe_cmpR op_lt (pe_ix (show IxR _ (rIxT K) from ix_tup) (pv 0) pe_int (fun _ _ => rfl)) pe_int (nomark _)))))))), fun B ds hp => ?_⟩
  obtain ⟨_, rfl, u, v, rfl, _⟩ := p1_ex hp
  show WS K B _ [.val (.tup [.int u, .int v])] _
  try dsimp only [cxOf, Cx.nox, Cx.blk]
  repeat walk_at "dl"
  refine ro_ixT (d := .int v) rfl ?_
  repeat walk_at "dl"
  refine ite2 (fun h => ?_) (fun h => ?_)
  · show D.bl true = D.bl (sec u v)
    unfold sec
    rw [h, Bool.true_or]
  · repeat walk_at "dl"
    refine ro_ixT (d := .int v) rfl ?_
    repeat walk_at "dl"
    refine ite2 (fun h2 => ?_) (fun h2 => ?_)
    · repeat walk_at "dl"
      refine ro_ixT (d := .int u) rfl ?_
      repeat walk_at "dl"
      show D.bl _ = D.bl (sec u v)
      unfold sec
      rw [Bool.eq_false_iff.mpr h, h2, Bool.false_or, Bool.true_and]
    · show D.bl false = D.bl (sec u v)
      unfold sec
      rw [Bool.eq_false_iff.mpr h, Bool.eq_false_iff.mpr h2, Bool.false_or, Bool.false_and]
abbrev s_stands_ahead : Stmt := topS 16
abbrev N_stands_ahead : List Str := ["one", "other"]
theorem sc_stands_ahead : FnScope N_stands_ahead ["one", "other"] (defScope s_stands_ahead) := ⟨rfl, rfl, rfl, by decide +kernel, rfl, by decide +kernel, by decide +kernel⟩
abbrev ClSa (P : Program) (w : World) (K : PySem.W.Frag) (mg : Str → Option Value) (base : Heap) (k : Nat) := Cl P w K mg base k "stands_ahead" s_stands_ahead ["one", "other"] (SpD K (p2 fun a b => Pa2 a ∧ Pa2 b) fun ds r => r = f2 ahdF ds)
theorem ok_stands_ahead {k : Nat} (F : Df K mg "stands_ahead" s_stands_ahead) (C_in_second_half : ClSh P w K mg base k) (C_cross : ClCr P w K mg base k) : ClSa P w K mg base (k + 1) := by
  refine cl_of F sc_stands_ahead (fun _ _ _ _ _ _ us hl => match us, hl with | [_, _], _ => rfl) p2_len fun f cdv A outer s H E hr => ⟨_, (pss_cons (ps_if (pt_cmpR op_ne (pe_c C_in_second_half hr (by omega) (by rfl) (pa_cons (pv 0) pa_nil)) (pe_c C_in_second_half hr (by omega) (by rfl) (pa_cons (pv 1) pa_nil)) (nomark _)) (pss_one (ps_ret (pe_c C_in_second_half hr (by omega) (by rfl) (pa_cons (pv 1) pa_nil)))) pss_nil)
      (pss_one (ps_ret (pe_cmpR op_gt (pe_c C_cross hr (by omega) (by rfl) (pa_cons (pv 0) (pa_cons (pv 1) pa_nil))) pe_int (nomark _))))), fun B ds hp => ?_⟩
  obtain ⟨_, _, rfl, h1, h2⟩ := p2_ex hp
  obtain ⟨u, v, rfl, _⟩ := id h1
  obtain ⟨x, y, rfl, _⟩ := id h2
  show WS K B _ [.val (.tup [.int u, .int v]), .val (.tup [.int x, .int y])] _
  try dsimp only [cxOf, Cx.nox, Cx.blk]
  repeat walk_at "dl"
  refine ⟨h1, ?_⟩
  repeat walk_at "dl"
  refine ⟨h2, ?_⟩
  dsimp only [f1, secF]
  repeat walk_at "dl"
  refine ite2 (fun h => ?_) (fun h => ?_)
  · repeat walk_at "dl"
    refine ⟨h2, ?_⟩
    show D.bl (sec x y) = D.bl (ahd u v x y)
    unfold ahd
    have e : (sec u v != sec x y) = true := by
      cases ha : sec u v <;> cases hb : sec x y <;> rw [ha, hb] at h <;> first | rfl | exact absurd h (by decide)
    rw [if_pos e]
  · repeat walk_at "dl"
    refine ⟨⟨h1, h2⟩, ?_⟩
    dsimp only [f2, crossF]
    repeat walk_at "dl"
    show D.bl _ = D.bl (ahd u v x y)
    unfold ahd
    have e : ¬ (sec u v != sec x y) = true := by
      cases ha : sec u v <;> cases hb : sec x y <;> rw [ha, hb] at h <;> first | exact Bool.false_ne_true | exact absurd rfl h
    rw [if_neg e]

end
/-! #### Qc -/
section
variable {P : Program} {w : World} {K : PySem.W.Frag} {mg : Str → Option Value} {base : Heap}
/-! ### own2 -/
def aD (a b : D) : Bool := match ahdF a b with
  | .bl t => t
  | _ => false
abbrev s_place_in_round : Stmt := topS 17
abbrev N_place_in_round : List Str := ["row", "direction", "low", "high", "middle"]
theorem sc_place_in_round : FnScope N_place_in_round ["row", "direction"] (defScope s_place_in_round) := ⟨rfl, rfl, rfl, by decide +kernel, rfl, by decide +kernel, by decide +kernel⟩
def plcPre : List D → Prop := p2 fun r d => Pa2 d ∧ ∃ xs, r = .lst xs ∧ xs.length ≤ 100 ∧ ∀ x ∈ xs, Pa2 x
def Plc (xs : List D) (d : D) (n : Nat) : Prop := n ≤ xs.length ∧ (∀ m x, n = m + 1 → xs[m]? = some x → aD x d = true) ∧ ∀ x, xs[n]? = some x → aD x d = false
def plcPost : List D → D → Prop := fun ds r => ∃ (xs : List D) (d : D) (n : Nat), ds = [.lst xs, d] ∧ r = .int n ∧ Plc xs d n
abbrev ClPl (P : Program) (w : World) (K : PySem.W.Frag) (mg : Str → Option Value) (base : Heap) (k : Nat) := Cl P w K mg base k "place_in_round" s_place_in_round ["row", "direction"] (SpD K plcPre plcPost)
theorem ahdF_bl {a b : D} (ha : Pa2 a) (hb : Pa2 b) : ahdF a b = .bl (aD a b) := by
  obtain ⟨u, v, rfl, _⟩ := ha
  obtain ⟨x, y, rfl, _⟩ := hb
  rfl
theorem ok_place_in_round {k : Nat} (G : Gn mg) (F : Df K mg "place_in_round" s_place_in_round) (C_stands_ahead : ClSa P w K mg base k) : ClPl P w K mg base (k + 1) := by
  refine cl_of F sc_place_in_round (fun _ _ _ _ _ _ us hl => match us, hl with | [_, _], _ => rfl) p2_len fun f cdv A outer s H E hr => ⟨_, (pss_cons (ps_set (i := 2) sc_place_in_round.nd rfl (Or.inl rfl) pe_int)
      (pss_cons (ps_set (i := 3) sc_place_in_round.nd rfl (Or.inl rfl) (pe_callB (show CallR _ (.builtin "len") (fun xs H Q => ∃ x n, xs = [x] ∧ LenV K x H n ∧ Q (.int n) H) from call_len) (by rfl) G.g_len (by decide +kernel) (pa_cons (pv 0) pa_nil)))
      (pss_cons (ps_while PassesOwn.never (pt_cmpR op_lt (pv 2) (pv 3) (nomark _)) (pss_cons (ps_set (i := 4) sc_place_in_round.nd rfl (Or.inl rfl) (pe_op op_fdivN (pe_op op_add (pv 2) (pv 3)) pe_int))
      (pss_one (ps_if (pt_val (pe_c C_stands_ahead hr (by omega) (by rfl) (pa_cons (pe_ix (show IxR _ (rIxL K) from ix_list) (pv 0) (pv 4) (fun _ _ => rfl)) (pa_cons (pv 1) pa_nil)))) (pss_one (ps_set (i := 2) sc_place_in_round.nd rfl (Or.inl rfl) (pe_op op_add (pv 4) pe_int))) (pss_one (ps_set (i := 3) sc_place_in_round.nd rfl (Or.inl rfl) (pv 4)))))))
      (pss_one (ps_ret (pv 2)))))), fun B ds hp => ?_⟩
  obtain ⟨_, d, rfl, hd, xs, rfl, hl, hx⟩ := p2_ex hp
  show WS K B _ [.val (.lst xs), .val d, .no, .no, .no] _
  try dsimp only [cxOf, Cx.nox, Cx.blk]
  repeat walk_at "dl"
  refine ws_while (fun m δ1 => ∃ (lo hi : Nat) (y : Sd), δ1 = [.val (.lst xs), .val d, .val (.int lo), .val (.int hi), y] ∧ lo ≤ hi ∧ hi ≤ xs.length ∧ (∀ m x, lo = m + 1 → xs[m]? = some x → aD x d = true) ∧ (∀ x, xs[hi]? = some x → aD x d = false) ∧ m = hi - lo) ⟨_, 0, xs.length, .no, rfl, Nat.zero_le _, Nat.le_refl _, (fun m x e => absurd e (by omega)), (fun x e => by rw [List.getElem?_eq_none (Nat.le_refl _)] at e; cases e), rfl⟩ ?_
  rintro m δ1 ⟨lo, hi, y, rfl, h1, h2, h3, h4, rfl⟩
  repeat walk_at "dl"
  refine ite2 (fun h => ?_) (fun h => ?_)
  · have hlt : lo < hi := by have := of_decide_eq_true h; omega
    repeat walk_at "dl"
    refine ro_int ⟨by decide, by decide⟩ ?_
    have em : Int.fdiv ((lo : Int) + hi) 2 = (((lo + hi) / 2 : Nat) : Int) := by
      rw [Int.fdiv_eq_ediv_of_nonneg _ (by decide)]
      omega
    rw [em]
    have hm1 : (lo + hi) / 2 < xs.length := by omega
    generalize hmid : (lo + hi) / 2 = mid at hm1
    repeat walk_at "dl"
    refine ro_ixL (atI_nat (List.getElem?_eq_getElem hm1)) ?_
    repeat walk_at "dl"
    have hxm : Pa2 xs[mid] := hx _ (List.getElem_mem hm1)
    refine ⟨⟨hxm, hd⟩, ?_⟩
    show ∃ c, ahdF xs[mid] d = .bl c ∧ _
    rw [ahdF_bl hxm hd]
    repeat walk_at "dl"
    refine ite2 (fun h5 => ?_) (fun h5 => ?_)
    · repeat walk_at "dl"
      refine ⟨hi - (mid + 1), by omega, mid + 1, hi, _, rfl, by omega, h2, fun m x e ex => ?_, h4, rfl⟩
      have em : m = mid := by omega
      subst em
      rw [List.getElem?_eq_getElem hm1] at ex
      cases ex
      exact h5
    · repeat walk_at "dl"
      refine ⟨mid - lo, by omega, lo, mid, _, rfl, by omega, by omega, h3, fun x ex => ?_, rfl⟩
      rw [List.getElem?_eq_getElem hm1] at ex
      cases ex
      exact Bool.eq_false_iff.mpr h5
  · have hge : lo = hi := by
      have : ¬ (lo : Int) < hi := fun q => h (decide_eq_true q)
      omega
    subst hge
    repeat walk_at "dl"
    exact ⟨xs, d, lo, rfl, rfl, h2, h3, h4⟩

end
/-! #### Qe -/
section
variable {P : Program} {w : World} {K : PySem.W.Frag} {mg : Str → Option Value} {base : Heap}
/-! ### own3 -/
theorem dp_pair {B : Bt} {G H : Hp} (o : Ok B G H) {x : V} {a b : Int} (hx : Dd K B G x (.tup [.int a, .int b])) : Dp K H x (.tuple [.int a, .int b]) := by
  cases hx with
  | tup hg t =>
    cases t with
    | cons h1 t =>
      cases t with
      | cons h2 t =>
        cases t; cases h1; cases h2
        exact .tup (SqT.of (o.u _ _ hg)) (.cons (.int a) (.cons (.int b) .nil))
theorem dp_list1 {B : Bt} {G H : Hp} (o : Ok B G H) {x : V} {a b : Int} (hx : Dd K B G x (.lst [.tup [.int a, .int b]])) : Dp K H x (.list [.tuple [.int a, .int b]]) := by
  cases hx with
  | lst hg t =>
    cases t with
    | cons h1 t =>
      cases t
      exact .lst (SqL.of (o.u _ _ hg)) (.cons (dp_pair o h1) .nil)
theorem ro_ne0 {B : Bt} {Pp : D → Prop} {c e : Int} (p : Pp (.bl true)) : RO K B (rNeD K) (.lst []) (.lst [.tup [.int c, .int e]]) Pp := fun G H x y _ o hx hy q => by
  have h1 : Dp K H x (.list []) := by
    cases hx with
    | lst hg t => cases t; exact .lst (SqL.of (o.u _ _ hg)) .nil
  refine ⟨_, _, h1, dp_list1 o hy, rfl, rfl, ?_⟩
  exact q.nil o (.bl true) p
theorem ro_ne1 {B : Bt} {Pp : D → Prop} {a b c e : Int} (p : Pp (.bl (!decide (a = c ∧ b = e)))) : RO K B (rNeD K) (.lst [.tup [.int a, .int b]]) (.lst [.tup [.int c, .int e]]) Pp := fun G H x y _ o hx hy q => by
  refine ⟨_, _, dp_list1 o hx, dp_list1 o hy, rfl, rfl, ?_⟩
  have ee : PyData.eqv (.list [.tuple [.int a, .int b]]) (.list [.tuple [.int c, .int e]]) = decide (a = c ∧ b = e) := by
    rw [Bool.eq_iff_iff]
    simp [PyData.eqv, PyData.eqvAll]
  rw [ee]
  exact q.nil o (.bl _) p

end
/-! #### Qf -/
section
variable {P : Program} {w : World} {K : PySem.W.Frag} {mg : Str → Option Value} {base : Heap}
/-! ### own4 -/
abbrev PP := Int × Int
def toD (p : PP) : D := .tup [.int p.1, .int p.2]
def ltP (p q : PP) : Bool := ahd p.1 p.2 q.1 q.2
def IsDr (p : PP) : Prop := Nat.gcd p.1.natAbs p.2.natAbs = 1 ∧ -999 ≤ p.1 ∧ p.1 ≤ 999 ∧ -999 ≤ p.2 ∧ p.2 ≤ 999
theorem lt_irr (p : PP) : ltP p p = false := Rm.ahd_irr p.1 p.2
theorem lt_tr (a b c : PP) (ha : IsDr a) (hb : IsDr b) (hc : IsDr c) (h1 : ltP a b = true) (h2 : ltP b c = true) : ltP a c = true := Rm.ahd_trans (Rm.nz_of ha.1) (Rm.nz_of hb.1) (Rm.nz_of hc.1) h1 h2
theorem lt_tot (a b : PP) (ha : IsDr a) (hb : IsDr b) (h1 : ltP a b = false) (h2 : ltP b a = false) : a = b := by
  obtain ⟨e1, e2⟩ := Rm.ahd_total ha.1 hb.1 h1 h2
  exact Prod.ext e1 e2
theorem dr_pa {p : PP} (h : IsDr p) : Pa2 (toD p) := ⟨p.1, p.2, rfl, by unfold IsDr at h; omega, by unfold IsDr at h; omega, by unfold IsDr at h; omega, by unfold IsDr at h; omega⟩
def stp (row : List PP) (d : PP) : List PP := if d ∈ row then row else row.take (row.filter (ltP · d)).length ++ [d] ++ row.drop (row.filter (ltP · d)).length
def rnd (ps : List PP) : List PP := ps.foldl stp []
theorem rnd_snoc (ps : List PP) (p : PP) : rnd (ps ++ [p]) = stp (rnd ps) p := by unfold rnd; rw [List.foldl_append]; rfl
abbrev s_in_round : Stmt := topS 18
abbrev N_in_round : List Str := ["directions", "row", "direction", "at"]
theorem sc_in_round : FnScope N_in_round ["directions"] (defScope s_in_round) := ⟨rfl, rfl, rfl, by decide +kernel, rfl, by decide +kernel, by decide +kernel⟩
def rndPre : List D → Prop := p1 fun r => ∃ ps : List PP, r = .lst (ps.map toD) ∧ ps.length ≤ 100 ∧ ∀ p ∈ ps, IsDr p
def rndPostN : List D → List D → Prop := fun ds es => ∃ ps : List PP, ds = [.lst (ps.map toD)] ∧ es = (rnd ps).map toD ∧ Sm.Srt ltP (rnd ps) ∧ (∀ x ∈ rnd ps, IsDr x) ∧ (rnd ps).length ≤ ps.length
def rndPost : List D → D → Prop := fun ds r => ∃ ps : List PP, ds = [.lst (ps.map toD)] ∧ r = .lst ((rnd ps).map toD) ∧ Sm.Srt ltP (rnd ps) ∧ (∀ x ∈ rnd ps, IsDr x) ∧ (rnd ps).length ≤ ps.length
theorem rnd_frz : ∀ ds es, rndPostN ds es → rndPost ds (.lst es) := fun ds es ⟨ps, e1, e2, h⟩ => ⟨ps, e1, by rw [e2], h⟩
abbrev ClRnd (P : Program) (w : World) (K : PySem.W.Frag) (mg : Str → Option Value) (base : Heap) (k : Nat) := Cl P w K mg base k "in_round" s_in_round ["directions"] (SpN K rndPre rndPostN)
theorem cut_at (row : List PP) (n : Nat) (hn : n ≤ row.length) : Dl.cutD (row.map toD) (some (n : Int)) (some ((n : Int) + 1)) = (row[n]?.toList).map toD := by
  unfold Dl.cutD
  rw [HT.sIx_nat, show ((n : Int) + 1) = ((n + 1 : Nat) : Int) from rfl, HT.sIx_nat, List.length_map]
  by_cases h : n < row.length
  · rw [show min n row.length = n by omega, show min (n + 1) row.length = n + 1 by omega, show n + 1 - n = 1 by omega, ← List.map_drop, ← List.map_take, List.getElem?_eq_getElem h, List.drop_eq_getElem_cons h]
    rfl
  · rw [show min n row.length = row.length by omega, show min (n + 1) row.length = row.length by omega, Nat.sub_self, List.take_zero, List.getElem?_eq_none (by omega)]
    rfl
theorem ok_in_round {k : Nat} (G : Gn mg) (F : Df K mg "in_round" s_in_round) (C_place_in_round : ClPl P w K mg base k) : ClRnd P w K mg base (k + 1) := by
  refine cln_of F sc_in_round (fun _ _ _ _ _ _ us hl => match us, hl with | [_], _ => rfl) p1_len fun f cdv A outer s H E hr => ⟨_, (pss_cons (ps_set (i := 1) sc_in_round.nd rfl (Or.inl rfl) (pe_lst pa_nil))
      (pss_cons (ps_for PassesOwn.never rfl (pi_list (pv 0)) (pg_name (i := 2) sc_in_round.nd rfl (Or.inl rfl)) (pss_cons (ps_set (i := 3) sc_in_round.nd rfl (Or.inl rfl) (pe_c C_place_in_round hr (by omega) (by rfl) (pa_cons (pv 1) (pa_cons (pv 2) pa_nil))))
      (pss_one (ps_if (pt_cmpR (op_neD hr.units) (pe_slice sl_list (pv 1) (po_some (pv 3)) (po_some (pe_op op_add (pv 3) pe_int))) (pe_lst (pa_cons (pv 2) pa_nil)) (nomark _)) (pss_one (ps_expr (pe_bm PySem.F.plainAttrs_list PySem.F.slot_list_insert PySem.F.type_list_insert mt_insert (pv 1) (pa_cons (pv 3) (pa_cons (pv 2) pa_nil))))) pss_nil))))
      (pss_one (ps_ret (pv 1))))), fun B ds hp => ?_⟩
  obtain ⟨_, rfl, ps, rfl, hlen, hps⟩ := p1_ex hp
  show WS K B _ [.val (.lst (ps.map toD)), .no, .no, .no] _
  try dsimp only [cxOf, Cx.nox, Cx.blk]
  refine ws_seq (ws_setOwn (wa_nil ⟨by decide, ?_⟩))
  dsimp only [List.set]
  refine ws_seq (ws_for (wi_list (we_var rfl ⟨_, rfl, fun i δ1 => ∃ (row : List PP) (y2 y3 : Sd), δ1 = [.val (.lst (ps.map toD)), .own (row.map toD), y2, y3] ∧ row = rnd (ps.take i) ∧ Sm.Srt ltP row ∧ (∀ x ∈ row, IsDr x) ∧ row.length ≤ i, ⟨[], .no, .no, rfl, rfl, List.Pairwise.nil, (fun _ z => nomatch z), Nat.le_refl _⟩, ?_, ?_⟩)))
  · rintro i d δ1 hi ⟨row, y2, y3, rfl, er, hs, hD, hl⟩
    rw [List.getElem?_map] at hi
    obtain ⟨p, hp1, rfl⟩ : ∃ p, ps[i]? = some p ∧ toD p = d := by
      cases e : ps[i]? with
      | none => rw [e] at hi; cases hi
      | some p => rw [e] at hi; exact ⟨p, rfl, Option.some.inj hi⟩
    have hdp : IsDr p := hps p (List.mem_of_getElem? hp1)
    have hi' : i < ps.length := (List.getElem?_eq_some_iff.mp hp1).1
    have enext : rnd (ps.take (i + 1)) = stp row p := by rw [er, List.take_add_one, hp1]; exact rnd_snoc _ _
    dsimp only [List.set]
    refine ws_seq (ws_set (we_callOwn (i := 1) rfl ?_))
    repeat walk_at "dl"
    refine ⟨⟨dr_pa hdp, _, rfl, by rw [List.length_map]; omega, fun x hx => ?_⟩, ?_⟩
    · obtain ⟨q, hq, rfl⟩ := List.mem_map.mp hx
      exact dr_pa (hD q hq)
    rintro _ ⟨xs, dd, n, e, rfl, hP⟩
    cases e
    refine ⟨rfl, ?_⟩
    have hp2 : Sm.Plc ltP row p n := by
      obtain ⟨q1, q2, q3⟩ := hP
      rw [List.length_map] at q1
      exact ⟨q1, fun m x em ex => q2 m (toD x) em (by rw [List.getElem?_map, ex]; rfl), fun x ex => q3 (toD x) (by rw [List.getElem?_map, ex]; rfl)⟩
    have hcount := Sm.count_plc lt_tr hs hD hdp hp2
    have hmem := Sm.mem_plc lt_irr lt_tr hs hD hdp hp2
    dsimp only [List.set]
    refine ws_if (wt_test (we_op (we_ownSl (i := 1) rfl ?_)))
    repeat walk_at "dl"
    rw [cut_at row n hp2.1]
    -- the row with one more, or as it is
    have put : ∀ bk ct : List Sd → Prop, p ∉ row → WS K B (tDrop (tBM K "list" (fun x vs H Q => ∃ (l : Addr) (xs : List V) (i : Int) (y : V), x = .ref l ∧ vs = [.int i, y] ∧ H l = some (.lst xs) ∧ xs.length < sizeLine ∧ 0 ≤ i ∧ i < 2 ^ 63 ∧ Q .non (upd H l (.lst (xs.take i.toNat ++ [y] ++ xs.drop i.toNat)))) (tVar 1) (tCons (tVar 3) (tCons (tVar 2) tNil)))) [.val (.lst (ps.map toD)), .own (row.map toD), .val (toD p), .val (.int (n : Int))] { nx := fun δ1 => ∃ (row : List PP) (y2 y3 : Sd), δ1 = [.val (.lst (ps.map toD)), .own (row.map toD), y2, y3] ∧ row = rnd (ps.take (i + 1)) ∧ Sm.Srt ltP row ∧ (∀ x ∈ row, IsDr x) ∧ row.length ≤ i + 1, rt := fun _ => False, bk := bk, ct := ct, ro := rndPostN [.lst (ps.map toD)] } := by
      intro bk ct hn
      refine ws_insert (i := 1) rfl rfl (by rw [List.length_map]; omega) (we_var rfl ⟨n, rfl, by have := hp2.1; omega, we_var rfl ?_⟩)
      refine ⟨row.take n ++ [p] ++ row.drop n, .val (toD p), .val (.int (n : Int)), ?_, ?_, Sm.ins_srt lt_tr lt_tot hs hD hdp hp2 hn, fun x hx => ?_, ?_⟩
      · dsimp only [List.set]
        rw [List.map_append, List.map_append, List.map_take, List.map_drop]
        rfl
      · rw [enext]
        unfold stp
        rw [if_neg hn, hcount]
      · rcases List.mem_append.mp hx with hx | hx
        · rcases List.mem_append.mp hx with hx | hx
          · exact hD x (List.mem_of_mem_take hx)
          · rw [List.mem_singleton.mp hx]; exact hdp
        · exact hD x (List.mem_of_mem_drop hx)
      · simp only [List.length_append, List.length_take, List.length_drop, List.length_cons, List.length_nil]
        omega
    cases ex : row[n]? with
    | none =>
      have hn : p ∉ row := fun z => by rw [hmem.mp z] at ex; cases ex
      refine ro_ne0 ⟨true, rfl, ?_⟩
      exact put _ _ hn
    | some q =>
      refine ro_ne1 ⟨_, rfl, ?_⟩
      refine ite2 (fun h => ?_) (fun h => ?_)
      · refine put _ _ fun z => ?_
        rw [hmem.mp z] at ex
        cases ex
        simp at h
      · have hq : q = p := by
          have h' : q.1 = p.1 ∧ q.2 = p.2 := by
            rcases Classical.em (q.1 = p.1 ∧ q.2 = p.2) with z | z
            · exact z
            · exact absurd (by rw [decide_eq_false z]; rfl) h
          exact Prod.ext h'.1 h'.2
        subst hq
        have hin : q ∈ row := hmem.mpr ex
        refine ws_next ⟨row, _, _, rfl, ?_, hs, hD, by omega⟩
        rw [enext]
        unfold stp
        rw [if_pos hin]
  · rintro δ1 ⟨row, y2, y3, rfl, er, hs, hD, hl⟩
    rw [List.length_map, List.take_length] at er
    subst er
    refine ws_retOwn (i := 1) rfl ⟨ps, rfl, rfl, hs, hD, by rw [List.length_map] at hl; exact hl⟩

end
/-! #### Qg -/
section
variable {P : Program} {w : World} {K : PySem.W.Frag} {mg : Str → Option Value} {base : Heap}
/-! ### own4, of a tuple -/
def rndPreT : List D → Prop := p1 fun r => ∃ ps : List PP, r = .tup (ps.map toD) ∧ ps.length ≤ 100 ∧ ∀ p ∈ ps, IsDr p
def rndPostTN : List D → List D → Prop := fun ds es => ∃ ps : List PP, ds = [.tup (ps.map toD)] ∧ es = (rnd ps).map toD ∧ Sm.Srt ltP (rnd ps) ∧ (∀ x ∈ rnd ps, IsDr x) ∧ (rnd ps).length ≤ ps.length
def rndPostT : List D → D → Prop := fun ds r => ∃ ps : List PP, ds = [.tup (ps.map toD)] ∧ r = .lst ((rnd ps).map toD) ∧ Sm.Srt ltP (rnd ps) ∧ (∀ x ∈ rnd ps, IsDr x) ∧ (rnd ps).length ≤ ps.length
theorem rnd_frzT : ∀ ds es, rndPostTN ds es → rndPostT ds (.lst es) := fun ds es ⟨ps, e1, e2, h⟩ => ⟨ps, e1, by rw [e2], h⟩
abbrev ClRndT (P : Program) (w : World) (K : PySem.W.Frag) (mg : Str → Option Value) (base : Heap) (k : Nat) := Cl P w K mg base k "in_round" s_in_round ["directions"] (SpN K rndPreT rndPostTN)
theorem ok_in_roundT {k : Nat} (G : Gn mg) (F : Df K mg "in_round" s_in_round) (C_place_in_round : ClPl P w K mg base k) : ClRndT P w K mg base (k + 1) := by
  refine cln_of F sc_in_round (fun _ _ _ _ _ _ us hl => match us, hl with | [_], _ => rfl) p1_len fun f cdv A outer s H E hr => ⟨_, (pss_cons (ps_set (i := 1) sc_in_round.nd rfl (Or.inl rfl) (pe_lst pa_nil))
      (pss_cons (ps_for PassesOwn.never rfl (pi_tup (pv 0)) (pg_name (i := 2) sc_in_round.nd rfl (Or.inl rfl)) (pss_cons (ps_set (i := 3) sc_in_round.nd rfl (Or.inl rfl) (pe_c C_place_in_round hr (by omega) (by rfl) (pa_cons (pv 1) (pa_cons (pv 2) pa_nil))))
      (pss_one (ps_if (pt_cmpR (op_neD hr.units) (pe_slice sl_list (pv 1) (po_some (pv 3)) (po_some (pe_op op_add (pv 3) pe_int))) (pe_lst (pa_cons (pv 2) pa_nil)) (nomark _)) (pss_one (ps_expr (pe_bm PySem.F.plainAttrs_list PySem.F.slot_list_insert PySem.F.type_list_insert mt_insert (pv 1) (pa_cons (pv 3) (pa_cons (pv 2) pa_nil))))) pss_nil))))
      (pss_one (ps_ret (pv 1))))), fun B ds hp => ?_⟩
  obtain ⟨_, rfl, ps, rfl, hlen, hps⟩ := p1_ex hp
  show WS K B _ [.val (.tup (ps.map toD)), .no, .no, .no] _
  try dsimp only [cxOf, Cx.nox, Cx.blk]
  refine ws_seq (ws_setOwn (wa_nil ⟨by decide, ?_⟩))
  dsimp only [List.set]
  refine ws_seq (ws_for (wi_tup (we_var rfl ⟨_, rfl, fun i δ1 => ∃ (row : List PP) (y2 y3 : Sd), δ1 = [.val (.tup (ps.map toD)), .own (row.map toD), y2, y3] ∧ row = rnd (ps.take i) ∧ Sm.Srt ltP row ∧ (∀ x ∈ row, IsDr x) ∧ row.length ≤ i, ⟨[], .no, .no, rfl, rfl, List.Pairwise.nil, (fun _ z => nomatch z), Nat.le_refl _⟩, ?_, ?_⟩)))
  · rintro i d δ1 hi ⟨row, y2, y3, rfl, er, hs, hD, hl⟩
    rw [List.getElem?_map] at hi
    obtain ⟨p, hp1, rfl⟩ : ∃ p, ps[i]? = some p ∧ toD p = d := by
      cases e : ps[i]? with
      | none => rw [e] at hi; cases hi
      | some p => rw [e] at hi; exact ⟨p, rfl, Option.some.inj hi⟩
    have hdp : IsDr p := hps p (List.mem_of_getElem? hp1)
    have hi' : i < ps.length := (List.getElem?_eq_some_iff.mp hp1).1
    have enext : rnd (ps.take (i + 1)) = stp row p := by rw [er, List.take_add_one, hp1]; exact rnd_snoc _ _
    dsimp only [List.set]
    refine ws_seq (ws_set (we_callOwn (i := 1) rfl ?_))
    repeat walk_at "dl"
    refine ⟨⟨dr_pa hdp, _, rfl, by rw [List.length_map]; omega, fun x hx => ?_⟩, ?_⟩
    · obtain ⟨q, hq, rfl⟩ := List.mem_map.mp hx
      exact dr_pa (hD q hq)
    rintro _ ⟨xs, dd, n, e, rfl, hP⟩
    cases e
    refine ⟨rfl, ?_⟩
    have hp2 : Sm.Plc ltP row p n := by
      obtain ⟨q1, q2, q3⟩ := hP
      rw [List.length_map] at q1
      exact ⟨q1, fun m x em ex => q2 m (toD x) em (by rw [List.getElem?_map, ex]; rfl), fun x ex => q3 (toD x) (by rw [List.getElem?_map, ex]; rfl)⟩
    have hcount := Sm.count_plc lt_tr hs hD hdp hp2
    have hmem := Sm.mem_plc lt_irr lt_tr hs hD hdp hp2
    dsimp only [List.set]
    refine ws_if (wt_test (we_op (we_ownSl (i := 1) rfl ?_)))
    repeat walk_at "dl"
    rw [cut_at row n hp2.1]
    -- the row with one more, or as it is
    have put : ∀ bk ct : List Sd → Prop, p ∉ row → WS K B (tDrop (tBM K "list" (fun x vs H Q => ∃ (l : Addr) (xs : List V) (i : Int) (y : V), x = .ref l ∧ vs = [.int i, y] ∧ H l = some (.lst xs) ∧ xs.length < sizeLine ∧ 0 ≤ i ∧ i < 2 ^ 63 ∧ Q .non (upd H l (.lst (xs.take i.toNat ++ [y] ++ xs.drop i.toNat)))) (tVar 1) (tCons (tVar 3) (tCons (tVar 2) tNil)))) [.val (.tup (ps.map toD)), .own (row.map toD), .val (toD p), .val (.int (n : Int))] { nx := fun δ1 => ∃ (row : List PP) (y2 y3 : Sd), δ1 = [.val (.tup (ps.map toD)), .own (row.map toD), y2, y3] ∧ row = rnd (ps.take (i + 1)) ∧ Sm.Srt ltP row ∧ (∀ x ∈ row, IsDr x) ∧ row.length ≤ i + 1, rt := fun _ => False, bk := bk, ct := ct, ro := rndPostTN [.tup (ps.map toD)] } := by
      intro bk ct hn
      refine ws_insert (i := 1) rfl rfl (by rw [List.length_map]; omega) (we_var rfl ⟨n, rfl, by have := hp2.1; omega, we_var rfl ?_⟩)
      refine ⟨row.take n ++ [p] ++ row.drop n, .val (toD p), .val (.int (n : Int)), ?_, ?_, Sm.ins_srt lt_tr lt_tot hs hD hdp hp2 hn, fun x hx => ?_, ?_⟩
      · dsimp only [List.set]
        rw [List.map_append, List.map_append, List.map_take, List.map_drop]
        rfl
      · rw [enext]
        unfold stp
        rw [if_neg hn, hcount]
      · rcases List.mem_append.mp hx with hx | hx
        · rcases List.mem_append.mp hx with hx | hx
          · exact hD x (List.mem_of_mem_take hx)
          · rw [List.mem_singleton.mp hx]; exact hdp
        · exact hD x (List.mem_of_mem_drop hx)
      · simp only [List.length_append, List.length_take, List.length_drop, List.length_cons, List.length_nil]
        omega
    cases ex : row[n]? with
    | none =>
      have hn : p ∉ row := fun z => by rw [hmem.mp z] at ex; cases ex
      refine ro_ne0 ⟨true, rfl, ?_⟩
      exact put _ _ hn
    | some q =>
      refine ro_ne1 ⟨_, rfl, ?_⟩
      refine ite2 (fun h => ?_) (fun h => ?_)
      · refine put _ _ fun z => ?_
        rw [hmem.mp z] at ex
        cases ex
        simp at h
      · have hq : q = p := by
          have h' : q.1 = p.1 ∧ q.2 = p.2 := by
            rcases Classical.em (q.1 = p.1 ∧ q.2 = p.2) with z | z
            · exact z
            · exact absurd (by rw [decide_eq_false z]; rfl) h
          exact Prod.ext h'.1 h'.2
        subst hq
        have hin : q ∈ row := hmem.mpr ex
        refine ws_next ⟨row, _, _, rfl, ?_, hs, hD, by omega⟩
        rw [enext]
        unfold stp
        rw [if_pos hin]
  · rintro δ1 ⟨row, y2, y3, rfl, er, hs, hD, hl⟩
    rw [List.length_map, List.take_length] at er
    subst er
    refine ws_retOwn (i := 1) rfl ⟨ps, rfl, rfl, hs, hD, by rw [List.length_map] at hl; exact hl⟩

end
/-! #### Qh -/
section
variable {P : Program} {w : World} {K : PySem.W.Frag} {mg : Str → Option Value} {base : Heap}
/-! ### own5 -/
/-! pairs, deeply compared -/
def toP (p : PP) : PyData := .tuple [.int p.1, .int p.2]
theorem eqv_toP (p q : PP) : PyData.eqv (toP p) (toP q) = decide (p = q) := by
  rw [Bool.eq_iff_iff]
  unfold toP
  simp [PyData.eqv, PyData.eqvAll, Prod.ext_iff]
theorem eqv_toPs : ∀ ps qs : List PP, PyData.eqvAll (ps.map toP) (qs.map toP) = decide (ps = qs)
  | [], [] => by simp [PyData.eqvAll]
  | [], _ :: _ => by simp [PyData.eqvAll]
  | _ :: _, [] => by simp [PyData.eqvAll]
  | p :: ps, q :: qs => by
    rw [List.map_cons, List.map_cons, PyData.eqvAll, eqv_toP, eqv_toPs ps qs]
    simp [Bool.eq_iff_iff]
theorem sh_toP (p : PP) : SeqAt.shaped (toP p) = true := by
  unfold toP SeqAt.shaped
  simp [PyData.canLay0, PyData.canLayAll0, PyData.depth, PyData.depthAll]
theorem lay_toPs : ∀ ps : List PP, PyData.canLayAll0 (ps.map toP) = true
  | [] => rfl
  | p :: ps => by
    rw [List.map_cons, PyData.canLayAll0, lay_toPs ps]
    unfold toP
    simp [PyData.canLay0, PyData.canLayAll0]
theorem dep_toPs : ∀ ps : List PP, PyData.depthAll (ps.map toP) ≤ 2
  | [] => by simp [PyData.depthAll]
  | p :: ps => by
    rw [List.map_cons, PyData.depthAll]
    have := dep_toPs ps
    unfold toP at this ⊢
    simp [PyData.depth, PyData.depthAll] at this ⊢
    omega
theorem sh_toPs (ps : List PP) : SeqAt.shaped (.list (ps.map toP)) = true := by
  unfold SeqAt.shaped
  rw [Bool.and_eq_true, decide_eq_true_eq]
  refine ⟨by rw [PyData.canLay0]; exact lay_toPs ps, ?_⟩
  rw [PyData.depth]
  have := dep_toPs ps
  omega
theorem dpa_toPs {B : Bt} {G H : Hp} (o : Ok B G H) : ∀ (ps : List PP) {vs : List V}, Dds K B G vs (ps.map toD) → DpAll K H vs (ps.map toP)
  | [], _, .nil => .nil
  | _ :: ps, _, .cons h t => .cons (dp_pair o h) (dpa_toPs o ps t)
theorem dp_toPs {B : Bt} {G H : Hp} (o : Ok B G H) {ps : List PP} {x : V} (hx : Dd K B G x (.lst (ps.map toD))) : Dp K H x (.list (ps.map toP)) := by
  generalize e : D.lst (ps.map toD) = d at hx
  cases hx with
  | lst hg t => cases e; exact .lst (SqL.of (o.u _ _ hg)) (dpa_toPs o ps t)
  | _ => cases e
section
variable {B : Bt} {Pp : D → Prop}
theorem ro_inPL {p : PP} {ps : List PP} (h : Pp (.bl (decide (p ∈ ps)))) : RO K B (rInD K) (toD p) (.lst (ps.map toD)) Pp := fun G H x y _ o hx hy q => by
  refine ⟨toP p, ps.map toP, dp_pair o hx, dp_toPs o hy, sh_toP p, sh_toPs ps, ?_⟩
  have e : ((ps.map toP).any fun z => PyData.eqv z (toP p)) = decide (p ∈ ps) := by
    rw [Bool.eq_iff_iff, List.any_map, List.any_eq_true, decide_eq_true_eq]
    constructor
    · rintro ⟨z, hz, e⟩
      have e' : PyData.eqv (toP z) (toP p) = true := e
      rw [eqv_toP] at e'
      rw [← of_decide_eq_true e']; exact hz
    · intro hz
      exact ⟨p, hz, by show PyData.eqv (toP p) (toP p) = true; rw [eqv_toP]; exact decide_eq_true rfl⟩
  rw [e]
  exact q.nil o (.bl _) h
theorem ro_niPL {p : PP} {ps : List PP} (h : Pp (.bl (!decide (p ∈ ps)))) : RO K B (rNotInD K) (toD p) (.lst (ps.map toD)) Pp := fun G H x y _ o hx hy q => by
  refine ⟨toP p, ps.map toP, dp_pair o hx, dp_toPs o hy, sh_toP p, sh_toPs ps, ?_⟩
  have e : ((ps.map toP).any fun z => PyData.eqv z (toP p)) = decide (p ∈ ps) := by
    rw [Bool.eq_iff_iff, List.any_map, List.any_eq_true, decide_eq_true_eq]
    constructor
    · rintro ⟨z, hz, e⟩
      have e' : PyData.eqv (toP z) (toP p) = true := e
      rw [eqv_toP] at e'
      rw [← of_decide_eq_true e']; exact hz
    · intro hz
      exact ⟨p, hz, by show PyData.eqv (toP p) (toP p) = true; rw [eqv_toP]; exact decide_eq_true rfl⟩
  rw [e]
  exact q.nil o (.bl _) h
theorem ro_eqPL {ps qs : List PP} (h : Pp (.bl (decide (ps = qs)))) : RO K B (rEqD K) (.lst (ps.map toD)) (.lst (qs.map toD)) Pp := fun G H x y _ o hx hy q => by
  refine ⟨_, _, dp_toPs o hx, dp_toPs o hy, sh_toPs ps, sh_toPs qs, ?_⟩
  rw [PyData.eqv, eqv_toPs]
  exact q.nil o (.bl _) h
theorem ro_nePL {ps qs : List PP} (h : Pp (.bl (!decide (ps = qs)))) : RO K B (rNeD K) (.lst (ps.map toD)) (.lst (qs.map toD)) Pp := fun G H x y _ o hx hy q => by
  refine ⟨_, _, dp_toPs o hx, dp_toPs o hy, sh_toPs ps, sh_toPs qs, ?_⟩
  rw [PyData.eqv, eqv_toPs]
  exact q.nil o (.bl _) h
theorem ro_eqP {a b c d : Int} (h : Pp (.bl (decide ((a, b) = (c, d))))) : RO K B (rEqD K) (.tup [.int a, .int b]) (.tup [.int c, .int d]) Pp := fun G H x y _ o hx hy q => by
  refine ⟨toP (a, b), toP (c, d), dp_pair o hx, dp_pair o hy, sh_toP _, sh_toP _, ?_⟩
  rw [eqv_toP]
  exact q.nil o (.bl _) h
end
/-! the next one in the round -/
def nxtP (row : List PP) (p : PP) : PP := if p ∈ row then p else ((row.filter (ltP p ·)) ++ row).headD p
theorem beh_filter {row : List PP} {p : PP} {n : Nat} (hs : Sm.Srt ltP row) (hD : ∀ x ∈ row, IsDr x) (hd : IsDr p) (h : Sm.Plc ltP row p n) (hn : p ∉ row) : row.filter (ltP p ·) = row.drop n := by
  have f1 : (row.take n).filter (ltP p ·) = [] := List.filter_eq_nil_iff.mpr fun x hx => by
    obtain ⟨i, hi, ex⟩ := List.mem_iff_getElem.mp hx
    rw [List.length_take] at hi
    rw [List.getElem_take] at ex
    have b := Sm.before (D := IsDr) lt_tr hs hD hd h (i := i) (by omega) (by rw [List.getElem?_eq_getElem (by omega), ex])
    intro c
    have hx' : IsDr x := hD x (List.mem_of_mem_take hx)
    have := lt_tr x p x hx' hd hx' b c
    rw [lt_irr] at this; cases this
  have f2 : (row.drop n).filter (ltP p ·) = row.drop n := List.filter_eq_self.mpr fun x hx => by
    obtain ⟨i, hi, ex⟩ := List.mem_iff_getElem.mp hx
    rw [List.length_drop] at hi
    rw [List.getElem_drop] at ex
    have b := Sm.behind (D := IsDr) lt_tr hs hD hd h (i := n + i) (by omega) (by rw [List.getElem?_eq_getElem (by omega), ex])
    cases c : ltP p x with
    | true => rfl
    | false =>
      have hx' := List.mem_of_mem_drop hx
      have e := lt_tot x p (hD x hx') hd b c
      exact absurd (e ▸ hx') hn
  conv => lhs; rw [← List.take_append_drop n row]
  rw [List.filter_append, f1, f2, List.nil_append]
theorem nxt_at {row : List PP} {p q : PP} {n : Nat} (hs : Sm.Srt ltP row) (hD : ∀ x ∈ row, IsDr x) (hd : IsDr p) (h : Sm.Plc ltP row p n) (e : row[n]? = some q) : q = nxtP row p := by
  unfold nxtP
  by_cases hm : p ∈ row
  · rw [if_pos hm]
    have := (Sm.mem_plc lt_irr lt_tr hs hD hd h).mp hm
    rw [e] at this
    exact Option.some.inj this
  · rw [if_neg hm, beh_filter hs hD hd h hm]
    have hl : n < row.length := (List.getElem?_eq_some_iff.mp e).1
    rw [List.drop_eq_getElem_cons hl]
    rw [List.getElem?_eq_getElem hl] at e
    exact (Option.some.inj e).symm
theorem nxt_end {row : List PP} {p q : PP} {n : Nat} (hs : Sm.Srt ltP row) (hD : ∀ x ∈ row, IsDr x) (hd : IsDr p) (h : Sm.Plc ltP row p n) (hn : row.length ≤ n) (e : row[0]? = some q) : q = nxtP row p := by
  unfold nxtP
  have hm : p ∉ row := fun z => by
    have := (Sm.mem_plc lt_irr lt_tr hs hD hd h).mp z
    rw [List.getElem?_eq_none hn] at this; cases this
  rw [if_neg hm, beh_filter hs hD hd h hm, List.drop_eq_nil_of_le hn, List.nil_append]
  cases row with
  | nil => cases e
  | cons x r => exact (Option.some.inj e).symm
theorem isDir_toD {p : PP} (h : IsDr p) : isDir (toD p) = true := by
  obtain ⟨h0, h1, h2, h3, h4⟩ := h
  unfold isDir isBnd gcdD toD
  simp only [Bool.and_eq_true, decide_eq_true_eq]
  refine ⟨?_, ?_⟩
  · simp [isNumPair, inB, isNum, h1, h2, h3, h4]
  · show ((Nat.gcd p.1.natAbs p.2.natAbs : Nat) : Int) = 1
    rw [h0]; rfl
theorem isDir_ex {d : D} (h : isDir d = true) : ∃ p : PP, d = toD p ∧ IsDr p := by
  unfold isDir at h
  rw [Bool.and_eq_true, decide_eq_true_eq] at h
  obtain ⟨x, y, rfl, h1, h2, h3, h4⟩ := bnd_pair h.1
  refine ⟨(x, y), rfl, ?_, h1, h2, h3, h4⟩
  have := h.2
  show Nat.gcd x.natAbs y.natAbs = 1
  have e : gcdD (.tup [.int x, .int y]) = Nat.gcd x.natAbs y.natAbs := rfl
  rw [e] at this
  omega
theorem sm_toD (p : PP) : sm (toD p) = true := by
  unfold toD
  simp [sm, sms]

end
/-! #### Qi -/
section
variable {P : Program} {w : World} {K : PySem.W.Frag} {mg : Str → Option Value} {base : Heap}
/-! ### own6 -/
theorem rc_lenL {B : Bt} {Pp : D → Prop} {ds : List D} {n : Nat} (e : ds.length = n) (l : n ≤ 100000) (p : Pp (.int n)) : RC K B (fun xs H Q => ∃ x n, xs = [x] ∧ LenV K x H n ∧ Q (.int n) H) [.lst ds] Pp := rc_len (by rw [← e]; rfl) l p
/-! ### InvalidDirection -/
abbrev s_InvalidDirection : Stmt := inClass (topS 3) 0
theorem sc_InvalidDirection : FnScope ["self", "value"] ["self", "value"] (defScope s_InvalidDirection) := ⟨rfl, rfl, rfl, by decide +kernel, rfl, by decide +kernel, by decide +kernel⟩
def mkID (ws : List V) : List (Str × V) := [("code", .str "InvalidDirection"), ("value", ws.headD .non)]
abbrev RzD (P : Program) (w : World) (K : PySem.W.Frag) (mg : Str → Option Value) (base : Heap) (k : Nat) (C : Addr) := Rz P w K mg base k "InvalidDirection" C 1 mkID
theorem ok_InvalidDirection {k : Nat} {C : Addr} (E : Er K mg "InvalidDirection" "InvalidDirection.__init__" C s_InvalidDirection ["value", "code"]) : RzD P w K mg base (k + 1) C :=
  rz1 E sc_InvalidDirection (by decide) (by decide) (fun _ _ _ _ _ _ us hl => match us, hl with | [_, _], _ => rfl) rfl (fun _ _ _ _ _ _ _ => rfl) (fun _ _ _ _ _ _ _ => rfl)
theorem mkID_dd {B : Bt} {G : Hp} {ws : List V} {ds : List D} (h : Dds K B G ws ds) (l : ws.length = 1) : Dds K B G ((mkID ws).map (·.2)) [.str "InvalidDirection", ds.headD .non] := by
  cases h with
  | nil => cases l
  | cons h t =>
    cases t with
    | nil => exact .cons (.str _) (.cons h .nil)
    | cons _ _ => simp at l
def excD (C : Addr) (x : D) : Addr → List Str → List D → Prop := fun C' ks es => C' = C ∧ ks = [("code" : Str), "value"] ∧ es = [.str "InvalidDirection", x]
theorem ws_raiseD {B : Bt} {δ : List Sd} {O : Out} {C : Addr} {t : TA} (h : WAx K B O.x t δ fun ds => ∃ x, ds = [x] ∧ O.x.ex δ C [("code" : Str), "value"] [.str "InvalidDirection", x]) : WS K B (fun _ σ H => tMkO C (spIni C 1 mkID) [] t σ H fun cls d H' => O.x.W cls d σ H') δ O :=
  ws_raise (ks := [("code" : Str), "value"]) (mkD := fun ds => [.str "InvalidDirection", ds.headD .non]) (by decide) (fun _ _ => rfl) mkID_dd fun G0 H0 σ G H Q s xx q => h G0 H0 σ G H Q s xx fun vs ds G1 H1 g o hs ⟨x, e, p⟩ => q vs ds G1 H1 g o hs (by rw [e]; exact ⟨rfl, p⟩)
/-! ### reduced -/
def redP (a b : Int) : Option PP := if a = 0 ∧ b = 0 then none else if isDir (.tup [.int (a.fdiv ((Nat.gcd a.natAbs b.natAbs : Nat) : Int)), .int (b.fdiv ((Nat.gcd a.natAbs b.natAbs : Nat) : Int))]) = true then some (a.fdiv ((Nat.gcd a.natAbs b.natAbs : Nat) : Int), b.fdiv ((Nat.gcd a.natAbs b.natAbs : Nat) : Int)) else none
def redD : D → Option PP
  | .tup [.int a, .int b] => redP a b
  | _ => none
/-- small; a pair of numbers is not too great -/
def Sm2 (d : D) : Prop := sm d = true ∧ ∀ a b : Int, d = .tup [.int a, .int b] → a.natAbs < 1073741824 ∧ b.natAbs < 1073741824
def redPost : List D → D → Prop := fun ds r => ∃ x p, ds = [x] ∧ redD x = some p ∧ r = toD p
def redExc (C : Addr) : List D → Addr → List Str → List D → Prop := fun ds C' ks es => ∃ x, ds = [x] ∧ redD x = none ∧ excD C x C' ks es
abbrev s_reduced : Stmt := topS 14
abbrev N_reduced : List Str := ["pair", "divisor", "direction"]
theorem sc_reduced : FnScope N_reduced ["pair"] (defScope s_reduced) := ⟨rfl, rfl, rfl, by decide +kernel, rfl, by decide +kernel, by decide +kernel⟩
abbrev ClRed (P : Program) (w : World) (K : PySem.W.Frag) (mg : Str → Option Value) (base : Heap) (k : Nat) (C : Addr) := Clx P w K mg base k "reduced" s_reduced ["pair"] (SpX K (p1 Sm2) redPost (redExc C))
theorem np_ex {d : D} (h : isNumPair d = true) : ∃ a b : Int, d = .tup [.int a, .int b] := by
  cases d with
  | tup xs =>
    have h' : (decide ((xs.length : Int) = 2) && xs.all isNum) = true := h
    rw [Bool.and_eq_true, decide_eq_true_eq] at h'
    match xs, h' with
    | [x, y], ⟨_, h2⟩ =>
      have h3 : (isNum x && (isNum y && true)) = true := h2
      rw [Bool.and_true, Bool.and_eq_true] at h3
      obtain ⟨a, rfl⟩ := num_ex h3.1
      obtain ⟨b, rfl⟩ := num_ex h3.2
      exact ⟨a, b, rfl⟩
    | [], ⟨h1, _⟩ => simp at h1
    | [_], ⟨h1, _⟩ => simp at h1
    | _ :: _ :: _ :: _, ⟨h1, _⟩ => simp at h1; omega
  | _ => exact Bool.noConfusion h
theorem red_not {d : D} (h : isNumPair d ≠ true) : redD d = none := by
  unfold redD
  split
  · exact absurd rfl h
  · rfl
theorem gcd_lt {a b : Int} {n : Nat} (ha : a.natAbs < n) (hb : b.natAbs < n) : Nat.gcd a.natAbs b.natAbs < n := by
  by_cases h : a.natAbs = 0
  · rw [h, Nat.gcd_zero_left]; exact hb
  · exact Nat.lt_of_le_of_lt (Nat.gcd_le_left _ (by omega)) ha
theorem ok_reduced {k : Nat} {C : Addr} (G : Gn mg) (F : Df K mg "reduced" s_reduced) (C_is_number_pair : ClB P w K mg base k "is_number_pair" s_is_number_pair "value" isNumPair) (C_is_direction : ClB P w K mg base k "is_direction" s_is_direction "value" isDir) (k' : Nat) (hk : k = k' + 1) (R_InvalidDirection : RzD P w K mg base k' C) : ClRed P w K mg base (k + 1) C := by
  subst hk
  refine clx_of F sc_reduced (fun _ _ _ _ _ _ us hl => match us, hl with | [_], _ => rfl) p1_len fun f cdv A outer s H E hr => ⟨_, (pss_cons (ps_if (PW.pt (pw_or (pt_not (pt_val (pe_c C_is_number_pair hr (by omega) (by rfl) (pa_cons (pv 0) pa_nil)))) (pw_or1 (pt_cmpR (op_eqD hr.units) (pv 0) (pe_tup (pa_cons pe_int (pa_cons pe_int pa_nil))) (nomark _))))) (pss_one (ps_rz R_InvalidDirection (takes_of rfl rfl rfl rfl) rfl hr (by omega) (by rfl) (pa_cons (pv 0) pa_nil))) pss_nil)
      (pss_cons (ps_set (i := 1) sc_reduced.nd rfl (Or.inl rfl) (pe_callBfun cr_gcd (by rfl) G.g_gcd (pa_cons (pe_ix (show IxR _ (rIxT K) from ix_tup) (pv 0) pe_int (fun _ _ => rfl)) (pa_cons (pe_ix (show IxR _ (rIxT K) from ix_tup) (pv 0) pe_int (fun _ _ => rfl)) pa_nil))))
      (pss_cons (ps_set (i := 2) sc_reduced.nd rfl (Or.inl rfl) (pe_tup (pa_cons (pe_op op_fdivN (pe_ix (show IxR _ (rIxT K) from ix_tup) (pv 0) pe_int (fun _ _ => rfl)) (pv 1)) (pa_cons (pe_op op_fdivN (pe_ix (show IxR _ (rIxT K) from ix_tup) (pv 0) pe_int (fun _ _ => rfl)) (pv 1)) pa_nil))))
      (pss_cons (ps_if (pt_not (pt_val (pe_c C_is_direction hr (by omega) (by rfl) (pa_cons (pv 2) pa_nil)))) (pss_one (ps_rz R_InvalidDirection (takes_of rfl rfl rfl rfl) rfl hr (by omega) (by rfl) (pa_cons (pv 0) pa_nil))) pss_nil)
      (pss_one (ps_ret (pv 2))))))), fun B ds hp => ?_⟩
  obtain ⟨x, rfl, hx, hb⟩ := p1_ex hp
  show WS K B _ [.val x, .no, .no] _
  try dsimp only [cxOf, Cx.nox, Cx.blk]
  repeat walk_at "dl"
  refine ⟨hx, ?_⟩
  repeat walk_at "dl"
  refine ite2 (fun h => ?_) (fun h => ?_)
  · repeat walk_at "dl"
    refine ws_raiseD (wa_cons (we_var rfl (wa_nil ⟨x, rfl, x, rfl, red_not (by simpa using h), rfl, rfl, rfl⟩)))
  have h1 : isNumPair x = true := by simpa using h
  obtain ⟨a, b, rfl⟩ := np_ex h1
  obtain ⟨ha, hb'⟩ := hb a b rfl
  repeat walk_at "dl"
  refine ro_eqP ?_
  repeat walk_at "dl"
  refine ite2 (fun h2 => ?_) (fun h2 => ?_)
  · have e2 : a = 0 ∧ b = 0 := by
      have := of_decide_eq_true h2
      exact ⟨congrArg Prod.fst this, congrArg Prod.snd this⟩
    refine ws_raiseD (wa_cons (we_var rfl (wa_nil ⟨_, rfl, _, rfl, ?_, rfl, rfl, rfl⟩)))
    show redP a b = none
    unfold redP
    rw [if_pos e2]
  have n2 : ¬ (a = 0 ∧ b = 0) := fun e => h2 (decide_eq_true (by rw [e.1, e.2]))
  have hg0 : 0 < Nat.gcd a.natAbs b.natAbs := by
    rcases Nat.eq_zero_or_pos (Nat.gcd a.natAbs b.natAbs) with e | e
    · exfalso
      have e1 := Nat.eq_zero_of_gcd_eq_zero_left e
      have e2 := Nat.eq_zero_of_gcd_eq_zero_right e
      exact n2 ⟨by omega, by omega⟩
    · exact e
  have hg1 := gcd_lt ha hb'
  repeat walk_at "dl"
  refine ro_ixT (d := .int a) rfl ?_
  repeat walk_at "dl"
  refine ro_ixT (d := .int b) rfl ?_
  repeat walk_at "dl"
  refine ro_ixT (d := .int a) rfl ?_
  repeat walk_at "dl"
  refine ro_int ⟨by omega, by omega⟩ ?_
  repeat walk_at "dl"
  refine ro_ixT (d := .int b) rfl ?_
  repeat walk_at "dl"
  refine ro_int ⟨by omega, by omega⟩ ?_
  repeat walk_at "dl"
  refine ⟨sm_toD (_, _), ?_⟩
  repeat walk_at "dl"
  refine ite2 (fun h3 => ?_) (fun h3 => ?_)
  · refine ws_raiseD (wa_cons (we_var rfl (wa_nil ⟨_, rfl, _, rfl, ?_, rfl, rfl, rfl⟩)))
    show redP a b = none
    unfold redP
    rw [if_neg n2, if_neg (by simpa using h3)]
  · repeat walk_at "dl"
    refine ⟨_, (a.fdiv ((Nat.gcd a.natAbs b.natAbs : Nat) : Int), b.fdiv ((Nat.gcd a.natAbs b.natAbs : Nat) : Int)), rfl, ?_, rfl⟩
    show redP a b = _
    unfold redP
    rw [if_neg n2, if_pos (by simpa using h3)]
/-! ### next_in_round -/
abbrev s_next_in_round : Stmt := topS 19
abbrev N_next_in_round : List Str := ["directions", "direction", "row", "at"]
theorem sc_next_in_round : FnScope N_next_in_round ["directions", "direction"] (defScope s_next_in_round) := ⟨rfl, rfl, rfl, by decide +kernel, rfl, by decide +kernel, by decide +kernel⟩
def nxtPre : List D → Prop := p2 fun r d => (∃ ps : List PP, r = .lst (ps.map toD) ∧ ps.length ≤ 100 ∧ ∀ p ∈ ps, IsDr p) ∧ sm d = true
def nxtPost : List D → D → Prop := fun ds r => ∃ (ps : List PP) (p : PP), ds = [.lst (ps.map toD), toD p] ∧ IsDr p ∧ ps ≠ [] ∧ r = toD (nxtP (rnd ps) p)
def nxtExc (C : Addr) : List D → Addr → List Str → List D → Prop := fun ds C' ks es => ∃ (ps : List PP) (d : D), ds = [.lst (ps.map toD), d] ∧ (isDir d = false ∨ ps = []) ∧ excD C d C' ks es
abbrev ClNx (P : Program) (w : World) (K : PySem.W.Frag) (mg : Str → Option Value) (base : Heap) (k : Nat) (C : Addr) := Clx P w K mg base k "next_in_round" s_next_in_round ["directions", "direction"] (SpX K nxtPre nxtPost (nxtExc C))
theorem rnd_ne {ps : List PP} (h : ps ≠ []) : rnd ps ≠ [] := by
  have key : ∀ (ps row : List PP), row ≠ [] → ps.foldl stp row ≠ [] := by
    intro ps
    induction ps with
    | nil => intro row h; exact h
    | cons p ps ih =>
      intro row h
      refine ih _ ?_
      unfold stp
      split
      · exact h
      · simp
  cases ps with
  | nil => exact absurd rfl h
  | cons p ps =>
    refine key ps _ ?_
    unfold stp
    split
    · rename_i z; cases z
    · simp
theorem toD_inj {p q : PP} (h : toD p = toD q) : p = q := by
  unfold toD at h
  have e := D.tup.inj h
  have e1 := D.int.inj (List.cons.inj e).1
  have e2 := D.int.inj (List.cons.inj (List.cons.inj e).2).1
  exact Prod.ext e1 e2
theorem map_toD_inj : ∀ {ps qs : List PP}, ps.map toD = qs.map toD → ps = qs
  | [], [], _ => rfl
  | [], _ :: _, h => by cases h
  | _ :: _, [], h => by cases h
  | _ :: _, _ :: _, h => by rw [toD_inj (List.cons.inj h).1, map_toD_inj (List.cons.inj h).2]
theorem plc_sm {row : List PP} {p : PP} {n : Nat} (h : Plc (row.map toD) (toD p) n) : Sm.Plc ltP row p n := by
  obtain ⟨q1, q2, q3⟩ := h
  rw [List.length_map] at q1
  exact ⟨q1, fun m x em ex => q2 m (toD x) em (by rw [List.getElem?_map, ex]; rfl), fun x ex => q3 (toD x) (by rw [List.getElem?_map, ex]; rfl)⟩
theorem ok_next_in_round {k : Nat} {C : Addr} (G : Gn mg) (F : Df K mg "next_in_round" s_next_in_round) (C_is_direction : ClB P w K mg base k "is_direction" s_is_direction "value" isDir) (C_in_round : Cl P w K mg base k "in_round" s_in_round ["directions"] (SpD K rndPre rndPost)) (C_place_in_round : ClPl P w K mg base k) (k' : Nat) (hk : k = k' + 1) (R_InvalidDirection : RzD P w K mg base k' C) : ClNx P w K mg base (k + 1) C := by
  subst hk
  refine clx_of F sc_next_in_round (fun _ _ _ _ _ _ us hl => match us, hl with | [_, _], _ => rfl) p2_len fun f cdv A outer s H E hr => ⟨_, (pss_cons (ps_if (PW.pt (pw_or (pt_not (pt_val (pe_c C_is_direction hr (by omega) (by rfl) (pa_cons (pv 1) pa_nil)))) (pw_or1 (pt_cmpR op_eq (pe_callB (show CallR _ (.builtin "len") (fun xs H Q => ∃ x n, xs = [x] ∧ LenV K x H n ∧ Q (.int n) H) from call_len) (by rfl) G.g_len (by decide +kernel) (pa_cons (pv 0) pa_nil)) pe_int (nomark _))))) (pss_one (ps_rz R_InvalidDirection (takes_of rfl rfl rfl rfl) rfl hr (by omega) (by rfl) (pa_cons (pv 1) pa_nil))) pss_nil)
      (pss_cons (ps_set (i := 2) sc_next_in_round.nd rfl (Or.inl rfl) (pe_c C_in_round hr (by omega) (by rfl) (pa_cons (pv 0) pa_nil)))
      (pss_cons (ps_set (i := 3) sc_next_in_round.nd rfl (Or.inl rfl) (pe_c C_place_in_round hr (by omega) (by rfl) (pa_cons (pv 2) (pa_cons (pv 1) pa_nil))))
      (pss_one (ps_ret (pe_ifExp (pt_cmpR op_lt (pv 3) (pe_callB (show CallR _ (.builtin "len") (fun xs H Q => ∃ x n, xs = [x] ∧ LenV K x H n ∧ Q (.int n) H) from call_len) (by rfl) G.g_len (by decide +kernel) (pa_cons (pv 2) pa_nil)) (nomark _)) (pe_ix (show IxR _ (rIxL K) from ix_list) (pv 2) (pv 3) (fun _ _ => rfl)) (pe_ix (show IxR _ (rIxL K) from ix_list) (pv 2) pe_int (fun _ _ => rfl)))))))), fun B ds hp => ?_⟩
  obtain ⟨_, d, rfl, ⟨ps, rfl, hl, hps⟩, hd⟩ := p2_ex hp
  show WS K B _ [.val (.lst (ps.map toD)), .val d, .no, .no] _
  try dsimp only [cxOf, Cx.nox, Cx.blk]
  repeat walk_at "dl"
  refine ⟨hd, ?_⟩
  repeat walk_at "dl"
  refine ite2 (fun h => ?_) (fun h => ?_)
  · repeat walk_at "dl"
    exact ws_raiseD (wa_cons (we_var rfl (wa_nil ⟨d, rfl, ps, d, rfl, .inl (by simpa using h), rfl, rfl, rfl⟩)))
  obtain ⟨p, rfl, hp1⟩ := isDir_ex (by simpa using h : isDir d = true)
  repeat walk_at "dl"
  refine ite2 (fun h2 => ?_) (fun h2 => ?_)
  · have e : ps = [] := List.length_eq_zero_iff.mp (by have := of_decide_eq_true h2; rw [List.length_map] at this; omega)
    exact ws_raiseD (wa_cons (we_var rfl (wa_nil ⟨_, rfl, ps, _, rfl, .inr e, rfl, rfl, rfl⟩)))
  have ne : ps ≠ [] := fun e => h2 (decide_eq_true (by rw [e]; rfl))
  repeat walk_at "dl"
  refine ⟨⟨ps, rfl, hl, hps⟩, ?_⟩
  rintro _ ⟨ps', e1, rfl, hs, hD, hln⟩
  have e2 : ps' = ps := by
    have e3 := D.lst.inj (List.cons.inj e1).1
    exact (map_toD_inj e3).symm
  subst e2
  repeat walk_at "dl"
  refine ⟨⟨dr_pa hp1, _, rfl, by rw [List.length_map]; omega, fun x hx => ?_⟩, ?_⟩
  · obtain ⟨q, hq, rfl⟩ := List.mem_map.mp hx
    exact dr_pa (hD q hq)
  rintro _ ⟨xs, dd, n, e, rfl, hP⟩
  cases e
  have hP2 := plc_sm hP
  repeat walk_at "dl"
  refine ite2 (fun h3 => ?_) (fun h3 => ?_)
  · have hlt : n < (rnd ps').length := by have := of_decide_eq_true h3; rw [List.length_map] at this; omega
    repeat walk_at "dl"
    refine ro_ixL (d := toD (rnd ps')[n]) (atI_nat (by rw [List.getElem?_map, List.getElem?_eq_getElem hlt]; rfl)) ?_
    exact ⟨ps', p, rfl, hp1, ne, by rw [nxt_at hs hD hp1 hP2 (List.getElem?_eq_getElem hlt)]⟩
  · have hge : (rnd ps').length ≤ n := by
      have : ¬ (n : Int) < ((rnd ps').length : Int) := fun q => h3 (decide_eq_true (by rw [List.length_map]; exact q))
      omega
    have h0 : 0 < (rnd ps').length := List.length_pos_iff.mpr (rnd_ne ne)
    repeat walk_at "dl"
    refine ro_ixL (d := toD (rnd ps')[0]) (atI_nat (j := 0) (by rw [List.getElem?_map, List.getElem?_eq_getElem h0]; rfl)) ?_
    exact ⟨ps', p, rfl, hp1, ne, by rw [nxt_end hs hD hp1 hP2 hge (List.getElem?_eq_getElem h0)]⟩

end
/-! #### Qj -/
section
variable {P : Program} {w : World} {K : PySem.W.Frag} {mg : Str → Option Value} {base : Heap}
/-! ### own7 -/
/-! ### _law_cross -/
abbrev s__law_cross : Stmt := topS 30
abbrev N__law_cross : List Str := ["_law_one_z", "_law_two_z"]
theorem sc__law_cross : FnScope N__law_cross ["_law_one_z", "_law_two_z"] (defScope s__law_cross) := ⟨rfl, rfl, rfl, by decide +kernel, rfl, by decide +kernel, by decide +kernel⟩
abbrev ClLc (P : Program) (w : World) (K : PySem.W.Frag) (mg : Str → Option Value) (base : Heap) (k : Nat) := Cl P w K mg base k "_law_cross" s__law_cross ["_law_one_z", "_law_two_z"] (SpD K (p2 fun a b => Pa2 a ∧ Pa2 b) fun ds r => r = f2 crossF ds)
theorem ok__law_cross {k : Nat} (F : Df K mg "_law_cross" s__law_cross) : ClLc P w K mg base (k + 1) := by
  refine cl_of F sc__law_cross (fun _ _ _ _ _ _ us hl => match us, hl with | [_, _], _ => rfl) p2_len fun f cdv A outer s H E hr => ⟨_, (pss_one (ps_ret (pe_op op_sub (pe_op op_mul (pe_ix (show IxR _ (rIxT K) from ix_tup) (pv 0) pe_int (fun _ _ => rfl)) (pe_ix (show IxR _ (rIxT K) from ix_tup) (pv 1) pe_int (fun _ _ => rfl))) (pe_op op_mul (pe_ix (show IxR _ (rIxT K) from ix_tup) (pv 0) pe_int (fun _ _ => rfl)) (pe_ix (show IxR _ (rIxT K) from ix_tup) (pv 1) pe_int (fun _ _ => rfl)))))), fun B ds hp => ?_⟩
  obtain ⟨_, _, rfl, ⟨u, v, rfl, hu, hu', hv, hv'⟩, ⟨x, y, rfl, hx, hx', hy, hy'⟩⟩ := p2_ex hp
  show WS K B _ [.val (.tup [.int u, .int v]), .val (.tup [.int x, .int y])] _
  try dsimp only [cxOf, Cx.nox, Cx.blk]
  repeat walk_at "dl"
  refine ro_ixT (d := .int u) rfl ?_
  repeat walk_at "dl"
  refine ro_ixT (d := .int y) rfl ?_
  refine ro_int (.inl ⟨by omega, by omega⟩) ?_
  repeat walk_at "dl"
  refine ro_ixT (d := .int v) rfl ?_
  repeat walk_at "dl"
  refine ro_ixT (d := .int x) rfl ?_
  refine ro_int (.inl ⟨by omega, by omega⟩) ?_
  repeat walk_at "dl"
  rfl
/-! ### _law_ahead -/
abbrev s__law_ahead : Stmt := topS 33
abbrev N__law_ahead : List Str := ["_law_d", "_law_e", "_law_first", "_law_second", "_law_x"]
theorem sc__law_ahead : FnScope N__law_ahead ["_law_d", "_law_e"] (defScope s__law_ahead) := ⟨rfl, rfl, rfl, by decide +kernel, rfl, by decide +kernel, by decide +kernel⟩
abbrev ClLa (P : Program) (w : World) (K : PySem.W.Frag) (mg : Str → Option Value) (base : Heap) (k : Nat) := Cl P w K mg base k "_law_ahead" s__law_ahead ["_law_d", "_law_e"] (SpD K (p2 fun a b => ∃ p q : PP, a = toD p ∧ b = toD q ∧ IsDr p ∧ IsDr q) fun ds r => ∃ p q : PP, ds = [toD p, toD q] ∧ r = .bl (ltP p q))
def hf (p : PP) : Int := if (0 < p.2) ∨ (p.2 = 0 ∧ 0 < p.1) then 0 else 1
theorem ok__law_ahead {k : Nat} (F : Df K mg "_law_ahead" s__law_ahead) (C__law_cross : ClLc P w K mg base k) : ClLa P w K mg base (k + 1) := by
  refine cl_of F sc__law_ahead (fun _ _ _ _ _ _ us hl => match us, hl with | [_, _], _ => rfl) p2_len fun f cdv A outer s H E hr => ⟨_, (pss_cons (ps_asg (pe_lc (own := [("_law_x", 4)]) (g := gName 4) (tt := tYes) rfl sc__law_ahead.nd (pi_tup (pe_tup (pa_cons (pv 0) (pa_cons (pv 1) pa_nil)))) (blkOk_by (N := N__law_ahead) (sc := defScope s__law_ahead) (by decide +kernel)) (fun _ _ _ _ _ => pg_name (i := 4) sc__law_ahead.nd rfl (Or.inl rfl)) (fun _ _ _ _ _ => pts_nil) (fun _ _ _ _ _ => (pe_ifExp (PW.pt (pw_or (pt_cmpR op_gt (pe_ix (show IxR _ (rIxT K) from ix_tup) (pv 4) pe_int (fun _ _ => rfl)) pe_int (nomark _)) (pw_or1 (PW.pt (pw_and (pt_cmpR op_eq (pe_ix (show IxR _ (rIxT K) from ix_tup) (pv 4) pe_int (fun _ _ => rfl)) pe_int (nomark _)) (pw_and1 (pt_cmpR op_gt (pe_ix (show IxR _ (rIxT K) from ix_tup) (pv 4) pe_int (fun _ _ => rfl)) pe_int (nomark _)))))))) pe_int pe_int))) (pg_lst rfl (pgs_cons (pg_name (i := 2) sc__law_ahead.nd rfl (Or.inl rfl)) (pgs_cons (pg_name (i := 3) sc__law_ahead.nd rfl (Or.inl rfl)) pgs_nil))))
      (pss_one (ps_ret (pe_ifExp (pt_cmpR op_ne (pv 2) (pv 3) (nomark _)) (pe_cmpR op_lt (pv 2) (pv 3) (nomark _)) (pe_cmpR op_gt (pe_c C__law_cross hr (by omega) (by rfl) (pa_cons (pv 0) (pa_cons (pv 1) pa_nil))) pe_int (nomark _)))))), fun B ds hp => ?_⟩
  obtain ⟨_, _, rfl, p, q, rfl, rfl, hp1, hq1⟩ := p2_ex hp
  show WS K B _ [.val (toD p), .val (toD q), .no, .no, .no] _
  try dsimp only [cxOf, Cx.nox, Cx.blk]
  refine ws_seq (ws_unl2 (we_lcmap (fun d => match d with | .tup [.int a, .int b] => .int (hf (a, b)) | _ => .non) (wi_tup (we_tup (wa_cons (we_var rfl (wa_cons (we_var rfl (wa_nil ⟨(by show 2 ≤ 1000; decide), _, rfl, (by show 2 ≤ 1000; decide), fun d hd => ?_, _, _, rfl, ?_⟩)))))))))
  · have hd' : d = toD p ∨ d = toD q := by simpa using hd
    obtain ⟨r, rfl⟩ : ∃ r : PP, d = toD r := by
      rcases hd' with rfl | rfl
      · exact ⟨p, rfl⟩
      · exact ⟨q, rfl⟩
    dsimp only [List.set]
    repeat walk_at "dl"
    refine ro_ixT (d := .int r.2) rfl ?_
    repeat walk_at "dl"
    refine ite2 (fun h => ?_) (fun h => ?_)
    · repeat walk_at "dl"
      show D.int 0 = D.int (hf r)
      unfold hf
      rw [if_pos (.inl (of_decide_eq_true h))]
    · repeat walk_at "dl"
      refine ro_ixT (d := .int r.2) rfl ?_
      repeat walk_at "dl"
      refine ite2 (fun h2 => ?_) (fun h2 => ?_)
      · repeat walk_at "dl"
        refine ro_ixT (d := .int r.1) rfl ?_
        repeat walk_at "dl"
        refine ite2 (fun h3 => ?_) (fun h3 => ?_)
        · repeat walk_at "dl"
          show D.int 0 = D.int (hf r)
          unfold hf
          rw [if_pos (.inr ⟨of_decide_eq_true h2, of_decide_eq_true h3⟩)]
        · repeat walk_at "dl"
          show D.int 1 = D.int (hf r)
          unfold hf
          rw [if_neg (fun z => z.elim (fun z => h (decide_eq_true z)) fun z => h3 (decide_eq_true z.2))]
      · repeat walk_at "dl"
        show D.int 1 = D.int (hf r)
        unfold hf
        rw [if_neg (fun z => z.elim (fun z => h (decide_eq_true z)) fun z => h2 (decide_eq_true z.1))]
  dsimp only [List.set]
  have hpq : ∀ r : PP, IsDr r → (hf r = 0 ∧ Rm.sec r.1 r.2 = false) ∨ (hf r = 1 ∧ Rm.sec r.1 r.2 = true) := by
    intro r hr1
    have nz := Rm.nz_of hr1.1
    unfold hf Rm.sec
    by_cases h1 : r.2 < 0
    · right
      exact ⟨by rw [if_neg (by omega)], by simp [h1]⟩
    · by_cases h2 : r.2 = 0
      · by_cases h3 : r.1 < 0
        · right; exact ⟨by rw [if_neg (by omega)], by simp [h2, h3]⟩
        · left; exact ⟨by rw [if_pos (by omega)], by simp [h2, h3]⟩
      · left; exact ⟨by rw [if_pos (by omega)], by simp [h1, h2]⟩
  have lt_def : ltP p q = if (Rm.sec p.1 p.2 != Rm.sec q.1 q.2) = true then Rm.sec q.1 q.2 else decide (0 < p.1 * q.2 - p.2 * q.1) := rfl
  show WS K B _ [.val (toD p), .val (toD q), .val (.int (hf p)), .val (.int (hf q)), .no] _
  repeat walk_at "dl"
  refine ite2 (fun h => ?_) (fun h => ?_)
  · repeat walk_at "dl"
    have hne : hf p ≠ hf q := by simpa using h
    rw [lt_def]
    rcases hpq p hp1 with ⟨a, b⟩ | ⟨a, b⟩ <;> rcases hpq q hq1 with ⟨c, d⟩ | ⟨c, d⟩ <;> rw [a, c] at hne ⊢ <;> rw [b, d] <;> first | exact absurd rfl hne | exact congrArg D.bl rfl | (congr 1)
  · have heq : hf p = hf q := by simpa using h
    repeat walk_at "dl"
    refine ⟨⟨dr_pa hp1, dr_pa hq1⟩, ?_⟩
    refine we_int ?_
    show RO K B _ (.int (p.1 * q.2 - p.2 * q.1)) _ _
    repeat walk_at "dl"
    show D.bl _ = D.bl _
    rw [lt_def]
    have es : ¬ (Rm.sec p.1 p.2 != Rm.sec q.1 q.2) = true := by
      rcases hpq p hp1 with ⟨a, b⟩ | ⟨a, b⟩ <;> rcases hpq q hq1 with ⟨c, d⟩ | ⟨c, d⟩ <;> rw [a, c] at heq <;> rw [b, d] <;> first | exact Bool.noConfusion | (exact absurd heq (by decide)) | decide
    rw [if_neg es]
/-- the count of those ahead is a place -/
theorem plc_count : ∀ {row : List PP} {p : PP}, Sm.Srt ltP row → (∀ x ∈ row, IsDr x) → IsDr p → Sm.Plc ltP row p (row.filter (ltP · p)).length := by
  intro row p hs hD hd
  have key : ∃ n, Sm.Plc ltP row p n := by
    clear hs
    induction row with
    | nil => exact ⟨0, Nat.le_refl _, (fun m x e => absurd e (by omega)), fun x e => by cases e⟩
    | cons x r ih =>
      cases h : ltP x p with
      | false => exact ⟨0, Nat.zero_le _, (fun m x e => absurd e (by omega)), fun y e => by cases e; exact h⟩
      | true =>
        obtain ⟨n, h1, h2, h3⟩ := ih fun y hy => hD y (List.mem_cons_of_mem _ hy)
        refine ⟨n + 1, by rw [List.length_cons]; omega, fun m y e ey => ?_, fun y ey => h3 y (by simpa using ey)⟩
        have em : m = n := by omega
        subst em
        cases m with
        | zero => cases ey; exact h
        | succ m => exact h2 m y rfl (by simpa using ey)
  obtain ⟨n, hn⟩ := key
  rw [Sm.count_plc (D := IsDr) lt_tr hs hD hd hn]
  exact hn
theorem stp_ok {row : List PP} {p : PP} (hs : Sm.Srt ltP row) (hD : ∀ x ∈ row, IsDr x) (hd : IsDr p) : Sm.Srt ltP (stp row p) ∧ ∀ x ∈ stp row p, IsDr x := by
  unfold stp
  by_cases hm : p ∈ row
  · rw [if_pos hm]; exact ⟨hs, hD⟩
  · rw [if_neg hm]
    have hpl : Sm.Plc ltP row p (row.filter (ltP · p)).length := plc_count hs hD hd
    refine ⟨Sm.ins_srt (D := IsDr) lt_tr lt_tot hs hD hd hpl hm, fun x hx => ?_⟩
    rcases List.mem_append.mp hx with hx | hx
    · rcases List.mem_append.mp hx with hx | hx
      · exact hD x (List.mem_of_mem_take hx)
      · rw [List.mem_singleton.mp hx]; exact hd
    · exact hD x (List.mem_of_mem_drop hx)
/-! ### _law_round -/
abbrev s__law_round : Stmt := topS 34
abbrev N__law_round : List Str := ["_law_some", "_law_found", "_law_d", "_law_e"]
theorem sc__law_round : FnScope N__law_round ["_law_some"] (defScope s__law_round) := ⟨rfl, rfl, rfl, by decide +kernel, rfl, by decide +kernel, by decide +kernel⟩
abbrev ClLr (P : Program) (w : World) (K : PySem.W.Frag) (mg : Str → Option Value) (base : Heap) (k : Nat) := Cl P w K mg base k "_law_round" s__law_round ["_law_some"] (SpN K rndPre rndPostN)
theorem ok__law_round {k : Nat} (G : Gn mg) (F : Df K mg "_law_round" s__law_round) (C__law_ahead : ClLa P w K mg base k) : ClLr P w K mg base (k + 1) := by
  refine cln_of F sc__law_round (fun _ _ _ _ _ _ us hl => match us, hl with | [_], _ => rfl) p1_len fun f cdv A outer s H E hr => ⟨_, (pss_cons (ps_set (i := 1) sc__law_round.nd rfl (Or.inl rfl) (pe_lst pa_nil))
      (pss_cons (ps_for PassesOwn.never rfl (pi_list (pv 0)) (pg_name (i := 2) sc__law_round.nd rfl (Or.inr rfl)) (pss_one (ps_if (pt_cmpR (op_notInD (Dl.u65 hr)) (pv 2) (pv 1) (by rfl)) (pss_one (ps_expr (pe_bm PySem.F.plainAttrs_list PySem.F.slot_list_insert PySem.F.type_list_insert mt_insert (pv 1) (pa_cons (pe_callB (show CallR _ (.builtin "len") (fun xs H Q => ∃ x n, xs = [x] ∧ LenV K x H n ∧ Q (.int n) H) from call_len) (by rfl) G.g_len (by decide +kernel) (pa_cons (pe_lc (own := [("_law_e", 3)]) (g := gName 3) rfl sc__law_round.nd (pi_list (pv 1)) (blkOk_by (N := N__law_round) (sc := defScope s__law_round) (by decide +kernel)) (fun _ _ _ _ _ => pg_name (i := 3) sc__law_round.nd rfl (Or.inl rfl)) (fun _ _ _ _ _ => (pts_one (pt_val (pe_c C__law_ahead hr (by omega) (by rfl) (pa_cons (pv 3) (pa_cons (pv 2) pa_nil)))))) (fun _ _ _ _ _ => (pv 3))) pa_nil)) (pa_cons (pv 2) pa_nil))))) pss_nil)))
      (pss_one (ps_ret (pv 1))))), fun B ds hp => ?_⟩
  obtain ⟨_, rfl, ps, rfl, hlen, hps⟩ := p1_ex hp
  show WS K B _ [.val (.lst (ps.map toD)), .no, .no, .no] _
  try dsimp only [cxOf, Cx.nox, Cx.blk]
  refine ws_seq (ws_setOwn (wa_nil ⟨by decide, ?_⟩))
  dsimp only [List.set]
  refine ws_seq (ws_for (wi_list (we_var rfl ⟨_, rfl, fun i δ1 => ∃ (row : List PP) (y2 y3 : Sd), δ1 = [.val (.lst (ps.map toD)), .own (row.map toD), y2, y3] ∧ row = rnd (ps.take i) ∧ Sm.Srt ltP row ∧ (∀ x ∈ row, IsDr x) ∧ row.length ≤ i, ⟨[], .no, .no, rfl, rfl, List.Pairwise.nil, (fun _ z => nomatch z), Nat.le_refl _⟩, ?_, ?_⟩)))
  · rintro i d δ1 hi ⟨row, y2, y3, rfl, er, hs, hD, hl⟩
    rw [List.getElem?_map] at hi
    obtain ⟨p, hp1, rfl⟩ : ∃ p, ps[i]? = some p ∧ toD p = d := by
      cases e : ps[i]? with
      | none => rw [e] at hi; cases hi
      | some p => rw [e] at hi; exact ⟨p, rfl, Option.some.inj hi⟩
    have hdp : IsDr p := hps p (List.mem_of_getElem? hp1)
    have hi' : i < ps.length := (List.getElem?_eq_some_iff.mp hp1).1
    have enext : rnd (ps.take (i + 1)) = stp row p := by rw [er, List.take_add_one, hp1]; exact rnd_snoc _ _
    dsimp only [List.set]
    refine ws_if (wt_frz (i := 1) rfl ?_)
    dsimp only [List.set]
    refine wt_test (we_op (we_var rfl (we_var rfl (ro_niPL ⟨_, rfl, ?_⟩))))
    refine ite2 (fun h => ?_) (fun h => ?_)
    · have hn : p ∉ row := by simpa using h
      refine ws_insert (i := 1) rfl rfl (by rw [List.length_map]; omega) (we_frz (i := 1) rfl ?_)
      dsimp only [List.set]
      refine we_cb (wa_cons (we_lc (wi_list (we_var rfl ⟨_, rfl, by rw [List.length_map]; omega, fun n acc => acc = ((row.take n).filter (ltP · p)).map toD, rfl, ?_, ?_⟩))))
      · rintro n d acc hd hacc
        have hacc' : acc = ((row.take n).filter (ltP · p)).map toD := hacc
        rw [List.getElem?_map] at hd
        obtain ⟨q, hq, rfl⟩ : ∃ q, row[n]? = some q ∧ toD q = d := by
          cases e : row[n]? with
          | none => rw [e] at hd; cases hd
          | some q => rw [e] at hd; exact ⟨q, rfl, Option.some.inj hd⟩
        dsimp only [List.set]
        repeat walk_at "dl"
        refine ⟨⟨q, p, rfl, rfl, hD q (List.mem_of_getElem? hq), hdp⟩, ?_⟩
        rintro _ ⟨q', p', e1, rfl⟩
        have eq1 := toD_inj (List.cons.inj e1).1
        have ep1 := toD_inj (List.cons.inj (List.cons.inj e1).2).1
        subst eq1 ep1
        refine ⟨_, rfl, ?_⟩
        refine ite2 (fun h3 => ?_) (fun h3 => ?_)
        · refine we_var rfl ?_
          show acc ++ [toD q] = ((row.take (n + 1)).filter (ltP · p)).map toD
          rw [hacc', List.take_add_one, hq, List.filter_append, List.map_append]
          have e3 : ([q].filter (ltP · p)) = [q] := by simp [h3]
          show _ = _ ++ ([q].filter (ltP · p)).map toD
          rw [e3]; rfl
        · show acc = ((row.take (n + 1)).filter (ltP · p)).map toD
          rw [hacc', List.take_add_one, hq, List.filter_append, List.map_append]
          have e3 : ([q].filter (ltP · p)) = [] := by simp [Bool.eq_false_iff.mpr h3]
          show _ = _ ++ ([q].filter (ltP · p)).map toD
          rw [e3]; simp
      · rintro acc hacc
        have hacc' : acc = ((row.take (row.map toD).length).filter (ltP · p)).map toD := hacc
        rw [List.length_map, List.take_length] at hacc'
        have hfl : (row.filter (ltP · p)).length ≤ row.length := List.length_filter_le ..
        refine wa_nil (rc_lenL (n := (row.filter (ltP · p)).length) (by rw [hacc', List.length_map]) (by omega) ⟨rfl, _, rfl, by omega, we_var rfl ?_⟩)
        try dsimp only [List.set]
        have hall : (row.map toD).take (row.filter (ltP · p)).length ++ [toD p] ++ (row.map toD).drop (row.filter (ltP · p)).length = (stp row p).map toD := by
          unfold stp
          rw [if_neg hn, List.map_append, List.map_append, List.map_take, List.map_drop]
          rfl
        rw [hall]
        obtain ⟨hs', hD'⟩ := stp_ok hs hD hdp
        refine ⟨stp row p, _, _, rfl, enext.symm, hs', hD', ?_⟩
        unfold stp
        rw [if_neg hn]
        simp only [List.length_append, List.length_take, List.length_drop, List.length_cons, List.length_nil]
        omega
    · have hin : p ∈ row := by simpa using h
      refine ws_next ⟨row, _, _, rfl, ?_, hs, hD, by omega⟩
      rw [enext]
      unfold stp
      rw [if_pos hin]
  · rintro δ1 ⟨row, y2, y3, rfl, er, hs, hD, hl⟩
    rw [List.length_map, List.take_length] at er
    subst er
    refine ws_retOwn (i := 1) rfl ⟨ps, rfl, rfl, hs, hD, by rw [List.length_map] at hl; exact hl⟩

end
/-! #### Qk -/
section
variable {P : Program} {w : World} {K : PySem.W.Frag} {mg : Str → Option Value} {base : Heap}
/-! ### next_in_round of a tuple -/
def nxtPreT : List D → Prop := p2 fun r d => (∃ ps : List PP, r = .tup (ps.map toD) ∧ ps.length ≤ 100 ∧ ∀ p ∈ ps, IsDr p) ∧ sm d = true
def nxtPostT : List D → D → Prop := fun ds r => ∃ (ps : List PP) (p : PP), ds = [.tup (ps.map toD), toD p] ∧ IsDr p ∧ ps ≠ [] ∧ r = toD (nxtP (rnd ps) p)
def nxtExcT (C : Addr) : List D → Addr → List Str → List D → Prop := fun ds C' ks es => ∃ (ps : List PP) (d : D), ds = [.tup (ps.map toD), d] ∧ (isDir d = false ∨ ps = []) ∧ excD C d C' ks es
abbrev ClNxT (P : Program) (w : World) (K : PySem.W.Frag) (mg : Str → Option Value) (base : Heap) (k : Nat) (C : Addr) := Clx P w K mg base k "next_in_round" s_next_in_round ["directions", "direction"] (SpX K nxtPreT nxtPostT (nxtExcT C))
theorem ok_next_in_roundT {k : Nat} {C : Addr} (G : Gn mg) (F : Df K mg "next_in_round" s_next_in_round) (C_is_direction : ClB P w K mg base k "is_direction" s_is_direction "value" isDir) (C_in_round : Cl P w K mg base k "in_round" s_in_round ["directions"] (SpD K rndPreT rndPostT)) (C_place_in_round : ClPl P w K mg base k) (k' : Nat) (hk : k = k' + 1) (R_InvalidDirection : RzD P w K mg base k' C) : ClNxT P w K mg base (k + 1) C := by
  subst hk
  refine clx_of F sc_next_in_round (fun _ _ _ _ _ _ us hl => match us, hl with | [_, _], _ => rfl) p2_len fun f cdv A outer s H E hr => ⟨_, (pss_cons (ps_if (PW.pt (pw_or (pt_not (pt_val (pe_c C_is_direction hr (by omega) (by rfl) (pa_cons (pv 1) pa_nil)))) (pw_or1 (pt_cmpR op_eq (pe_callB (show CallR _ (.builtin "len") (fun xs H Q => ∃ x n, xs = [x] ∧ LenV K x H n ∧ Q (.int n) H) from call_len) (by rfl) G.g_len (by decide +kernel) (pa_cons (pv 0) pa_nil)) pe_int (nomark _))))) (pss_one (ps_rz R_InvalidDirection (takes_of rfl rfl rfl rfl) rfl hr (by omega) (by rfl) (pa_cons (pv 1) pa_nil))) pss_nil)
      (pss_cons (ps_set (i := 2) sc_next_in_round.nd rfl (Or.inl rfl) (pe_c C_in_round hr (by omega) (by rfl) (pa_cons (pv 0) pa_nil)))
      (pss_cons (ps_set (i := 3) sc_next_in_round.nd rfl (Or.inl rfl) (pe_c C_place_in_round hr (by omega) (by rfl) (pa_cons (pv 2) (pa_cons (pv 1) pa_nil))))
      (pss_one (ps_ret (pe_ifExp (pt_cmpR op_lt (pv 3) (pe_callB (show CallR _ (.builtin "len") (fun xs H Q => ∃ x n, xs = [x] ∧ LenV K x H n ∧ Q (.int n) H) from call_len) (by rfl) G.g_len (by decide +kernel) (pa_cons (pv 2) pa_nil)) (nomark _)) (pe_ix (show IxR _ (rIxL K) from ix_list) (pv 2) (pv 3) (fun _ _ => rfl)) (pe_ix (show IxR _ (rIxL K) from ix_list) (pv 2) pe_int (fun _ _ => rfl)))))))), fun B ds hp => ?_⟩
  obtain ⟨_, d, rfl, ⟨ps, rfl, hl, hps⟩, hd⟩ := p2_ex hp
  show WS K B _ [.val (.tup (ps.map toD)), .val d, .no, .no] _
  try dsimp only [cxOf, Cx.nox, Cx.blk]
  repeat walk_at "dl"
  refine ⟨hd, ?_⟩
  repeat walk_at "dl"
  refine ite2 (fun h => ?_) (fun h => ?_)
  · repeat walk_at "dl"
    exact ws_raiseD (wa_cons (we_var rfl (wa_nil ⟨d, rfl, ps, d, rfl, .inl (by simpa using h), rfl, rfl, rfl⟩)))
  obtain ⟨p, rfl, hp1⟩ := isDir_ex (by simpa using h : isDir d = true)
  repeat walk_at "dl"
  refine ite2 (fun h2 => ?_) (fun h2 => ?_)
  · have e : ps = [] := List.length_eq_zero_iff.mp (by have := of_decide_eq_true h2; rw [List.length_map] at this; omega)
    exact ws_raiseD (wa_cons (we_var rfl (wa_nil ⟨_, rfl, ps, _, rfl, .inr e, rfl, rfl, rfl⟩)))
  have ne : ps ≠ [] := fun e => h2 (decide_eq_true (by rw [e]; rfl))
  repeat walk_at "dl"
  refine ⟨⟨ps, rfl, hl, hps⟩, ?_⟩
  rintro _ ⟨ps', e1, rfl, hs, hD, hln⟩
  have e2 : ps' = ps := by
    have e3 := D.tup.inj (List.cons.inj e1).1
    exact (map_toD_inj e3).symm
  subst e2
  repeat walk_at "dl"
  refine ⟨⟨dr_pa hp1, _, rfl, by rw [List.length_map]; omega, fun x hx => ?_⟩, ?_⟩
  · obtain ⟨q, hq, rfl⟩ := List.mem_map.mp hx
    exact dr_pa (hD q hq)
  rintro _ ⟨xs, dd, n, e, rfl, hP⟩
  cases e
  have hP2 := plc_sm hP
  repeat walk_at "dl"
  refine ite2 (fun h3 => ?_) (fun h3 => ?_)
  · have hlt : n < (rnd ps').length := by have := of_decide_eq_true h3; rw [List.length_map] at this; omega
    repeat walk_at "dl"
    refine ro_ixL (d := toD (rnd ps')[n]) (atI_nat (by rw [List.getElem?_map, List.getElem?_eq_getElem hlt]; rfl)) ?_
    exact ⟨ps', p, rfl, hp1, ne, by rw [nxt_at hs hD hp1 hP2 (List.getElem?_eq_getElem hlt)]⟩
  · have hge : (rnd ps').length ≤ n := by
      have : ¬ (n : Int) < ((rnd ps').length : Int) := fun q => h3 (decide_eq_true (by rw [List.length_map]; exact q))
      omega
    have h0 : 0 < (rnd ps').length := List.length_pos_iff.mpr (rnd_ne ne)
    repeat walk_at "dl"
    refine ro_ixL (d := toD (rnd ps')[0]) (atI_nat (j := 0) (by rw [List.getElem?_map, List.getElem?_eq_getElem h0]; rfl)) ?_
    exact ⟨ps', p, rfl, hp1, ne, by rw [nxt_end hs hD hp1 hP2 hge (List.getElem?_eq_getElem h0)]⟩

end
/-! #### Ql -/
section
variable {P : Program} {w : World} {K : PySem.W.Frag} {mg : Str → Option Value} {base : Heap}
/-! ### own8 -/
/-! ### _law_reduced_due -/
abbrev s__law_reduced_due : Stmt := topS 35
abbrev N__law_reduced_due : List Str := ["_law_x", "_law_by", "_law_c"]
theorem sc__law_reduced_due : FnScope N__law_reduced_due ["_law_x"] (defScope s__law_reduced_due) := ⟨rfl, rfl, rfl, by decide +kernel, rfl, by decide +kernel, by decide +kernel⟩
def dueR (x : D) : D := match redD x with
  | some p => .tup [.str "told", toD p]
  | none => .tup [.str "no", .str "InvalidDirection", x]
abbrev ClRd (P : Program) (w : World) (K : PySem.W.Frag) (mg : Str → Option Value) (base : Heap) (k : Nat) := Cl P w K mg base k "_law_reduced_due" s__law_reduced_due ["_law_x"] (SpD K (p1 Sm2) fun ds r => r = f1 dueR ds)
theorem due_no {x : D} (h : redD x = none) : D.tup [.str "no", .str "InvalidDirection", x] = dueR x := by unfold dueR; rw [h]
theorem due_yes {x : D} {p : PP} (h : redD x = some p) : D.tup [.str "told", toD p] = dueR x := by unfold dueR; rw [h]
theorem ok__law_reduced_due {k : Nat} (G : Gn mg) (F : Df K mg "_law_reduced_due" s__law_reduced_due) (C__law_is_whole : ClB P w K mg base k "_law_is_whole" s__law_is_whole "_law_x" isNum) (C__law_gcd : ClG P w K mg base k) (C__law_is_dir : ClB P w K mg base k "_law_is_dir" s__law_is_dir "_law_x" isDir) : ClRd P w K mg base (k + 1) := by
  refine cl_of F sc__law_reduced_due (fun _ _ _ _ _ _ us hl => match us, hl with | [_], _ => rfl) p1_len fun f cdv A outer s H E hr => ⟨_, (pss_cons (ps_if (PW.pt (pw_and (pt_val (pe_callB (show CallR _ (.builtin "isinstance") (rIsi K) from call_isi) (by rfl) G.g_isinstance (by decide +kernel) (pa_cons (pv 0) (pa_cons (pe_bltn (v := .ty "tuple") (u := .type "tuple") (by rfl) G.g_tuple (by decide +kernel) rfl) pa_nil)))) (pw_and (pt_cmpR op_eq (pe_callB (show CallR _ (.builtin "len") (fun xs H Q => ∃ x n, xs = [x] ∧ LenV K x H n ∧ Q (.int n) H) from call_len) (by rfl) G.g_len (by decide +kernel) (pa_cons (pv 0) pa_nil)) pe_int (nomark _)) (pw_and1 (pt_val (pe_callB (cr_all rfl) (by rfl) G.g_all (by decide +kernel) (pa_cons (pe_lc (own := [("_law_c", 2)]) (g := gName 2) (tt := tYes) rfl sc__law_reduced_due.nd (pi_tup (pv 0)) (blkOk_by (N := N__law_reduced_due) (sc := defScope s__law_reduced_due) (by decide +kernel)) (fun _ _ _ _ _ => pg_name (i := 2) sc__law_reduced_due.nd rfl (Or.inl rfl)) (fun _ _ _ _ _ => pts_nil) (fun _ _ _ _ _ => (pe_c C__law_is_whole hr (by omega) (by rfl) (pa_cons (pv 2) pa_nil)))) pa_nil))))))) (pss_cons (ps_set (i := 1) sc__law_reduced_due.nd rfl (Or.inl rfl) (pe_c C__law_gcd hr (by omega) (by rfl) (pa_cons (pe_ix (show IxR _ (rIxT K) from ix_tup) (pv 0) pe_int (fun _ _ => rfl)) (pa_cons (pe_ix (show IxR _ (rIxT K) from ix_tup) (pv 0) pe_int (fun _ _ => rfl)) pa_nil))))
      (pss_one (ps_if (PW.pt (pw_and (pt_cmpR op_gt (pv 1) pe_int (nomark _)) (pw_and1 (pt_val (pe_c C__law_is_dir hr (by omega) (by rfl) (pa_cons (pe_tup (pa_cons (pe_op op_fdivN (pe_ix (show IxR _ (rIxT K) from ix_tup) (pv 0) pe_int (fun _ _ => rfl)) (pv 1)) (pa_cons (pe_op op_fdivN (pe_ix (show IxR _ (rIxT K) from ix_tup) (pv 0) pe_int (fun _ _ => rfl)) (pv 1)) pa_nil))) pa_nil)))))) (pss_one (ps_ret (pe_tup (pa_cons pe_str (pa_cons (pe_tup (pa_cons (pe_op op_fdivN (pe_ix (show IxR _ (rIxT K) from ix_tup) (pv 0) pe_int (fun _ _ => rfl)) (pv 1)) (pa_cons (pe_op op_fdivN (pe_ix (show IxR _ (rIxT K) from ix_tup) (pv 0) pe_int (fun _ _ => rfl)) (pv 1)) pa_nil))) pa_nil))))) pss_nil))) pss_nil)
      (pss_one (ps_ret (pe_tup (pa_cons pe_str (pa_cons pe_str (pa_cons (pv 0) pa_nil))))))), fun B ds hp => ?_⟩
  obtain ⟨d, rfl, hd, hb⟩ := p1_ex hp
  show WS K B _ [.val d, .no, .no] _
  try dsimp only [cxOf, Cx.nox, Cx.blk]
  have hc := sm_cls hd
  by_cases hnp : isNumPair d = true
  · obtain ⟨a, b, rfl⟩ := np_ex hnp
    obtain ⟨ha, hb'⟩ := hb a b rfl
    repeat walk_at "dl"
    refine rc_len (n := 2) rfl (by decide) ?_
    repeat walk_at "dl"
    refine we_lcmap (fun d => .bl (isNum d)) (wi_tup ?_)
    repeat walk_at "dl"
    refine ⟨fun d m => ?_, ?_⟩
    · repeat walk_at "dl"
      exact ⟨sms_mem (sm_tup hd).2 m, rfl⟩
    repeat walk_at "dl"
    refine ro_ixT (d := .int a) rfl ?_
    repeat walk_at "dl"
    refine ro_ixT (d := .int b) rfl ?_
    repeat walk_at "dl"
    refine ⟨⟨⟨_, rfl⟩, _, rfl⟩, ?_⟩
    show WS K B _ [.val (.tup [.int a, .int b]), .val (.int ((Nat.gcd a.natAbs b.natAbs : Nat) : Int)), .no] _
    have hg1 := gcd_lt ha hb'
    have zero : ¬ (a = 0 ∧ b = 0) → 0 < Nat.gcd a.natAbs b.natAbs := fun n2 => by
      rcases Nat.eq_zero_or_pos (Nat.gcd a.natAbs b.natAbs) with e | e
      · exfalso
        have e1 := Nat.eq_zero_of_gcd_eq_zero_left e
        have e2 := Nat.eq_zero_of_gcd_eq_zero_right e
        exact n2 ⟨by omega, by omega⟩
      · exact e
    repeat walk_at "dl"
    refine ite2 (fun h3 => ?_) (fun h3 => ?_)
    · have hg0 : 0 < Nat.gcd a.natAbs b.natAbs := by have := of_decide_eq_true h3; omega
      have n2 : ¬ (a = 0 ∧ b = 0) := fun e => by rw [e.1, e.2] at hg0; simp at hg0
      repeat walk_at "dl"
      refine ro_ixT (d := .int a) rfl ?_
      repeat walk_at "dl"
      refine ro_int ⟨by omega, by omega⟩ ?_
      repeat walk_at "dl"
      refine ro_ixT (d := .int b) rfl ?_
      repeat walk_at "dl"
      refine ro_int ⟨by omega, by omega⟩ ?_
      repeat walk_at "dl"
      refine ⟨sm_toD (_, _), ?_⟩
      repeat walk_at "dl"
      refine ite2 (fun h4 => ?_) (fun h4 => ?_)
      · repeat walk_at "dl"
        refine ro_ixT (d := .int a) rfl ?_
        repeat walk_at "dl"
        refine ro_int ⟨by omega, by omega⟩ ?_
        repeat walk_at "dl"
        refine ro_ixT (d := .int b) rfl ?_
        repeat walk_at "dl"
        refine ro_int ⟨by omega, by omega⟩ ?_
        repeat walk_at "dl"
        refine due_yes (p := (a.fdiv ((Nat.gcd a.natAbs b.natAbs : Nat) : Int), b.fdiv ((Nat.gcd a.natAbs b.natAbs : Nat) : Int))) ?_
        show redP a b = _
        unfold redP
        rw [if_neg n2, if_pos h4]
      · repeat walk_at "dl"
        refine due_no ?_
        show redP a b = none
        unfold redP
        rw [if_neg n2, if_neg h4]
    · repeat walk_at "dl"
      refine due_no ?_
      show redP a b = none
      unfold redP
      have e : a = 0 ∧ b = 0 := Classical.byContradiction fun n2 => h3 (decide_eq_true (by have := zero n2; omega))
      rw [if_pos e]
  · have hn := red_not hnp
    cases d with
    | tup xs =>
      obtain ⟨hl, hs⟩ := sm_tup hd
      have hnp' : ¬ (decide ((xs.length : Int) = 2) && xs.all isNum) = true := hnp
      repeat walk_at "dl"
      refine ite2 (fun h => ?_) (fun h => ?_)
      · repeat walk_at "dl"
        refine we_lcmap (fun d => .bl (isNum d)) (wi_tup ?_)
        repeat walk_at "dl"
        refine ⟨by omega, fun d m => ?_, ?_⟩
        · repeat walk_at "dl"
          exact ⟨sms_mem hs m, rfl⟩
        · repeat walk_at "dl"
          refine ite2 (fun h2 => absurd (by rw [h, Bool.true_and]; exact h2) hnp') (fun h2 => ?_)
          repeat walk_at "dl"
          exact due_no hn
      · repeat walk_at "dl"
        exact due_no hn
    | cls n => exact Bool.noConfusion hc
    | exn _ _ _ => exact Bool.noConfusion hc
    | _ => (repeat walk_at "dl"); exact due_no hn
/-! ### _law_dir, of directions -/
abbrev s__law_dir : Stmt := topS 29
abbrev N__law_dir : List Str := ["_law_box_here", "_law_near", "_law_way_z", "_law_size", "_law_by", "_law_u", "_law_v"]
theorem sc__law_dir : FnScope N__law_dir ["_law_box_here"] (defScope s__law_dir) := ⟨rfl, rfl, rfl, by decide +kernel, rfl, by decide +kernel, by decide +kernel⟩
abbrev boxPre : List D → Prop := p1 fun b => b = .box
def dirPost : List D → D → Prop := fun _ r => ∃ p : PP, r = toD p ∧ IsDr p
abbrev ClDir (P : Program) (w : World) (K : PySem.W.Frag) (mg : Str → Option Value) (base : Heap) (k : Nat) := Cl P w K mg base k "_law_dir" s__law_dir ["_law_box_here"] (SpD K boxPre dirPost)
theorem gcd_small {u v : Int} (hu : u.natAbs ≤ 999) (hv : v.natAbs ≤ 999) : Nat.gcd u.natAbs v.natAbs ≤ 999 := by
  by_cases h : u.natAbs = 0
  · rw [h, Nat.gcd_zero_left]; exact hv
  · exact Nat.le_trans (Nat.gcd_le_left _ (by omega)) hu
theorem dr_div {u v : Int} (hu : u.natAbs ≤ 999) (hv : v.natAbs ≤ 999) (hg : 0 < Nat.gcd u.natAbs v.natAbs) : IsDr (u.fdiv ((Nat.gcd u.natAbs v.natAbs : Nat) : Int), v.fdiv ((Nat.gcd u.natAbs v.natAbs : Nat) : Int)) := by
  generalize hgd : Nat.gcd u.natAbs v.natAbs = g at hg
  have d1 : g ∣ u.natAbs := hgd ▸ Nat.gcd_dvd_left ..
  have d2 : g ∣ v.natAbs := hgd ▸ Nat.gcd_dvd_right ..
  have e1 : ((g : Int)) ∣ u := Int.ofNat_dvd_left.mpr d1
  have e2 : ((g : Int)) ∣ v := Int.ofNat_dvd_left.mpr d2
  obtain ⟨a, rfl⟩ := e1
  obtain ⟨b, rfl⟩ := e2
  have f : ∀ x : Int, ((g : Int) * x).fdiv (g : Int) = x := fun x => by rw [Int.mul_comm]; exact Int.mul_fdiv_cancel x (by omega)
  rw [f, f]
  have n1 : ((g : Int) * a).natAbs = g * a.natAbs := by rw [Int.natAbs_mul]; rfl
  have n2 : ((g : Int) * b).natAbs = g * b.natAbs := by rw [Int.natAbs_mul]; rfl
  rw [n1] at hu hgd
  rw [n2] at hv hgd
  rw [Nat.gcd_mul_left] at hgd
  have g1 : Nat.gcd a.natAbs b.natAbs = 1 := by
    have : g * Nat.gcd a.natAbs b.natAbs = g * 1 := by rw [hgd, Nat.mul_one]
    exact Nat.eq_of_mul_eq_mul_left hg this
  have b1 : a.natAbs ≤ g * a.natAbs := Nat.le_mul_of_pos_left _ hg
  have b2 : b.natAbs ≤ g * b.natAbs := Nat.le_mul_of_pos_left _ hg
  refine ⟨g1, ?_, ?_, ?_, ?_⟩ <;> show _ ≤ _ <;> dsimp only <;> omega
theorem ok__law_dir {k : Nat} (G : Gn mg) (F : Df K mg "_law_dir" s__law_dir) (C__law_take : ClT P w K mg base k) (C__law_pick : ClP P w K mg base k) (C__law_gcd : ClG P w K mg base k) : ClDir P w K mg base (k + 1) := by
  refine cl_of F sc__law_dir (fun _ _ _ _ _ _ us hl => match us, hl with | [_], _ => rfl) p1_len fun f cdv A outer s H E hr => ⟨_, (pss_cons (ps_set (i := 1) sc__law_dir.nd rfl (Or.inl rfl) (pe_lst (pa_cons (pe_tup (pa_cons pe_int (pa_cons pe_int pa_nil))) (pa_cons (pe_tup (pa_cons pe_int (pa_cons pe_int pa_nil))) (pa_cons (pe_tup (pa_cons (pe_un un_neg pe_int) (pa_cons pe_int pa_nil))) (pa_cons (pe_tup (pa_cons pe_int (pa_cons (pe_un un_neg pe_int) pa_nil))) (pa_cons (pe_tup (pa_cons pe_int (pa_cons pe_int pa_nil))) (pa_cons (pe_tup (pa_cons (pe_un un_neg pe_int) (pa_cons pe_int pa_nil))) (pa_cons (pe_tup (pa_cons (pe_un un_neg pe_int) (pa_cons (pe_un un_neg pe_int) pa_nil))) (pa_cons (pe_tup (pa_cons pe_int (pa_cons (pe_un un_neg pe_int) pa_nil))) (pa_cons (pe_tup (pa_cons pe_int (pa_cons pe_int pa_nil))) (pa_cons (pe_tup (pa_cons (pe_un un_neg pe_int) (pa_cons pe_int pa_nil))) pa_nil))))))))))))
      (pss_cons (ps_set (i := 2) sc__law_dir.nd rfl (Or.inl rfl) (pe_c C__law_take hr (by omega) (by rfl) (pa_cons (pv 0) (pa_cons pe_int pa_nil))))
      (pss_cons (ps_if (pt_cmpR op_lt (pv 2) pe_int (nomark _)) (pss_one (ps_ret (pe_c C__law_pick hr (by omega) (by rfl) (pa_cons (pv 0) (pa_cons (pv 1) pa_nil))))) pss_nil)
      (pss_cons (ps_set (i := 3) sc__law_dir.nd rfl (Or.inl rfl) (pe_ifExp (pt_cmpR op_eq (pv 2) pe_int (nomark _)) pe_int pe_int))
      (pss_cons (ps_par (i := 5) (j := 6) (by rfl) sc__law_dir.nd rfl rfl (by decide) rfl rfl (pa_cons (pe_op op_sub (pe_c C__law_take hr (by omega) (by rfl) (pa_cons (pv 0) (pa_cons (pe_op op_add (pe_op op_mul pe_int (pv 3)) pe_int) pa_nil))) (pv 3)) (pa_cons (pe_op op_sub (pe_c C__law_take hr (by omega) (by rfl) (pa_cons (pv 0) (pa_cons (pe_op op_add (pe_op op_mul pe_int (pv 3)) pe_int) pa_nil))) (pv 3)) pa_nil)) (by rfl))
      (pss_cons (ps_set (i := 4) sc__law_dir.nd rfl (Or.inl rfl) (pe_c C__law_gcd hr (by omega) (by rfl) (pa_cons (pv 5) (pa_cons (pv 6) pa_nil))))
      (pss_one (ps_ret (pe_ifExp (pt_cmpR op_gt (pv 4) pe_int (nomark _)) (pe_tup (pa_cons (pe_op op_fdivN (pv 5) (pv 4)) (pa_cons (pe_op op_fdivN (pv 6) (pv 4)) pa_nil))) (pe_tup (pa_cons pe_int (pa_cons pe_int pa_nil)))))))))))), fun B ds hp => ?_⟩
  obtain ⟨_, rfl, rfl⟩ := p1_ex hp
  show WS K B _ [.val .box, .no, .no, .no, .no, .no, .no] _
  try dsimp only [cxOf, Cx.nox, Cx.blk]
  repeat walk_at "dl"
  refine ⟨⟨rfl, 4, rfl, by decide, by decide⟩, ?_⟩
  rintro d ⟨n', i, e, rfl, hi0, hi1⟩
  cases e
  try dsimp only [List.set]
  repeat walk_at "dl"
  refine ite2 (fun h => ?_) (fun h => ?_)
  · repeat walk_at "dl"
    refine ⟨⟨rfl, _, rfl, by decide, by decide⟩, ?_⟩
    rintro d ⟨xs, e, m⟩
    cases e
    simp only [List.mem_cons, List.not_mem_nil, or_false] at m
    rcases m with rfl | rfl | rfl | rfl | rfl | rfl | rfl | rfl | rfl | rfl <;> exact ⟨(_, _), rfl, by unfold IsDr; decide⟩
  · repeat walk_at "dl"
    refine ite2 (fun h2 => ?_) (fun h2 => ?_)
    all_goals repeat walk_at "dl"
    all_goals refine ro_int (.inl ⟨by decide, by decide⟩) ?_
    all_goals repeat walk_at "dl"
    all_goals refine ⟨⟨rfl, _, rfl, by decide, by decide⟩, ?_⟩
    all_goals rintro d ⟨n', a, e, rfl, ha0, ha1⟩
    all_goals cases e
    all_goals repeat walk_at "dl"
    all_goals refine ro_int (.inl ⟨by decide, by decide⟩) ?_
    all_goals repeat walk_at "dl"
    all_goals refine ⟨⟨rfl, _, rfl, by decide, by decide⟩, ?_⟩
    all_goals rintro d ⟨n', b, e, rfl, hb0, hb1⟩
    all_goals cases e
    all_goals repeat walk_at "dl"
    all_goals refine ⟨⟨⟨_, rfl⟩, _, rfl⟩, ?_⟩
    all_goals dsimp only [f2, gcdF, List.set]
    all_goals repeat walk_at "dl"
    all_goals (refine ite2 (fun h3 => ?_) (fun h3 => ?_))
    all_goals repeat walk_at "dl"
    all_goals first | exact ⟨(0, 1), rfl, by unfold IsDr; decide⟩ | skip
    all_goals have h4 := of_decide_eq_true h3
    all_goals (first
      | have hg := gcd_small (u := a - 9) (v := b - 9) (by omega) (by omega); have hd := dr_div (u := a - 9) (v := b - 9) (by omega) (by omega) (by omega); refine ro_int ⟨by omega, by omega⟩ ?_
      | have hg := gcd_small (u := a - 999) (v := b - 999) (by omega) (by omega); have hd := dr_div (u := a - 999) (v := b - 999) (by omega) (by omega) (by omega); refine ro_int ⟨by omega, by omega⟩ ?_)
    all_goals repeat walk_at "dl"
    all_goals refine ro_int ⟨by omega, by omega⟩ ?_
    all_goals repeat walk_at "dl"
    all_goals exact ⟨_, rfl, hd⟩

end
/-! #### Qm -/
section
variable {P : Program} {w : World} {K : PySem.W.Frag} {mg : Str → Option Value} {base : Heap}
/-! ### own9 -/
/-! ### _law_pair -/
abbrev s__law_pair : Stmt := topS 36
abbrev N__law_pair : List Str := ["_law_box_here", "_law_great", "_law_d", "_law_by"]
theorem sc__law_pair : FnScope N__law_pair ["_law_box_here"] (defScope s__law_pair) := ⟨rfl, rfl, rfl, by decide +kernel, rfl, by decide +kernel, by decide +kernel⟩
def Bg (d : D) : Prop := ∃ a b : Int, d = .tup [.int a, .int b] ∧ a.natAbs ≤ 999999999 ∧ b.natAbs ≤ 999999999
abbrev ClPr (P : Program) (w : World) (K : PySem.W.Frag) (mg : Str → Option Value) (base : Heap) (k : Nat) := Cl P w K mg base k "_law_pair" s__law_pair ["_law_box_here"] (SpD K boxPre fun _ r => Bg r)
theorem ok__law_pair {k : Nat} (G : Gn mg) (F : Df K mg "_law_pair" s__law_pair) (C__law_take : ClT P w K mg base k) (C__law_pick : ClP P w K mg base k) (C__law_dir : ClDir P w K mg base k) : ClPr P w K mg base (k + 1) := by
  refine cl_of F sc__law_pair (fun _ _ _ _ _ _ us hl => match us, hl with | [_], _ => rfl) p1_len fun f cdv A outer s H E hr => ⟨_, (pss_cons (ps_par (i := 2) (j := 3) (by rfl) sc__law_pair.nd rfl rfl (by decide) rfl rfl (pa_cons (pe_c C__law_dir hr (by omega) (by rfl) (pa_cons (pv 0) pa_nil)) (pa_cons (pe_c C__law_pick hr (by omega) (by rfl) (pa_cons (pv 0) (pa_cons (pe_lst (pa_cons pe_int (pa_cons pe_int (pa_cons pe_int (pa_cons pe_int (pa_cons (pe_op op_add pe_int (pe_c C__law_take hr (by omega) (by rfl) (pa_cons (pv 0) (pa_cons (pe_op op_pow pe_int pe_int) pa_nil)))) (pa_cons pe_int pa_nil))))))) pa_nil))) pa_nil)) (by rfl))
      (pss_cons (ps_set (i := 1) sc__law_pair.nd rfl (Or.inl rfl) (pe_tup (pa_cons (pe_op op_sub (pe_c C__law_take hr (by omega) (by rfl) (pa_cons (pv 0) (pa_cons (pe_op op_pow pe_int pe_int) pa_nil))) (pe_op op_pow pe_int pe_int)) (pa_cons (pe_op op_sub (pe_op op_sub (pe_op op_pow pe_int pe_int) pe_int) (pe_c C__law_take hr (by omega) (by rfl) (pa_cons (pv 0) (pa_cons (pe_op op_pow pe_int pe_int) pa_nil)))) pa_nil))))
      (pss_one (ps_ret (pe_c C__law_pick hr (by omega) (by rfl) (pa_cons (pv 0) (pa_cons (pe_lst (pa_cons (pe_tup (pa_cons (pe_op op_mul (pe_ix (show IxR _ (rIxT K) from ix_tup) (pv 2) pe_int (fun _ _ => rfl)) (pv 3)) (pa_cons (pe_op op_mul (pe_ix (show IxR _ (rIxT K) from ix_tup) (pv 2) pe_int (fun _ _ => rfl)) (pv 3)) pa_nil))) (pa_cons (pe_tup (pa_cons (pe_op op_mul (pe_ix (show IxR _ (rIxT K) from ix_tup) (pv 2) pe_int (fun _ _ => rfl)) (pv 3)) (pa_cons (pe_op op_mul (pe_ix (show IxR _ (rIxT K) from ix_tup) (pv 2) pe_int (fun _ _ => rfl)) (pv 3)) pa_nil))) (pa_cons (pv 1) (pa_cons (pe_tup (pa_cons pe_int (pa_cons pe_int pa_nil))) (pa_cons (pe_tup (pa_cons pe_int (pa_cons (pe_op op_sub pe_int (pv 3)) pa_nil))) (pa_cons (pe_tup (pa_cons (pe_op op_mul pe_int (pv 3)) (pa_cons (pv 3) pa_nil))) (pa_cons (pe_tup (pa_cons (pe_op op_mul pe_int (pv 3)) (pa_cons (pv 3) pa_nil))) pa_nil)))))))) pa_nil))))))), fun B ds hp => ?_⟩
  obtain ⟨_, rfl, rfl⟩ := p1_ex hp
  show WS K B _ [.val .box, .no, .no, .no] _
  try dsimp only [cxOf, Cx.nox, Cx.blk]
  repeat walk_at "dl"
  refine ⟨rfl, ?_⟩
  rintro _ ⟨p, rfl, hp1⟩
  repeat walk_at "dl"
  refine ro_int (j := 5) ⟨by decide, by decide, by decide⟩ ?_
  repeat walk_at "dl"
  refine ⟨⟨rfl, _, rfl, by decide, by decide⟩, ?_⟩
  rintro _ ⟨n', t, e, rfl, ht0, ht1⟩
  cases e
  have ht2 : t < 100000 := ht1
  repeat walk_at "dl"
  refine ⟨⟨rfl, _, rfl, (by show 0 < 6; decide), (by show 6 ≤ 1000; decide)⟩, ?_⟩
  rintro d ⟨xs, e, m⟩
  cases e
  obtain ⟨by', rfl, hb0, hb1⟩ : ∃ y : Int, d = D.int y ∧ 0 ≤ y ∧ y ≤ 100000 := by
    simp only [List.mem_cons, List.not_mem_nil, or_false] at m
    rcases m with rfl | rfl | rfl | rfl | rfl | rfl
    · exact ⟨1, rfl, by decide, by decide⟩
    · exact ⟨2, rfl, by decide, by decide⟩
    · exact ⟨3, rfl, by decide, by decide⟩
    · exact ⟨12, rfl, by decide, by decide⟩
    · exact ⟨1 + t, rfl, by omega, by omega⟩
    · exact ⟨0, rfl, by decide, by decide⟩
  clear m
  repeat walk_at "dl"
  refine ro_int (j := 9) ⟨by decide, by decide, by decide⟩ ?_
  repeat walk_at "dl"
  refine ⟨⟨rfl, _, rfl, by decide, by decide⟩, ?_⟩
  rintro _ ⟨n', t1, e, rfl, h10, h11⟩
  cases e
  have h12 : t1 < 1000000000 := h11
  repeat walk_at "dl"
  refine ro_int (j := 8) ⟨by decide, by decide, by decide⟩ ?_
  repeat walk_at "dl"
  refine ro_int (j := 9) ⟨by decide, by decide, by decide⟩ ?_
  repeat walk_at "dl"
  refine ro_int (j := 9) ⟨by decide, by decide, by decide⟩ ?_
  repeat walk_at "dl"
  refine ⟨⟨rfl, _, rfl, by decide, by decide⟩, ?_⟩
  rintro _ ⟨n', t2, e, rfl, h20, h21⟩
  cases e
  have h22 : t2 < 1000000000 := h21
  have e8 : (10 : Int) ^ (8 : Int).toNat = 100000000 := by decide
  have e9 : (10 : Int) ^ (9 : Int).toNat = 1000000000 := by decide
  rw [e8, e9]
  obtain ⟨_, q1, q2, q3, q4⟩ := hp1
  have m1 : ∀ u : Int, -999 ≤ u → u ≤ 999 → (u * by').natAbs ≤ 99900000 := fun u a b => by
    have hu : u.natAbs ≤ 999 := by omega
    have hb : by'.natAbs ≤ 100000 := by omega
    have := Nat.mul_le_mul hu hb
    rw [Int.natAbs_mul]
    exact this
  repeat walk_at "dl"
  refine ro_ixT (d := .int p.1) rfl ?_
  repeat walk_at "dl"
  refine ro_int (.inl ⟨by omega, by omega⟩) ?_
  repeat walk_at "dl"
  refine ro_ixT (d := .int p.2) rfl ?_
  repeat walk_at "dl"
  refine ro_int (.inl ⟨by omega, by omega⟩) ?_
  repeat walk_at "dl"
  refine ro_ixT (d := .int p.1) rfl ?_
  repeat walk_at "dl"
  refine ro_int (.inl ⟨by omega, by omega⟩) ?_
  repeat walk_at "dl"
  refine ro_ixT (d := .int p.2) rfl ?_
  repeat walk_at "dl"
  refine ro_int (.inl ⟨by omega, by omega⟩) ?_
  repeat walk_at "dl"
  refine ro_int (.inl ⟨by decide, by decide⟩) ?_
  repeat walk_at "dl"
  refine ro_int (.inl ⟨by decide, by decide⟩) ?_
  repeat walk_at "dl"
  refine ⟨⟨rfl, _, rfl, (by show 0 < 7; decide), (by show 7 ≤ 1000; decide)⟩, ?_⟩
  rintro d ⟨xs, e, m⟩
  cases e
  show Bg d
  simp only [List.mem_cons, List.not_mem_nil, or_false] at m
  have ma := m1 p.1 q1 q2
  have mb := m1 p.2 q3 q4
  rcases m with rfl | rfl | rfl | rfl | rfl | rfl | rfl
  · exact ⟨_, _, rfl, by omega, by omega⟩
  · exact ⟨_, _, rfl, by omega, by omega⟩
  · exact ⟨_, _, rfl, by omega, by omega⟩
  · exact ⟨_, _, rfl, by decide, by decide⟩
  · exact ⟨_, _, rfl, by decide, by omega⟩
  · exact ⟨_, _, rfl, by omega, by omega⟩
  · exact ⟨_, _, rfl, by omega, by omega⟩

end
/-! #### Qn -/
section
variable {P : Program} {w : World} {K : PySem.W.Frag} {mg : Str → Option Value} {base : Heap}
/-! ### own10 -/
/-! ### _law_fields, where an error is handled -/
theorem ro_inF {B : Bt} {Pp : D → Prop} {z : Str} {ds : List D} {c : Bool} (hf : ds.all D.flat = true) (hc : inV (.str z) (ds.map D.v) = c) (p : Pp (.bl c)) : RO K B (rIn K false) (.str z) (.tup ds) Pp := fun G H x y _ o hx hy q => by
  have key : ∀ {ds : List D} {vs : List V}, Dds K B G vs ds → ds.all D.flat = true → vs = ds.map D.v ∧ vs.all flatV = true := by
    intro ds
    induction ds with
    | nil => intro vs h _; cases h; exact ⟨rfl, rfl⟩
    | cons d ds ih =>
      intro vs h hf
      cases h with
      | cons h t =>
        rw [List.all_cons, Bool.and_eq_true] at hf
        obtain ⟨e1, e2⟩ := ih t hf.2
        have e3 := h.flat hf.1
        refine ⟨by rw [e3, e1]; rfl, ?_⟩
        rw [List.all_cons, e2, Bool.and_true, e3]
        cases d <;> first | rfl | exact Bool.noConfusion hf.1
  cases hx
  cases hy with
  | tup hg t =>
    obtain ⟨e1, e2⟩ := key t hf
    refine ⟨_, _, rfl, .inr (SqT.of (o.u _ _ hg)), rfl, e2, ?_⟩
    rw [if_neg (by decide), e1, hc]
    exact q.nil o (.bl c) p
abbrev s__law_fields : Stmt := topS 25
abbrev N__law_fields : List Str := ["_law_e"]
theorem sc__law_fields : FnScope N__law_fields ["_law_e"] (defScope s__law_fields) := ⟨rfl, rfl, rfl, by decide +kernel, rfl, by decide +kernel, by decide +kernel⟩
def fldPre (K : PySem.W.Frag) : List D → Prop := p1 fun d => ∃ C x, d = .exn C ["code", "value"] [.str "InvalidDirection", x] ∧ XfC K C ∧ PySem.W.findIn K (.ref C) "code" = some none ∧ PySem.W.findIn K (.ref C) "value" = some none
def fldPost : List D → D → Prop := fun ds r => ∃ C x, ds = [.exn C ["code", "value"] [.str "InvalidDirection", x]] ∧ r = .tup [x]
theorem lk_code {x : D} : ([(("code" : Str)), ("value" : Str)].zip [D.str "InvalidDirection", x]).lookup ("code" : Str) = some (.str "InvalidDirection") := by
  rw [List.zip_cons_cons, lookup_putD, if_pos rfl]
theorem lk_value {x : D} : ([(("code" : Str)), ("value" : Str)].zip [D.str "InvalidDirection", x]).lookup ("value" : Str) = some x := by
  rw [List.zip_cons_cons, lookup_putD, if_neg (by decide), List.zip_cons_cons, lookup_putD, if_pos rfl]
abbrev ClF (P : Program) (w : World) (K : PySem.W.Frag) (mg : Str → Option Value) (base : Heap) (k : Nat) := ClHot P w K mg base k "_law_fields" ["_law_e"] (SpD K (fldPre K) fldPost)
theorem ok__law_fields {k : Nat} (F : Df K mg "_law_fields" s__law_fields) : ClF P w K mg base (k + 1) := by
  refine clHot_of F sc__law_fields (fun _ _ _ _ _ _ us hl => match us, hl with | [_], _ => rfl) p1_len fun f cdv A outer s H E hr => ⟨_, (pss_cons (ps_if (pt_cmpR op_in_seq (pe_xv (pv 0)) (pe_tup (pa_cons pe_str (pa_cons pe_str pa_nil))) (by rfl)) (pss_one (ps_ret (pe_tup (pa_cons (pe_xv (pv 0)) pa_nil)))) pss_nil)
      (pss_cons (ps_if (pt_cmpR op_in_seq (pe_xv (pv 0)) (pe_tup (pa_cons pe_str (pa_cons pe_str pa_nil))) (by rfl)) (pss_one (ps_ret (pe_tup (pa_cons (pe_xv (pv 0)) (pa_cons (pe_xv (pv 0)) pa_nil))))) pss_nil)
      (pss_cons (ps_if (pt_cmpR op_in_seq (pe_xv (pv 0)) (pe_tup (pa_cons pe_str (pa_cons pe_str pa_nil))) (by rfl)) (pss_one (ps_ret (pe_tup (pa_cons (pe_xv (pv 0)) pa_nil)))) pss_nil)
      (pss_cons (ps_if (pt_cmpR op_in_seq (pe_xv (pv 0)) (pe_tup (pa_cons pe_str (pa_cons pe_str pa_nil))) (by rfl)) (pss_one (ps_ret (pe_ifExp (pt_cmpR op_eq (pe_xv (pv 0)) pe_str (nomark _)) (pe_tup (pa_cons (pe_xv (pv 0)) pa_nil)) (pe_tup (pa_cons (pe_xv (pv 0)) (pa_cons (pe_xv (pv 0)) pa_nil)))))) pss_nil)
      (pss_one (ps_ret (pe_ifExp (pt_cmpR op_in_seq (pe_xv (pv 0)) (pe_tup (pa_cons pe_str (pa_cons pe_str (pa_cons pe_str (pa_cons pe_str (pa_cons pe_str (pa_cons pe_str pa_nil))))))) (by rfl)) (pe_tup (pa_cons (pe_xv (pv 0)) pa_nil)) (pe_tup pa_nil)))))))), fun B ds hp => ?_⟩
  obtain ⟨d, rfl, C, x, rfl, hx, hn1, hn2⟩ := p1_ex hp
  show WS K B _ [.val (.exn C ["code", "value"] [.str "InvalidDirection", x])] _
  try dsimp only [cxT, cxOf, Cx.nox, Cx.blk]
  refine ws_seq (ws_if (wt_test (we_op (we_xv (we_var rfl ⟨C, _, _, _, rfl, lk_code, ⟨hx, hn1⟩, ?_⟩)))))
  repeat walk_at "dl"
  refine ro_inF rfl (c := true) (by decide +kernel) ⟨true, rfl, ?_⟩
  refine iteT (ws_ret (we_tup (wa_cons (we_xv (we_var rfl ⟨C, _, _, _, rfl, lk_value, ⟨hx, hn2⟩, wa_nil ⟨(by show 1 ≤ 1000; decide), C, x, rfl, rfl⟩⟩)))))

end
/-! #### Qo -/
section
variable {P : Program} {w : World} {K : PySem.W.Frag} {mg : Str → Option Value} {base : Heap}
/-! ### own11 -/
/-! ### _law_got -/
abbrev s__law_got : Stmt := topS 26
abbrev N__law_got : List Str := ["_law_ask", "_law_e"]
theorem sc__law_got : FnScope N__law_got ["_law_ask"] (defScope s__law_got) := ⟨rfl, rfl, rfl, by decide +kernel, rfl, by decide +kernel, by decide +kernel⟩
open LamX in
theorem pe_gotK {X : Cx} {c Pt CL CM : Addr} {kF j : Nat} {t : XK → TE} {params : Arguments} {body : Expr} {scope : Scope} {p lpos pos : Pos} {T : List (Addr × Str)} (F : Df X.K X.mg "_law_got" s__law_got) (hg : Gl X "_law_got") (m1 : X.mg "LotError" = some (.ref CL)) (m2 : X.mg "Missing" = some (.ref CM)) (C_f : ClF X.prog X.w X.K X.mg X.base kF)
    (TB : TabB X.base X.mg c Pt) (hcode : X.env.code = .ref c) (hT : T = [(Pt, X.env.qual ++ "<lambda>")]) (hr : Room (j + 2) X.A) (hj : kF ≤ j + 1) (L : LamS X.env.scope scope) (hdef : defaultsOf params X.env = ([], []))
    (hbind : ∀ (q : Str) (cl : List (Str × Addr)) (pm cv ctv : Value), bindArgs (PySem.W.kla_fn "<lambda>" q params body scope cl pm cv ctv) ⟨[], []⟩ = pure [])
    (hbody : ∀ (A : Around) (outer : List Env) (s : Shared) (H : Hp) (E : XK) (f c' : Addr), Room j (A.deeper (lamEnv X scope s.heap.objs.size f c')) → PE (lamCx X A outer s H E scope f c') body (t E)) :
    PE X (.Call (.Name "_law_got" p) [.Lambda params body scope lpos] [] pos) (tLam T (TGot X.K (.ref CL) (.ref CM) (SpD X.K (fldPre X.K) fldPost)) t) := by
  obtain ⟨g, fd, F, hm⟩ := F.ex
  have kp := F.kp
  have hb : L2.Binds X.K fd ["_law_ask"] [] := F.binds fun _ _ _ _ _ _ us hl => match us, hl with | [_], _ => rfl
  obtain ⟨oc, od, kV, doc, pm, an, cdv, ct, osl, rfl, lk, hcd⟩ := F.ex
  obtain ⟨ff, fdF, FF, mf, kf, bf⟩ := C_f.ex
  exact pe_lamS (k := j) hg hm kp lk hcd hb sc__law_got rfl (.inl rfl) (got_gives (kq := 0) (j := j) sc__law_got rfl rfl (by decide) (by decide) rfl m1 m2 rfl mf kf bf (by decide) (by decide) (by decide) FF hj) TB hcode (by rw [hT]; exact List.mem_singleton.mpr rfl) (fun q hq _ => by rw [hT] at hq; rw [List.mem_singleton.mp hq]) hr L hdef hbind hbody

end
/-! #### Qp -/
section
variable {P : Program} {w : World} {K : PySem.W.Frag} {mg : Str → Option Value} {base : Heap}
/-! ### own12 -/
structure Xg (K : PySem.W.Frag) (C CL CM : Addr) : Prop where
  xf : XfC K C
  nc : PySem.W.findIn K (.ref C) "code" = some none
  nv : PySem.W.findIn K (.ref C) "value" = some none
  m : PySem.W.exmAny K (.ref C) [.ref CL, .ref CM] = some true
theorem we_gotD {B : Bt} {X : Xc} {δ : List Sd} {Pp R : D → Prop} {C CL CM : Addr} {te : XK → TE} {xd : D} {Φ : Prop} (XG : Xg K C CL CM) (hb : ∀ E : XK, WEx K B { W := fun cls d _ H => E cls d H, ex := fun _ C' ks es => excD C xd C' ks es ∧ Φ } (te E) δ R)
    (hv : ∀ d, R d → Pp (.tup [.str "told", d])) (hx : Φ → Pp (.tup [.str "no", .str "InvalidDirection", xd])) : WEx K B X (LamX.tLam B.T (TGot K (.ref CL) (.ref CM) (SpD K (fldPre K) fldPost)) te) δ Pp := by
  refine we_got (R := R) (exc := fun C' ks es => excD C xd C' ks es ∧ Φ) hb hv ?_
  rintro C' ks es ⟨⟨rfl, rfl, rfl⟩, hΦ⟩
  refine ⟨XG.m, ?_⟩
  refine ws_ret (we_op (we_tup (wa_cons (we_str (wa_cons (we_xv (we_var rfl ⟨C', _, _, _, rfl, lk_code, ⟨XG.xf, XG.nc⟩, wa_nil ⟨(by show 2 ≤ 1000; decide), ?_⟩⟩)))))))
  refine we_call (wa_cons (we_var rfl (wa_nil ⟨⟨C', xd, rfl, XG.xf, XG.nc, XG.nv⟩, ?_⟩)))
  rintro _ ⟨C2, x2, e, rfl⟩
  cases e
  exact ro_catA (by show 2 + 1 ≤ 1000; decide) (hx hΦ)
def rTupOf (K : PySem.W.Frag) : List V → Hp → VK → Prop := fun xs H Q => ∃ p ys, xs = [.ref p] ∧ ((SqL K H p ys ∧ ∀ l, H l = none → Q (.ref l) (upd H l (.tup ys))) ∨ (SqT K H p ys ∧ Q (.ref p) H))
section
variable {B : Bt} {X : Xc} {δ : List Sd} {Pp : D → Prop}
theorem we_revL {te : TE} (h : WEx K B X te δ fun d => ∃ ds, d = .lst ds ∧ Pp (.lst ds.reverse)) : WEx K B X (tRevL K te) δ Pp := fun G0 H0 σ G H Q s xx q =>
  h G0 H0 σ G H _ s xx fun v d G1 H1 g1 o1 hd ⟨ds, e, p⟩ => by
    subst e
    cases hd with
    | lst hg t => exact ⟨_, _, rfl, SqL.of (o1.u _ _ hg), fun r hr => (q.on g1 o1).new o1 nt_lst hr (.lst upd_same (t.rev.mono (same_upd (o1.fresh hr)))) p⟩
theorem rc_tupL {ds : List D} (p : Pp (.tup ds)) : RC K B (rTupOf K) [.lst ds] Pp := fun G H vs Q o hs q => by
  cases hs with
  | cons h t =>
    cases t
    cases h with
    | lst hg t => exact ⟨_, _, rfl, .inl ⟨SqL.of (o.u _ _ hg), fun l hl => q.new o nt_tup hl (.tup upd_same (t.mono (same_upd (o.fresh hl)))) p⟩⟩
end
/-! ### _law_odd, told more -/
def smB : D → Bool
  | .tup [.int a, .int b] => decide (a.natAbs < 1073741824) && decide (b.natAbs < 1073741824)
  | _ => true
def Ov (r : D) : Prop := sm r = true ∧ plain 2 r = true ∧ smB r = true
theorem Ov.sm2 {r : D} (h : Ov r) : Sm2 r := by
  refine ⟨h.1, ?_⟩
  rintro a b rfl
  have := h.2.2
  unfold smB at this
  rw [Bool.and_eq_true, decide_eq_true_eq, decide_eq_true_eq] at this
  exact this
abbrev ClOv (P : Program) (w : World) (K : PySem.W.Frag) (mg : Str → Option Value) (base : Heap) (k : Nat) := Cl P w K mg base k "_law_odd" s__law_odd ["_law_box_here"] (SpD K oddPre fun _ r => Ov r)
theorem ok__law_odd2 {k : Nat} (G : Gn mg) (F : Df K mg "_law_odd" s__law_odd) (C__law_pick : ClP P w K mg base k) : ClOv P w K mg base (k + 1) := by
  refine cl_of F sc__law_odd (fun _ _ _ _ _ _ us hl => match us, hl with | [_], _ => rfl) p1_len fun f cdv A outer s H E hr => ⟨_, (pss_one (ps_ret (pe_c C__law_pick hr (by omega) (by rfl) (pa_cons (pv 0) (pa_cons (pe_lst (pa_cons pe_non (pa_cons pe_bl (pa_cons pe_bl (pa_cons pe_int (pa_cons (pe_un un_neg pe_int) (pa_cons pe_int (pa_cons pe_str (pa_cons pe_str (pa_cons pe_str (pa_cons pe_str (pa_cons pe_str (pa_cons pe_str (pa_cons (pe_tup pa_nil) (pa_cons (pe_lst pa_nil) (pa_cons pe_dnewK (pa_cons (pe_tup (pa_cons pe_str pa_nil)) (pa_cons (pe_lst (pa_cons pe_str pa_nil)) (pa_cons (pe_disp (pps_cons pe_str pe_int pps_nil) (by rfl) (by rfl) (fun z => by cases z) (by decide)) (pa_cons (pe_tup (pa_cons pe_int (pa_cons pe_int pa_nil))) (pa_cons (pe_lst (pa_cons pe_int pa_nil)) (pa_cons (pe_tup (pa_cons pe_non pa_nil)) (pa_cons (pe_tup (pa_cons (pe_tup (pa_cons pe_int (pa_cons pe_int pa_nil))) (pa_cons (pe_tup (pa_cons pe_int (pa_cons pe_int pa_nil))) pa_nil))) pa_nil))))))))))))))))))))))) pa_nil))))), fun B ds hp => ?_⟩
  obtain ⟨_, rfl, rfl⟩ := p1_ex hp
  show WS K B _ [.val .box] _
  try dsimp only [cxOf, Cx.nox, Cx.blk]
  repeat (first | walk_at "dl" | refine we_dnew ?_ | refine we_disp1 ?_)
  refine ⟨⟨rfl, _, rfl, by decide, by decide⟩, ?_⟩
  rintro d ⟨xs, e, m⟩
  cases e
  have key : [D.non, .bl true, .bl false, .int 0, .int (-1), .int 5, .str "", .str "A", .str "ab1", .str "abcdefg", .str "a b", .str "a\n", .tup [], .lst [], .dic [] [], .tup [.str "a"], .lst [.str "a"], .dic [.inr "a"] [.int 1], .tup [.int 1, .int 2], .lst [.int 0], .tup [.non], .tup [.tup [.int 0, .int 0], .tup [.int 1, .int 0]]].all (fun d => sm d && (plain 2 d && smB d)) = true := by decide +kernel
  have := List.all_eq_true.mp key d m
  rw [Bool.and_eq_true, Bool.and_eq_true] at this
  exact this
section
variable {B : Bt} {X : Xc} {δ : List Sd} {Pp : D → Prop} {m : Nat} {tk : TA} {pre : List D → Prop} {F : List D → D}
theorem we_ckI (h : WAx K B X tk δ fun ds => ds.length = m ∧ pre ds ∧ Pp (F ds)) : WEx K B X (tCk m (SpD K pre fun ds r => r = F ds) (fun zs => zs) tk) δ Pp :=
  we_ck (gD := fun ds => ds) (fun _ _ _ h => h) fun G0 H0 σ G H Q s xx q => h G0 H0 σ G H Q s xx fun vs ds G1 H1 g o hs ⟨a, b, c⟩ => q vs ds G1 H1 g o hs ⟨a, b, fun _ e => e ▸ c⟩
theorem we_ckR (h : WAx K B X tk δ fun ds => ds.length = m ∧ pre ds.reverse ∧ Pp (F ds.reverse)) : WEx K B X (tCk m (SpD K pre fun ds r => r = F ds) (fun zs => zs.reverse) tk) δ Pp :=
  we_ck (gD := fun ds => ds.reverse) (fun _ _ _ h => h.rev) fun G0 H0 σ G H Q s xx q => h G0 H0 σ G H Q s xx fun vs ds G1 H1 g o hs ⟨a, b, c⟩ => q vs ds G1 H1 g o hs ⟨a, b, fun _ e => e ▸ c⟩
end

end
/-! #### Qq -/
section
variable {P : Program} {w : World} {K : PySem.W.Frag} {mg : Str → Option Value} {base : Heap}
/-! ### own13 -/
abbrev s_law : Stmt := topS 37
abbrev N_law : List Str := ["_law_script", "_law_box_here", "_law_some", "_law_first", "_law_turn", "_law_handed", "_law_due", "_law_d", "_law_wanted", "_law_x", "_law_k", "_law_a", "_law_b", "_law_e"]
theorem sc_law : FnScope N_law ["_law_script"] (defScope s_law) := ⟨rfl, rfl, rfl, by decide +kernel, rfl, by decide +kernel, by decide +kernel⟩
def loopBody : Stmt → List Stmt
  | .For _ _ b _ _ => b
  | _ => []
abbrev lawT (f c Pt : Addr) : List (Addr × Str) := [(Pt, (envOfC "law" (defScope s_law) 0 f (.ref c)).qual ++ "<lambda>")]
theorem pl_toD (p : PP) : plain 1 (toD p) = true := by unfold toD; rfl
theorem pl_dic {n m : Nat} {ks : List Key} {xs : List D} (h : plain n (.dic ks xs) = true) : plain m (.dic ks xs) = true := by
  match ks, xs, h with
  | [], [], _ => cases m <;> rfl
  | [k], [x], h => cases n <;> cases m <;> exact h
  | [], _ :: _, h => cases n <;> exact Bool.noConfusion h
  | [_], [], h => cases n <;> exact Bool.noConfusion h
  | [_], _ :: _ :: _, h => cases n <;> exact Bool.noConfusion h
  | _ :: _ :: _, _, h => cases n <;> exact Bool.noConfusion h
theorem pl_mono : ∀ (n m : Nat) (d : D), n ≤ m → plain n d = true → plain m d = true
  | 0, m, d, _, h => by
    cases d with
    | dic ks xs => exact pl_dic (n := 0) h
    | _ => first | exact Bool.noConfusion h | (cases m <;> exact h)
  | n + 1, 0, d, hm, h => absurd hm (by omega)
  | n + 1, m + 1, d, hm, h => by
    cases d with
    | lst xs =>
      have h' : (decide (xs.length ≤ 1000) && xs.all (plain n)) = true := h
      rw [Bool.and_eq_true] at h'
      show (decide (xs.length ≤ 1000) && xs.all (plain m)) = true
      rw [h'.1, Bool.true_and]
      exact List.all_eq_true.mpr fun x hx => pl_mono n m x (by omega) (List.all_eq_true.mp h'.2 x hx)
    | tup xs =>
      have h' : (decide (xs.length ≤ 1000) && xs.all (plain n)) = true := h
      rw [Bool.and_eq_true] at h'
      show (decide (xs.length ≤ 1000) && xs.all (plain m)) = true
      rw [h'.1, Bool.true_and]
      exact List.all_eq_true.mpr fun x hx => pl_mono n m x (by omega) (List.all_eq_true.mp h'.2 x hx)
    | dic ks xs => exact pl_dic (n := n + 1) h
    | _ => exact h
theorem pl_lst {n : Nat} {xs : List D} (hl : xs.length ≤ 1000) (h : ∀ x ∈ xs, plain n x = true) : plain (n + 1) (.lst xs) = true := by
  show (decide (xs.length ≤ 1000) && xs.all (plain n)) = true
  rw [decide_eq_true hl, Bool.true_and]
  exact List.all_eq_true.mpr h
theorem pl_tup {n : Nat} {xs : List D} (hl : xs.length ≤ 1000) (h : ∀ x ∈ xs, plain n x = true) : plain (n + 1) (.tup xs) = true := by
  show (decide (xs.length ≤ 1000) && xs.all (plain n)) = true
  rw [decide_eq_true hl, Bool.true_and]
  exact List.all_eq_true.mpr h
theorem pl_list {ps : List PP} (hl : ps.length ≤ 1000) : plain 2 (.lst (ps.map toD)) = true := pl_lst (by rw [List.length_map]; exact hl) fun x hx => by
  obtain ⟨p, _, rfl⟩ := List.mem_map.mp hx
  exact pl_toD p
theorem pl_told {d : D} (h : plain 2 d = true) : plain 3 (.tup [.str "told", d]) = true := pl_tup (by show 2 ≤ 1000; decide) fun x hx => by
  rcases List.mem_cons.mp hx with rfl | hx
  · rfl
  · rw [List.mem_singleton.mp hx]; exact h
theorem pl_no {d : D} (h : plain 2 d = true) : plain 3 (.tup [.str "no", .str "InvalidDirection", d]) = true := pl_tup (by show 3 ≤ 1000; decide) fun x hx => by
  rcases List.mem_cons.mp hx with rfl | hx
  · rfl
  · rcases List.mem_cons.mp hx with rfl | hx
    · rfl
    · rw [List.mem_singleton.mp hx]; exact h
/-- what is wanted of the next one -/
def wnt (ps : List PP) (d : D) (w : D) : Prop := (∃ p, d = toD p ∧ IsDr p ∧ ps ≠ [] ∧ w = .tup [.str "told", toD (nxtP (rnd ps) p)]) ∨ ((isDir d = false ∨ ps = []) ∧ w = .tup [.str "no", .str "InvalidDirection", d])
/-- the pieces of the turn -/
structure Law (P : Program) (w : World) (K : PySem.W.Frag) (mg : Str → Option Value) (base : Heap) (m : Nat) (f c Pt C CL CM : Addr) : Prop where
  G : Gn mg
  got : Df K mg "_law_got" s__law_got
  mL : mg "LotError" = some (.ref CL)
  mM : mg "Missing" = some (.ref CM)
  xg : Xg K C CL CM
  TB : LamX.TabB base mg c Pt
  fld : ClF P w K mg base (m + 1)
  same : ClS P w K mg base (m + 2) 4
  tk : ClT P w K mg base (m + 2)
  pk : ClP P w K mg base (m + 2)
  od : ClOv P w K mg base (m + 2)
  dr : ClDir P w K mg base (m + 2)
  pr : ClPr P w K mg base (m + 2)
  idr : ClB P w K mg base (m + 2) "_law_is_dir" s__law_is_dir "_law_x" isDir
  ah : ClLa P w K mg base (m + 2)
  rd : ClRd P w K mg base (m + 2)
  rN : ClLr P w K mg base (m + 2)
  irN : ClRnd P w K mg base (m + 2)
  irT : Ck P w K mg base (m + 2) "in_round" ["directions"] (SpD K rndPreT rndPostT) (fun zs => zs)
  nx : ClNx P w K mg base m C
  nxT : Ckx P w K mg base m "next_in_round" ["direction", "directions"] (SpX K nxtPreT nxtPostT (nxtExcT C)) (fun zs => zs.reverse)
  red : ClRed P w K mg base m C
  redK : Ckx P w K mg base m "reduced" ["pair"] (SpX K (p1 Sm2) redPost (redExc C)) (fun zs => zs)
  cr : ClCr P w K mg base (m + 2)
  crK : Ck P w K mg base (m + 2) "cross" ["other", "one"] (SpD K (p2 fun a b => Pa2 a ∧ Pa2 b) fun ds r => r = f2 crossF ds) (fun zs => zs.reverse)
  th : Cl P w K mg base (m + 2) "turned_half" s_turned_half ["direction"] (SpD K (p1 Pa2) fun ds r => r = f1 halfF ds)
  thK : Ck P w K mg base (m + 2) "turned_half" ["direction"] (SpD K (p1 Pa2) fun ds r => r = f1 halfF ds) (fun zs => zs)
abbrev lcx (P : Program) (w : World) (K : PySem.W.Frag) (mg : Str → Option Value) (base : Heap) (f c : Addr) (A : Around) (outer : List Env) (s : Shared) (H : Hp) (E : XK) : Cx := (cxOf CX0 P w K mg base N_law "law" (defScope s_law) f (.ref c) A outer s H E).nox
abbrev lroom (m : Nat) (f c : Addr) (A : Around) (s : Shared) : Prop := Room (m + 2) (A.deeper (envOfC "law" (defScope s_law) s.heap.objs.size f (.ref c)))
theorem bg_pa {d : D} (h : Bg d) : ∃ a b : Int, d = .tup [.int a, .int b] ∧ Pa2 d := by
  obtain ⟨a, b, rfl, ha, hb⟩ := h
  exact ⟨a, b, rfl, a, b, rfl, by omega, by omega, by omega, by omega⟩
/-- statements 8 to 10 of the turn: a, b, e, cross, turned_half -/
theorem piece_C {m : Nat} {f c Pt C CL CM : Addr} (L : Law P w K mg base m f c Pt C CL CM) (A : Around) (outer : List Env) (s : Shared) (H : Hp) (E : XK) (hr : lroom m f c A s) :
    ∃ t, PSs (lcx P w K mg base f c A outer s H E) ((loopBody ((defBody s_law).getD 9 (.Pass ⟨0, 0, 0, 0⟩))).drop 8) t ∧ ∀ (Ba : Addr) (O : Out) (y0 y2 y3 y4 y5 y6 y7 y8 y9 y10 y11 y12 y13 : Sd), (∀ z11 z12 z13, O.nx [y0, .val .box, y2, y3, y4, y5, y6, y7, y8, y9, y10, z11, z12, z13]) →
      WS K ⟨Ba, lawT f c Pt⟩ t [y0, .val .box, y2, y3, y4, y5, y6, y7, y8, y9, y10, y11, y12, y13] O := by
  have C__law_pair := L.pr
  have C__law_dir := L.dr
  have C__law_same := L.same
  have C_cross := L.cr
  have K_cross := L.crK
  have C_turned_half := L.th
  have K_turned_half := L.thK
  refine ⟨_, (pss_cons (ps_par3 (i := 11) (j := 12) (l := 13) (by rfl) sc_law.nd rfl rfl rfl (by decide) (by decide) (by decide) rfl rfl rfl (pa_cons (pe_c C__law_pair hr (by omega) (by rfl) (pa_cons (pv 1) pa_nil)) (pa_cons (pe_c C__law_pair hr (by omega) (by rfl) (pa_cons (pv 1) pa_nil)) (pa_cons (pe_c C__law_dir hr (by omega) (by rfl) (pa_cons (pv 1) pa_nil)) pa_nil))) (by rfl))
      (pss_cons (ps_if (pt_not (pt_val (pe_c C__law_same hr (by omega) (by rfl) (pa_cons (pe_lst (pa_cons (pe_c C_cross hr (by omega) (by rfl) (pa_cons (pv 11) (pa_cons (pv 12) pa_nil))) (pa_cons (pe_ck K_cross hr (by omega) (by rfl) (pk_cons (pv 11) (pk_cons (pv 12) pk_nil))) pa_nil))) (pa_cons (pe_lst (pa_cons (pe_op op_sub (pe_op op_mul (pe_ix (show IxR _ (rIxT K) from ix_tup) (pv 11) pe_int (fun _ _ => rfl)) (pe_ix (show IxR _ (rIxT K) from ix_tup) (pv 12) pe_int (fun _ _ => rfl))) (pe_op op_mul (pe_ix (show IxR _ (rIxT K) from ix_tup) (pv 11) pe_int (fun _ _ => rfl)) (pe_ix (show IxR _ (rIxT K) from ix_tup) (pv 12) pe_int (fun _ _ => rfl)))) (pa_cons (pe_op op_sub (pe_op op_mul (pe_ix (show IxR _ (rIxT K) from ix_tup) (pv 12) pe_int (fun _ _ => rfl)) (pe_ix (show IxR _ (rIxT K) from ix_tup) (pv 11) pe_int (fun _ _ => rfl))) (pe_op op_mul (pe_ix (show IxR _ (rIxT K) from ix_tup) (pv 12) pe_int (fun _ _ => rfl)) (pe_ix (show IxR _ (rIxT K) from ix_tup) (pv 11) pe_int (fun _ _ => rfl)))) pa_nil))) pa_nil))))) (pss_one (ps_ret pe_bl)) pss_nil)
      (pss_one (ps_if (pt_not (pt_val (pe_c C__law_same hr (by omega) (by rfl) (pa_cons (pe_lst (pa_cons (pe_c C_turned_half hr (by omega) (by rfl) (pa_cons (pv 13) pa_nil)) (pa_cons (pe_ck K_turned_half hr (by omega) (by rfl) (pk_cons (pe_c C_turned_half hr (by omega) (by rfl) (pa_cons (pv 13) pa_nil)) pk_nil)) pa_nil))) (pa_cons (pe_lst (pa_cons (pe_tup (pa_cons (pe_op op_sub pe_int (pe_ix (show IxR _ (rIxT K) from ix_tup) (pv 13) pe_int (fun _ _ => rfl))) (pa_cons (pe_op op_sub pe_int (pe_ix (show IxR _ (rIxT K) from ix_tup) (pv 13) pe_int (fun _ _ => rfl))) pa_nil))) (pa_cons (pv 13) pa_nil))) pa_nil))))) (pss_one (ps_ret pe_bl)) pss_nil)))), fun Ba O y0 y2 y3 y4 y5 y6 y7 y8 y9 y10 y11 y12 y13 hO => ?_⟩
  try dsimp only [lcx, cxOf, Cx.nox, Cx.blk]
  refine ws_seq (ws_par3 ?_)
  refine wa_cons (we_call (wa_cons (we_var rfl (wa_nil ⟨rfl, ?_⟩))))
  rintro da ⟨a0, a1, rfl, ha0, ha1⟩
  refine wa_cons (we_call (wa_cons (we_var rfl (wa_nil ⟨rfl, ?_⟩))))
  rintro db ⟨b0, b1, rfl, hb0, hb1⟩
  refine wa_cons (we_call (wa_cons (we_var rfl (wa_nil ⟨rfl, ?_⟩))))
  rintro de ⟨p, rfl, hp⟩
  refine wa_nil ⟨_, _, _, rfl, ?_⟩
  have pa : Pa2 (.tup [.int a0, .int a1]) := ⟨a0, a1, rfl, by omega, by omega, by omega, by omega⟩
  have pb : Pa2 (.tup [.int b0, .int b1]) := ⟨b0, b1, rfl, by omega, by omega, by omega, by omega⟩
  show WS K _ _ [y0, .val .box, y2, y3, y4, y5, y6, y7, y8, y9, y10, .val (.tup [.int a0, .int a1]), .val (.tup [.int b0, .int b1]), .val (toD p)] _
  refine ws_seq (ws_if ?_)
  repeat walk_at "dl"
  refine ⟨⟨pa, pb⟩, ?_⟩
  refine wa_cons (we_ckR ?_)
  repeat walk_at "dl"
  refine ⟨rfl, ⟨pb, pa⟩, ?_⟩
  repeat walk_at "dl"
  refine ro_ixT (d := .int a0) rfl ?_
  repeat walk_at "dl"
  refine ro_ixT (d := .int b1) rfl ?_
  refine ro_int (.inl ⟨by omega, by omega⟩) ?_
  repeat walk_at "dl"
  refine ro_ixT (d := .int a1) rfl ?_
  repeat walk_at "dl"
  refine ro_ixT (d := .int b0) rfl ?_
  refine ro_int (.inl ⟨by omega, by omega⟩) ?_
  repeat walk_at "dl"
  refine ro_ixT (d := .int b0) rfl ?_
  repeat walk_at "dl"
  refine ro_ixT (d := .int a1) rfl ?_
  refine ro_int (.inl ⟨by omega, by omega⟩) ?_
  repeat walk_at "dl"
  refine ro_ixT (d := .int b1) rfl ?_
  repeat walk_at "dl"
  refine ro_ixT (d := .int a0) rfl ?_
  refine ro_int (.inl ⟨by omega, by omega⟩) ?_
  repeat walk_at "dl"
  refine ⟨⟨rfl, pl_lst (by show 2 ≤ 1000; decide) fun x hx => ?_⟩, ?_⟩
  · simp only [List.mem_cons, List.not_mem_nil, or_false] at hx
    rcases hx with rfl | rfl <;> rfl
  repeat walk_at "dl"
  have pe : Pa2 (toD p) := dr_pa hp
  refine ⟨pe, ?_⟩
  have ph : Pa2 (f1 halfF [toD p]) := by
    obtain ⟨_, q1, q2, q3, q4⟩ := hp
    exact ⟨-p.1, -p.2, rfl, by omega, by omega, by omega, by omega⟩
  refine wa_cons (we_ckI ?_)
  repeat walk_at "dl"
  refine ⟨pe, ?_⟩
  repeat walk_at "dl"
  refine ⟨rfl, ph, ?_⟩
  repeat walk_at "dl"
  refine ro_ixT (d := .int p.1) rfl ?_
  repeat walk_at "dl"
  refine ro_ixT (d := .int p.2) rfl ?_
  repeat walk_at "dl"
  have e1 : f1 halfF [toD p] = .tup [.int (0 - p.1), .int (0 - p.2)] := by
    show D.tup [.int (-p.1), .int (-p.2)] = _
    rw [Int.zero_sub, Int.zero_sub]
  have e2 : f1 halfF [f1 halfF [toD p]] = toD p := by
    show D.tup [.int (- -p.1), .int (- -p.2)] = toD p
    rw [Int.neg_neg, Int.neg_neg]; rfl
  rw [e2, e1]
  refine ⟨⟨rfl, pl_lst (by show 2 ≤ 1000; decide) fun x hx => ?_⟩, ?_⟩
  · simp only [List.mem_cons, List.not_mem_nil, or_false] at hx
    rcases hx with rfl | rfl
    · rfl
    · exact pl_mono 1 3 _ (by decide) (pl_toD p)
  repeat walk_at "dl"
  exact hO _ _ _
theorem sm2_bg {d : D} (h : Bg d) : Sm2 d := by
  obtain ⟨a, b, rfl, ha, hb⟩ := h
  refine ⟨rfl, ?_⟩
  intro a' b' e
  cases e
  omega
theorem pl_bg {d : D} (h : Bg d) : plain 1 d = true := by
  obtain ⟨a, b, rfl, ha, hb⟩ := h
  rfl
theorem pl_due {x : D} (h : plain 2 x = true) : plain 3 (dueR x) = true := by
  unfold dueR
  cases redD x with
  | none => exact pl_no h
  | some p => exact pl_told (pl_mono 1 2 _ (by decide) (pl_toD p))
/-- statements 6 and 7 of the turn: x, reduced -/
theorem piece_B {m : Nat} {f c Pt C CL CM : Addr} (L : Law P w K mg base m f c Pt C CL CM) (A : Around) (outer : List Env) (s : Shared) (H : Hp) (E : XK) (hr : lroom m f c A s) {tC : TS} (hC : PSs (lcx P w K mg base f c A outer s H E) ((loopBody ((defBody s_law).getD 9 (.Pass ⟨0, 0, 0, 0⟩))).drop 8) tC)
    (wC : ∀ (Ba : Addr) (O : Out) (y0 y2 y3 y4 y5 y6 y7 y8 y9 y10 y11 y12 y13 : Sd), (∀ z11 z12 z13, O.nx [y0, .val .box, y2, y3, y4, y5, y6, y7, y8, y9, y10, z11, z12, z13]) →
      WS K ⟨Ba, lawT f c Pt⟩ tC [y0, .val .box, y2, y3, y4, y5, y6, y7, y8, y9, y10, y11, y12, y13] O) :
    ∃ t, PSs (lcx P w K mg base f c A outer s H E) ((loopBody ((defBody s_law).getD 9 (.Pass ⟨0, 0, 0, 0⟩))).drop 6) t ∧ ∀ (Ba : Addr) (O : Out) (y0 y2 y3 y4 y5 y6 y7 y8 y9 y10 y11 y12 y13 : Sd), (∀ z9 z11 z12 z13, O.nx [y0, .val .box, y2, y3, y4, y5, y6, y7, y8, z9, y10, z11, z12, z13]) →
      WS K ⟨Ba, lawT f c Pt⟩ t [y0, .val .box, y2, y3, y4, y5, y6, y7, y8, y9, y10, y11, y12, y13] O := by
  have C__law_pair := L.pr
  have C__law_pick := L.pk
  have C__law_same := L.same
  have C__law_reduced_due := L.rd
  have D__law_got := L.got
  have m_LotError := L.mL
  have m_Missing := L.mM
  have C__law_fields := L.fld
  have TB := L.TB
  have hT : lawT f c Pt = [(Pt, (lcx P w K mg base f c A outer s H E).env.qual ++ "<lambda>")] := rfl
  have C_reduced := L.red
  have K_reduced := L.redK
  refine ⟨_, (pss_cons (ps_set (i := 9) sc_law.nd rfl (Or.inr rfl) (pe_c C__law_pick hr (by omega) (by rfl) (pa_cons (pv 1) (pa_cons (pe_op op_cat (pe_op op_rep (pe_lst (pa_cons (pe_c C__law_pair hr (by omega) (by rfl) (pa_cons (pv 1) pa_nil)) pa_nil)) pe_int) (pe_lst (pa_cons (pe_c C__law_pick hr (by omega) (by rfl) (pa_cons (pv 1) (pa_cons (pe_lst (pa_cons pe_non (pa_cons pe_int (pa_cons pe_str (pa_cons (pe_tup (pa_cons pe_int pa_nil)) (pa_cons (pe_tup (pa_cons pe_int (pa_cons pe_int (pa_cons pe_int pa_nil)))) (pa_cons (pe_tup (pa_cons pe_bl (pa_cons pe_int pa_nil))) (pa_cons (pe_tup (pa_cons pe_str (pa_cons pe_int pa_nil))) (pa_cons (pe_lst pa_nil) (pa_cons (pe_tup (pa_cons pe_int (pa_cons pe_non pa_nil))) (pa_cons (pe_lst (pa_cons pe_int (pa_cons pe_int pa_nil))) (pa_cons (pe_lst (pa_cons pe_int (pa_cons pe_int pa_nil))) pa_nil)))))))))))) pa_nil))) pa_nil))) pa_nil))))
      (pss_cons (ps_if (pt_not (pt_val (pe_c C__law_same hr (by omega) (by rfl) (pa_cons (pe_lst (pa_cons (pe_gotK (j := m) D__law_got (by rfl) m_LotError m_Missing C__law_fields TB rfl hT hr (by omega) (LamX.lamS_by (show LamX.lamSB (defScope s_law) _ = true from by decide +kernel)) rfl (fun _ _ _ _ _ => rfl) (fun A outer s H E f c' hr => by exact (pe_cx C_reduced (takes_of rfl rfl rfl rfl) hr (by omega) (by rfl) (pa_cons (pv 9) pa_nil)))) (pa_cons (pe_gotK (j := m) D__law_got (by rfl) m_LotError m_Missing C__law_fields TB rfl hT hr (by omega) (LamX.lamS_by (show LamX.lamSB (defScope s_law) _ = true from by decide +kernel)) rfl (fun _ _ _ _ _ => rfl) (fun A outer s H E f c' hr => by exact (pe_ckx K_reduced (takes_of rfl rfl rfl rfl) hr (by omega) (by rfl) (pk_cons (pv 9) pk_nil)))) pa_nil))) (pa_cons (pe_op op_rep (pe_lst (pa_cons (pe_c C__law_reduced_due hr (by omega) (by rfl) (pa_cons (pv 9) pa_nil)) pa_nil)) pe_int) pa_nil))))) (pss_one (ps_ret pe_bl)) pss_nil)
      hC)), fun Ba O y0 y2 y3 y4 y5 y6 y7 y8 y9 y10 y11 y12 y13 hO => ?_⟩
  try dsimp only [lcx, cxOf, Cx.nox, Cx.blk]
  refine ws_seq (ws_set ?_)
  repeat walk_at "dl"
  refine ⟨rfl, ?_⟩
  rintro dp hdp
  repeat walk_at "dl"
  refine ro_rep (by decide) (by decide) (Nat.le_of_ble_eq_true rfl) ?_
  repeat walk_at "dl"
  refine ⟨⟨rfl, _, rfl, by decide, by decide⟩, ?_⟩
  rintro dx ⟨xs, e, mx⟩
  cases e
  have hox : Ov dx := by
    have key : [D.non, .int 7, .str "ab", .tup [.int 1], .tup [.int 1, .int 2, .int 3], .tup [.bl true, .int 2], .tup [.str "1", .int 2], .lst [], .tup [.int 2, .non], .lst [.int 2, .int 4], .lst [.int 1, .int 0]].all (fun d => sm d && (plain 2 d && smB d)) = true := by decide +kernel
    have := List.all_eq_true.mp key dx mx
    rw [Bool.and_eq_true, Bool.and_eq_true] at this
    exact this
  clear mx
  repeat walk_at "dl"
  refine ro_cat (Nat.le_of_ble_eq_true rfl) ?_
  repeat walk_at "dl"
  refine ⟨⟨rfl, _, rfl, Nat.le_of_ble_eq_true rfl, Nat.le_of_ble_eq_true rfl⟩, ?_⟩
  rintro x ⟨xs, e, mx⟩
  cases e
  have hx : Sm2 x ∧ plain 2 x = true := by
    have m' : x ∈ [dp, dp, dp, dp, dp, dx] := mx
    simp only [List.mem_cons, List.not_mem_nil, or_false] at m'
    rcases m' with rfl | rfl | rfl | rfl | rfl | rfl
    all_goals first | exact ⟨sm2_bg hdp, pl_mono 1 2 _ (by decide) (pl_bg hdp)⟩ | exact ⟨hox.sm2, hox.2.1⟩
  clear mx
  try dsimp only [List.set]
  have got : ∀ (Xe : Xc) (Pp : D → Prop) (te : XK → TE), (∀ E' : XK, WEx K ⟨Ba, lawT f c Pt⟩ { W := fun cls d _ H => E' cls d H, ex := fun _ C' ks es => excD C x C' ks es ∧ redD x = none } (te E') [y0, .val .box, y2, y3, y4, y5, y6, y7, y8, .val x, y10, y11, y12, y13] (fun r => ∃ p, redD x = some p ∧ r = toD p)) → Pp (dueR x) →
      WEx K ⟨Ba, lawT f c Pt⟩ Xe (LamX.tLam (lawT f c Pt) (TGot K (.ref CL) (.ref CM) (SpD K (fldPre K) fldPost)) te) [y0, .val .box, y2, y3, y4, y5, y6, y7, y8, .val x, y10, y11, y12, y13] Pp := fun Xe Pp te h hp =>
    we_gotD (B := ⟨Ba, lawT f c Pt⟩) L.xg h (fun d ⟨p, e1, e2⟩ => by rw [e2, due_yes e1]; exact hp) (fun hn => by rw [due_no hn]; exact hp)
  refine ws_seq (ws_if ?_)
  refine wt_not (wt_B (we_callF (wa_cons (we_lst (wa_cons (got _ _ _ (fun E' => ?_) (wa_cons (got _ _ _ (fun E' => ?_) ?_))))))))
  · refine we_callX (wa_cons (we_var rfl (wa_nil ⟨hx.1, ?_, ?_⟩)))
    · rintro r ⟨x', p, e, h1, h2⟩
      cases e
      exact ⟨p, h1, h2⟩
    · rintro C' ks es ⟨x', e, h1, h2⟩
      cases e
      exact ⟨h2, h1⟩
  · refine we_ckx (gD := fun ds => ds) (fun _ _ _ h => h) (wa_cons (we_var rfl (wa_nil ⟨rfl, hx.1, ?_, ?_⟩)))
    · rintro r ⟨x', p, e, h1, h2⟩
      cases e
      exact ⟨p, h1, h2⟩
    · rintro C' ks es ⟨x', e, h1, h2⟩
      cases e
      exact ⟨h2, h1⟩
  repeat walk_at "dl"
  refine ⟨hx.1, ?_⟩
  repeat walk_at "dl"
  refine ro_rep (by decide) (by decide) (Nat.le_of_ble_eq_true rfl) ?_
  repeat walk_at "dl"
  refine ⟨⟨rfl, pl_lst (by show 2 ≤ 1000; decide) fun z hz => ?_⟩, ?_⟩
  · simp only [List.mem_cons, List.not_mem_nil, or_false] at hz
    rcases hz with rfl | rfl <;> exact pl_due hx.2
  repeat walk_at "dl"
  exact wC Ba O _ _ _ _ _ _ _ _ _ _ _ _ _ fun z11 z12 z13 => hO _ _ _ _

end
/-! #### Qr -/
section
variable {P : Program} {w : World} {K : PySem.W.Frag} {mg : Str → Option Value} {base : Heap}
/-! ### own14 -/
theorem mem_stp {row : List PP} {p x : PP} : x ∈ stp row p ↔ x ∈ row ∨ x = p := by
  unfold stp
  by_cases h : p ∈ row
  · rw [if_pos h]
    exact ⟨.inl, fun z => z.elim id fun e => e ▸ h⟩
  · rw [if_neg h]
    generalize (row.filter (ltP · p)).length = n
    rw [List.mem_append, List.mem_append, List.mem_singleton]
    constructor
    · rintro ((z | z) | z)
      · exact .inl (List.mem_of_mem_take z)
      · exact .inr z
      · exact .inl (List.mem_of_mem_drop z)
    · rintro (z | z)
      · rw [← List.take_append_drop n row, List.mem_append] at z
        rcases z with z | z
        · exact .inl (.inl z)
        · exact .inr z
      · exact .inl (.inr z)
theorem mem_rnd {ps : List PP} {x : PP} : x ∈ rnd ps ↔ x ∈ ps := by
  have key : ∀ (ps row : List PP), x ∈ ps.foldl stp row ↔ x ∈ row ∨ x ∈ ps := by
    intro ps
    induction ps with
    | nil => intro row; simp
    | cons p ps ih =>
      intro row
      rw [List.foldl_cons, ih, mem_stp, List.mem_cons, or_assoc]
  have := key ps []
  unfold rnd
  rw [this]
  simp
theorem rnd_ok {ps : List PP} (h : ∀ p ∈ ps, IsDr p) : Sm.Srt ltP (rnd ps) ∧ ∀ x ∈ rnd ps, IsDr x := by
  have key : ∀ (ps row : List PP), (∀ p ∈ ps, IsDr p) → Sm.Srt ltP row → (∀ x ∈ row, IsDr x) → Sm.Srt ltP (ps.foldl stp row) ∧ ∀ x ∈ ps.foldl stp row, IsDr x := by
    intro ps
    induction ps with
    | nil => intro row _ h1 h2; exact ⟨h1, h2⟩
    | cons p ps ih =>
      intro row h h1 h2
      obtain ⟨s1, s2⟩ := stp_ok h1 h2 (h p (List.mem_cons_self ..))
      exact ih _ (fun q hq => h q (List.mem_cons_of_mem _ hq)) s1 s2
  exact key ps [] h List.Pairwise.nil fun _ z => nomatch z
theorem rnd_len {ps : List PP} : (rnd ps).length ≤ ps.length := by
  have key : ∀ (ps row : List PP), (ps.foldl stp row).length ≤ row.length + ps.length := by
    intro ps
    induction ps with
    | nil => intro row; simp
    | cons p ps ih =>
      intro row
      have h1 := ih (stp row p)
      have h2 : (stp row p).length ≤ row.length + 1 := by
        unfold stp
        split
        · omega
        · simp only [List.length_append, List.length_take, List.length_drop, List.length_cons, List.length_nil]
          omega
      rw [List.foldl_cons, List.length_cons]
      omega
  have := key ps []
  unfold rnd
  simpa using this
theorem srt_ext : ∀ {xs ys : List PP}, Sm.Srt ltP xs → Sm.Srt ltP ys → (∀ x ∈ xs, IsDr x) → (∀ x, x ∈ xs ↔ x ∈ ys) → xs = ys
  | [], [], _, _, _, _ => rfl
  | [], y :: _, _, _, _, h => by have := (h y).mpr (List.mem_cons_self ..); cases this
  | x :: _, [], _, _, _, h => by have := (h x).mp (List.mem_cons_self ..); cases this
  | x :: xs, y :: ys, h1, h2, hD, h => by
    have p1 := List.pairwise_cons.mp h1
    have p2 := List.pairwise_cons.mp h2
    have e : x = y := by
      rcases List.mem_cons.mp ((h x).mp (List.mem_cons_self ..)) with e | a
      · exact e
      · rcases List.mem_cons.mp ((h y).mpr (List.mem_cons_self ..)) with e | b
        · exact e.symm
        · have l1 := p2.1 x a
          have l2 := p1.1 y b
          have l3 := lt_tr x y x (hD x (List.mem_cons_self ..)) (hD y (List.mem_cons_of_mem _ b)) (hD x (List.mem_cons_self ..)) l2 l1
          rw [lt_irr] at l3; cases l3
    subst e
    have ne : ∀ z, z ∈ xs → z ≠ x := fun z hz e => by
      have := p1.1 z hz
      rw [e, lt_irr] at this; cases this
    have ne2 : ∀ z, z ∈ ys → z ≠ x := fun z hz e => by
      have := p2.1 z hz
      rw [e, lt_irr] at this; cases this
    rw [srt_ext p1.2 p2.2 (fun z hz => hD z (List.mem_cons_of_mem _ hz)) fun z => ⟨fun hz => by
      rcases List.mem_cons.mp ((h z).mp (List.mem_cons_of_mem _ hz)) with e | a
      · exact absurd e (ne z hz)
      · exact a, fun hz => by
      rcases List.mem_cons.mp ((h z).mpr (List.mem_cons_of_mem _ hz)) with e | a
      · exact absurd e (ne2 z hz)
      · exact a⟩]
theorem rnd_rev {ps : List PP} (h : ∀ p ∈ ps, IsDr p) : rnd (rnd ps).reverse = rnd ps := by
  obtain ⟨s1, d1⟩ := rnd_ok h
  have d2 : ∀ p ∈ (rnd ps).reverse, IsDr p := fun p hp => d1 p (List.mem_reverse.mp hp)
  obtain ⟨s2, d3⟩ := rnd_ok d2
  exact srt_ext s2 s1 d3 fun x => by rw [mem_rnd, List.mem_reverse]
def Rnx (ps : List PP) (d : D) (r : D) : Prop := ∃ p, d = toD p ∧ IsDr p ∧ ps ≠ [] ∧ r = toD (nxtP (rnd ps) p)
theorem wnt_told {ps : List PP} {d w r : D} (h : wnt ps d w) (hr : Rnx ps d r) : w = .tup [.str "told", r] := by
  obtain ⟨p, rfl, h1, h2, rfl⟩ := hr
  rcases h with ⟨p', e, _, _, rfl⟩ | ⟨h3 | h3, rfl⟩
  · rw [toD_inj e]
  · rw [isDir_toD h1] at h3; cases h3
  · exact absurd h3 h2
theorem wnt_no {ps : List PP} {d w : D} (h : wnt ps d w) (hr : isDir d = false ∨ ps = []) : w = .tup [.str "no", .str "InvalidDirection", d] := by
  rcases h with ⟨p', rfl, h1, h2, rfl⟩ | ⟨_, rfl⟩
  · rcases hr with hr | hr
    · rw [isDir_toD h1] at hr; cases hr
    · exact absurd hr h2
  · rfl
theorem wnt_pl {ps : List PP} {d w : D} (h : wnt ps d w) (hd : plain 2 d = true) : plain 4 w = true := by
  rcases h with ⟨p', rfl, h1, h2, rfl⟩ | ⟨_, rfl⟩
  · exact pl_mono 3 4 _ (by decide) (pl_told (pl_mono 1 2 _ (by decide) (pl_toD _)))
  · exact pl_mono 3 4 _ (by decide) (pl_no hd)
/-- statements 4 and 5 of the turn: next_in_round -/
theorem piece_A2 {m : Nat} {f c Pt C CL CM : Addr} (L : Law P w K mg base m f c Pt C CL CM) (A : Around) (outer : List Env) (s : Shared) (H : Hp) (E : XK) (hr : lroom m f c A s) {tC : TS} (hC : PSs (lcx P w K mg base f c A outer s H E) ((loopBody ((defBody s_law).getD 9 (.Pass ⟨0, 0, 0, 0⟩))).drop 6) tC)
    (wC : ∀ (Ba : Addr) (O : Out) (y0 y2 y3 y4 y5 y6 y7 y8 y9 y10 y11 y12 y13 : Sd), (∀ z9 z11 z12 z13, O.nx [y0, .val .box, y2, y3, y4, y5, y6, y7, y8, z9, y10, z11, z12, z13]) →
      WS K ⟨Ba, lawT f c Pt⟩ tC [y0, .val .box, y2, y3, y4, y5, y6, y7, y8, y9, y10, y11, y12, y13] O) :
    ∃ t, PSs (lcx P w K mg base f c A outer s H E) ((loopBody ((defBody s_law).getD 9 (.Pass ⟨0, 0, 0, 0⟩))).drop 4) t ∧ ∀ (Ba : Addr) (O : Out) (ps : List PP) (d wd : D) (y0 y2 y3 y4 y9 y10 y11 y12 y13 : Sd), ps.length ≤ 100 → (∀ p ∈ ps, IsDr p) → sm d = true → plain 2 d = true → wnt ps d wd → (∀ z9 z11 z12 z13, O.nx [y0, .val .box, y2, y3, y4, .val (.lst (ps.map toD)), .val (.lst ((rnd ps).map toD)), .val d, .val wd, z9, y10, z11, z12, z13]) →
      WS K ⟨Ba, lawT f c Pt⟩ t [y0, .val .box, y2, y3, y4, .val (.lst (ps.map toD)), .val (.lst ((rnd ps).map toD)), .val d, .val wd, y9, y10, y11, y12, y13] O := by
  have C__law_same := L.same
  have D__law_got := L.got
  have m_LotError := L.mL
  have m_Missing := L.mM
  have C__law_fields := L.fld
  have TB := L.TB
  have hT : lawT f c Pt = [(Pt, (lcx P w K mg base f c A outer s H E).env.qual ++ "<lambda>")] := rfl
  have G := L.G
  have C_next_in_round := L.nx
  have K_next_in_roundT := L.nxT
  refine ⟨_, (pss_cons (ps_if (pt_not (pt_val (pe_c C__law_same hr (by omega) (by rfl) (pa_cons (pe_gotK (j := m) D__law_got (by rfl) m_LotError m_Missing C__law_fields TB rfl hT hr (by omega) (LamX.lamS_by (show LamX.lamSB (defScope s_law) _ = true from by decide +kernel)) rfl (fun _ _ _ _ _ => rfl) (fun A outer s H E f c' hr => by exact (pe_cx C_next_in_round (takes_of rfl rfl rfl rfl) hr (by omega) (by rfl) (pa_cons (pv 5) (pa_cons (pv 7) pa_nil))))) (pa_cons (pv 8) pa_nil))))) (pss_one (ps_ret pe_bl)) pss_nil)
      (pss_cons (ps_if (pt_not (pt_val (pe_c C__law_same hr (by omega) (by rfl) (pa_cons (pe_gotK (j := m) D__law_got (by rfl) m_LotError m_Missing C__law_fields TB rfl hT hr (by omega) (LamX.lamS_by (show LamX.lamSB (defScope s_law) _ = true from by decide +kernel)) rfl (fun _ _ _ _ _ => rfl) (fun A outer s H E f c' hr => by show PE _ _ (tCkX [("direction" : Str), "directions"].length (SpX K nxtPreT nxtPostT (nxtExcT C)) (fun zs => zs.reverse) (fun cls d _ H => E cls d H) (tCons (tVar 7) (tCons (tCB (rTupOf K) (tCons (tRevL K (tVar 6)) tNil)) tNil))); refine pe_ckx K_next_in_roundT (takes_of rfl rfl rfl rfl) hr (by omega) (by rfl) (pk_cons (pv 7) (pk_cons ?_ pk_nil)); refine pe_callTy (show CallR _ (.type "tuple") (rTupOf K) from call_tuple_of) (by rfl) G.g_tuple (by decide +kernel) (pa_cons ?_ pa_nil); exact pe_revL (pv 6))) (pa_cons (pv 8) pa_nil))))) (pss_one (ps_ret pe_bl)) pss_nil)
      hC)), fun Ba O ps d wd y0 y2 y3 y4 y9 y10 y11 y12 y13 hl hps hd hpl hw hO => ?_⟩
  try dsimp only [lcx, cxOf, Cx.nox, Cx.blk]
  have got : ∀ (Xe : Xc) (Pp : D → Prop) (te : XK → TE) (δ : List Sd), (∀ E' : XK, WEx K ⟨Ba, lawT f c Pt⟩ { W := fun cls d _ H => E' cls d H, ex := fun _ C' ks es => excD C d C' ks es ∧ (isDir d = false ∨ ps = []) } (te E') δ (Rnx ps d)) → Pp wd →
      WEx K ⟨Ba, lawT f c Pt⟩ Xe (LamX.tLam (lawT f c Pt) (TGot K (.ref CL) (.ref CM) (SpD K (fldPre K) fldPost)) te) δ Pp := fun Xe Pp te δ h hp =>
    we_gotD (B := ⟨Ba, lawT f c Pt⟩) L.xg h (fun r hr => by rw [← wnt_told hw hr]; exact hp) (fun hn => by rw [← wnt_no hw hn]; exact hp)
  refine ws_seq (ws_if (wt_not (wt_B (we_callF (wa_cons (got _ _ _ _ (fun E' => ?_) ?_))))))
  · refine we_callX (wa_cons (we_var rfl (wa_cons (we_var rfl (wa_nil ⟨⟨⟨ps, rfl, hl, hps⟩, hd⟩, ?_, ?_⟩)))))
    · rintro r ⟨ps', p, e, h1, h2, rfl⟩
      have e1 := map_toD_inj (D.lst.inj (List.cons.inj e).1)
      have e2 := (List.cons.inj (List.cons.inj e).2).1
      subst e1
      exact ⟨p, e2, h1, h2, rfl⟩
    · rintro C' ks es ⟨ps', d', e, h1, h2⟩
      have e1 := map_toD_inj (D.lst.inj (List.cons.inj e).1)
      have e2 := (List.cons.inj (List.cons.inj e).2).1
      subst e1 e2
      exact ⟨h2, h1⟩
  repeat walk_at "dl"
  refine ⟨⟨rfl, wnt_pl hw hpl⟩, ?_⟩
  repeat walk_at "dl"
  refine got _ _ _ _ (fun E' => ?_) ?_
  · have hrv : ((rnd ps).map toD).reverse = ((rnd ps).reverse).map toD := (List.map_reverse ..).symm
    refine we_ckx (gD := fun ds => ds.reverse) (fun _ _ _ h => h.rev) (wa_cons (we_var rfl (wa_cons (we_cb (wa_cons (we_revL (we_var rfl ⟨_, rfl, wa_nil (rc_tupL (wa_nil ⟨rfl, ?_, ?_, ?_⟩))⟩)))))))
    · rw [hrv]
      exact ⟨⟨(rnd ps).reverse, rfl, by rw [List.length_reverse]; exact Nat.le_trans rnd_len hl, fun p hp => (rnd_ok hps).2 p (List.mem_reverse.mp hp)⟩, hd⟩
    · rintro r ⟨ps', p, e, h1, h2, rfl⟩
      rw [hrv] at e
      have e1 := map_toD_inj (D.tup.inj (List.cons.inj e).1)
      have e2 := (List.cons.inj (List.cons.inj e).2).1
      subst e1
      refine ⟨p, e2, h1, fun z => h2 (by rw [z]; rfl), by rw [rnd_rev hps]⟩
    · rintro C' ks es ⟨ps', d', e, h1, h2⟩
      rw [hrv] at e
      have e1 := map_toD_inj (D.tup.inj (List.cons.inj e).1)
      have e2 := (List.cons.inj (List.cons.inj e).2).1
      subst e1 e2
      refine ⟨h2, h1.imp id fun z => ?_⟩
      have z2 : rnd ps = [] := List.reverse_eq_nil_iff.mp z
      exact Classical.byContradiction fun ne => rnd_ne ne z2
  repeat walk_at "dl"
  refine ⟨⟨rfl, wnt_pl hw hpl⟩, ?_⟩
  repeat walk_at "dl"
  exact wC Ba O _ _ _ _ _ _ _ _ _ _ _ _ _ fun z9 z11 z12 z13 => hO _ _ _ _

end
/-! #### Qs -/
section
variable {P : Program} {w : World} {K : PySem.W.Frag} {mg : Str → Option Value} {base : Heap}
/-! ### own15 -/
/-- what is asked of the direction of a turn -/
def Qd (d : D) : Prop := sm d = true ∧ plain 2 d = true
theorem qd_dr {p : PP} (h : IsDr p) : Qd (toD p) := ⟨by unfold toD; rfl, pl_mono 1 2 _ (by decide) (pl_toD p)⟩
theorem atI0 {x : D} {xs : List D} : atI (x :: xs) 0 = some x := by
  unfold atI ixN
  have h : (0 : Int) < ((x :: xs).length : Int) := by rw [List.length_cons]; omega
  simp
/-- statements 0 to 3 of the turn: the direction and what is wanted -/
theorem piece_A1 {m : Nat} {f c Pt C CL CM : Addr} (L : Law P w K mg base m f c Pt C CL CM) (A : Around) (outer : List Env) (s : Shared) (H : Hp) (E : XK) (hr : lroom m f c A s) {tC : TS} (hC : PSs (lcx P w K mg base f c A outer s H E) ((loopBody ((defBody s_law).getD 9 (.Pass ⟨0, 0, 0, 0⟩))).drop 4) tC)
    (wC : ∀ (Ba : Addr) (O : Out) (ps : List PP) (d wd : D) (y0 y2 y3 y4 y9 y10 y11 y12 y13 : Sd), ps.length ≤ 100 → (∀ p ∈ ps, IsDr p) → sm d = true → plain 2 d = true → wnt ps d wd → (∀ z9 z11 z12 z13, O.nx [y0, .val .box, y2, y3, y4, .val (.lst (ps.map toD)), .val (.lst ((rnd ps).map toD)), .val d, .val wd, z9, y10, z11, z12, z13]) →
      WS K ⟨Ba, lawT f c Pt⟩ tC [y0, .val .box, y2, y3, y4, .val (.lst (ps.map toD)), .val (.lst ((rnd ps).map toD)), .val d, .val wd, y9, y10, y11, y12, y13] O) :
    ∃ t, PSs (lcx P w K mg base f c A outer s H E) ((loopBody ((defBody s_law).getD 9 (.Pass ⟨0, 0, 0, 0⟩))).drop 0) t ∧ ∀ (Ba : Addr) (O : Out) (ps : List PP) (y0 y3 y4 y7 y8 y9 y10 y11 y12 y13 : Sd), ps.length ≤ 100 → (∀ p ∈ ps, IsDr p) → (∀ z7 z8 z9 z11 z12 z13, O.nx [y0, .val .box, .val (.lst (ps.map toD)), y3, y4, .val (.lst (ps.map toD)), .val (.lst ((rnd ps).map toD)), z7, z8, z9, y10, z11, z12, z13]) →
      WS K ⟨Ba, lawT f c Pt⟩ t [y0, .val .box, .val (.lst (ps.map toD)), y3, y4, .val (.lst (ps.map toD)), .val (.lst ((rnd ps).map toD)), y7, y8, y9, y10, y11, y12, y13] O := by
  have G := L.G
  have C__law_pick := L.pk
  have C__law_dir := L.dr
  have C__law_odd := L.od
  have C__law_is_dir := L.idr
  have C__law_ahead := L.ah
  refine ⟨_, (pss_cons (ps_set (i := 7) sc_law.nd rfl (Or.inr rfl) (pe_c C__law_pick hr (by omega) (by rfl) (pa_cons (pv 1) (pa_cons (pe_op op_cat (pv 2) (pe_lst (pa_cons (pe_c C__law_dir hr (by omega) (by rfl) (pa_cons (pv 1) pa_nil)) (pa_cons (pe_c C__law_dir hr (by omega) (by rfl) (pa_cons (pv 1) pa_nil)) (pa_cons (pe_tup (pa_cons pe_int (pa_cons pe_int pa_nil))) (pa_cons (pe_tup (pa_cons (pe_un un_neg pe_int) (pa_cons pe_int pa_nil))) pa_nil)))))) pa_nil))))
      (pss_cons (ps_set (i := 7) sc_law.nd rfl (Or.inr rfl) (pe_c C__law_pick hr (by omega) (by rfl) (pa_cons (pv 1) (pa_cons (pe_op op_cat (pe_op op_rep (pe_lst (pa_cons (pv 7) pa_nil)) pe_int) (pe_lst (pa_cons (pe_c C__law_odd hr (by omega) (by rfl) (pa_cons (pv 1) pa_nil)) (pa_cons (pe_tup (pa_cons pe_int (pa_cons pe_int pa_nil))) (pa_cons (pe_tup (pa_cons pe_int (pa_cons pe_int pa_nil))) (pa_cons (pe_tup (pa_cons pe_int (pa_cons pe_int pa_nil))) (pa_cons (pe_tup (pa_cons pe_bl (pa_cons pe_int pa_nil))) pa_nil))))))) pa_nil))))
      (pss_cons (ps_set (i := 8) sc_law.nd rfl (Or.inl rfl) (pe_tup (pa_cons pe_str (pa_cons pe_str (pa_cons (pv 7) pa_nil)))))
      (pss_cons (ps_if (PW.pt (pw_and (pt_cmpR (op_neD hr.units) (pv 6) (pe_lst pa_nil) (nomark _)) (pw_and1 (pt_val (pe_c C__law_is_dir hr (by omega) (by rfl) (pa_cons (pv 7) pa_nil)))))) (pss_one (ps_set (i := 8) sc_law.nd rfl (Or.inl rfl) (pe_tup (pa_cons pe_str (pa_cons (pe_ifExp (pt_cmpR (op_inD (Dl.u65 hr)) (pv 7) (pv 6) (by rfl)) (pv 7) (pe_ix (show IxR _ (rIxL K) from ix_list) (pe_op op_cat (pe_lc (own := [("_law_e", 13)]) (g := gName 13) rfl sc_law.nd (pi_list (pv 6)) (blkOk_by (N := N_law) (sc := defScope s_law) (by decide +kernel)) (fun _ _ _ _ _ => pg_name (i := 13) sc_law.nd rfl (Or.inl rfl)) (fun _ _ _ _ _ => (pts_one (pt_val (pe_c C__law_ahead hr (by omega) (by rfl) (pa_cons (pv 7) (pa_cons (pv 13) pa_nil)))))) (fun _ _ _ _ _ => (pv 13))) (pv 6)) pe_int (fun _ _ => rfl))) pa_nil))))) pss_nil)
      hC)))), fun Ba O ps y0 y3 y4 y7 y8 y9 y10 y11 y12 y13 hl hps hO => ?_⟩
  try dsimp only [lcx, cxOf, Cx.nox, Cx.blk]
  refine ws_seq (ws_set ?_)
  repeat walk_at "dl"
  refine ⟨rfl, ?_⟩
  rintro _ ⟨p1, rfl, hp1⟩
  repeat walk_at "dl"
  refine ⟨rfl, ?_⟩
  rintro _ ⟨p2, rfl, hp2⟩
  repeat walk_at "dl"
  refine ro_cat (by rw [List.length_map]; show ps.length + 4 ≤ 1000; omega) ?_
  repeat walk_at "dl"
  have l0 : (ps.map toD ++ [toD p1, toD p2, D.tup [.int 1, .int 0], D.tup [.int (-1), .int 0]]).length = ps.length + 4 := by rw [List.length_append, List.length_map]; rfl
  refine ⟨⟨rfl, _, rfl, by rw [l0]; omega, by rw [l0]; omega⟩, ?_⟩
  rintro d0 ⟨xs, e, m0⟩
  cases e
  have h0 : ∃ p, d0 = toD p ∧ IsDr p := by
    rw [List.mem_append, List.mem_map] at m0
    rcases m0 with ⟨p, hp, rfl⟩ | m0
    · exact ⟨p, rfl, hps p hp⟩
    · simp only [List.mem_cons, List.not_mem_nil, or_false] at m0
      rcases m0 with rfl | rfl | rfl | rfl
      · exact ⟨p1, rfl, hp1⟩
      · exact ⟨p2, rfl, hp2⟩
      · exact ⟨(1, 0), rfl, by unfold IsDr; decide⟩
      · exact ⟨(-1, 0), rfl, by unfold IsDr; decide⟩
  clear m0
  obtain ⟨q0, rfl, hq0⟩ := h0
  repeat walk_at "dl"
  refine ro_rep (by decide) (by decide) (Nat.le_of_ble_eq_true rfl) ?_
  repeat walk_at "dl"
  refine ⟨rfl, ?_⟩
  intro dx hox
  repeat walk_at "dl"
  refine ro_cat (Nat.le_of_ble_eq_true rfl) ?_
  repeat walk_at "dl"
  refine ⟨⟨rfl, _, rfl, Nat.le_of_ble_eq_true rfl, Nat.le_of_ble_eq_true rfl⟩, ?_⟩
  rintro d ⟨xs, e, m1⟩
  cases e
  have hd : Qd d := by
    have m' : d ∈ [toD q0, toD q0, toD q0, toD q0, toD q0, dx, D.tup [.int 2, .int 4], D.tup [.int 0, .int 0], D.tup [.int 1000, .int 1], D.tup [.bl true, .int 1]] := m1
    simp only [List.mem_cons, List.not_mem_nil, or_false] at m'
    rcases m' with rfl | rfl | rfl | rfl | rfl | rfl | rfl | rfl | rfl | rfl
    all_goals first | exact qd_dr hq0 | exact ⟨hox.1, hox.2.1⟩ | exact ⟨rfl, rfl⟩
  clear m1
  repeat walk_at "dl"
  have hw0 : (isDir d = false ∨ ps = []) → wnt ps d (.tup [.str "no", .str "InvalidDirection", d]) := fun h => .inr ⟨h, rfl⟩
  refine ro_nePL (qs := []) ⟨_, rfl, ?_⟩
  refine ite2 (fun h => ?_) (fun h => ?_)
  · have hne : rnd ps ≠ [] := by simpa using h
    have hne0 : ps ≠ [] := fun z => hne (by rw [z]; rfl)
    refine wt_B (we_callF (wa_cons (we_var rfl (wa_nil ⟨hd.1, ⟨_, rfl, ?_⟩⟩))))
    refine ite2 (fun h2 => ?_) (fun h2 => ?_)
    · obtain ⟨p, rfl, hp⟩ := isDir_ex h2
      obtain ⟨hs, hD⟩ := rnd_ok hps
      have hw1 : wnt ps (toD p) (.tup [.str "told", toD (nxtP (rnd ps) p)]) := .inl ⟨p, rfl, hp, hne0, rfl⟩
      refine ws_set (we_tup (wa_cons (we_str (wa_cons (we_if (wt_test (we_op (we_var rfl (we_var rfl (ro_inPL ⟨_, rfl, ?_⟩))))))))))
      refine ite2 (fun h3 => ?_) (fun h3 => ?_)
      · have hin : p ∈ rnd ps := by simpa using h3
        refine we_var rfl (wa_nil ⟨by show 2 ≤ 1000; decide, ?_⟩)
        have e : nxtP (rnd ps) p = p := by unfold nxtP; rw [if_pos hin]
        rw [e] at hw1
        exact wC Ba O ps _ _ _ _ _ _ _ _ _ _ _ hl hps hd.1 hd.2 hw1 fun z9 z11 z12 z13 => hO _ _ _ _ _ _
      · have hn : p ∉ rnd ps := by simpa using h3
        generalize hrow : rnd ps = row at *
        have hlr : row.length ≤ 100 := by rw [← hrow]; exact Nat.le_trans rnd_len hl
        refine we_op (we_op (we_lc (wi_list (we_var rfl ⟨_, rfl, by rw [List.length_map]; omega, fun n acc => acc = ((row.take n).filter (ltP p ·)).map toD, rfl, ?_, ?_⟩))))
        · rintro n z acc hz hacc
          have hacc' : acc = ((row.take n).filter (ltP p ·)).map toD := hacc
          rw [List.getElem?_map] at hz
          obtain ⟨q, hq, rfl⟩ : ∃ q, row[n]? = some q ∧ toD q = z := by
            cases e : row[n]? with
            | none => rw [e] at hz; cases hz
            | some q => rw [e] at hz; exact ⟨q, rfl, Option.some.inj hz⟩
          dsimp only [List.set]
          repeat walk_at "dl"
          refine ⟨⟨p, q, rfl, rfl, hp, hD q (List.mem_of_getElem? hq)⟩, ?_⟩
          rintro _ ⟨p', q', e1, rfl⟩
          have ep1 := toD_inj (List.cons.inj e1).1
          have eq1 := toD_inj (List.cons.inj (List.cons.inj e1).2).1
          subst eq1 ep1
          refine ⟨_, rfl, ?_⟩
          refine ite2 (fun h3 => ?_) (fun h3 => ?_)
          · refine we_var rfl ?_
            show acc ++ [toD q] = ((row.take (n + 1)).filter (ltP p ·)).map toD
            rw [hacc', List.take_add_one, hq, List.filter_append, List.map_append]
            have e3 : ([q].filter (ltP p ·)) = [q] := by simp [h3]
            show _ = _ ++ ([q].filter (ltP p ·)).map toD
            rw [e3]; rfl
          · show acc = ((row.take (n + 1)).filter (ltP p ·)).map toD
            rw [hacc', List.take_add_one, hq, List.filter_append, List.map_append]
            have e3 : ([q].filter (ltP p ·)) = [] := by simp [Bool.eq_false_iff.mpr h3]
            show _ = _ ++ ([q].filter (ltP p ·)).map toD
            rw [e3]; simp
        · rintro acc hacc
          have hacc' : acc = ((row.take (row.map toD).length).filter (ltP p ·)).map toD := hacc
          rw [List.length_map, List.take_length] at hacc'
          have hfl : (row.filter (ltP p ·)).length ≤ row.length := List.length_filter_le ..
          subst hacc'
          refine we_var rfl (ro_cat (by rw [List.length_map, List.length_map]; omega) (we_int ?_))
          have e : nxtP row p = ((row.filter (ltP p ·)) ++ row).headD p := by unfold nxtP; rw [if_neg hn]
          rw [← List.map_append]
          have e2 : ((row.filter (ltP p ·)) ++ row) ≠ [] := fun z => hne (List.append_eq_nil_iff.mp z).2
          refine ro_ixL (d := toD (nxtP row p)) ?_ (wa_nil ⟨by show 2 ≤ 1000; decide, ?_⟩)
          · rw [e]
            generalize (row.filter (ltP p ·)) ++ row = zs at e2
            cases zs with
            | nil => exact absurd rfl e2
            | cons z zs => exact atI0
          · subst hrow
            exact wC Ba O ps _ _ _ _ _ _ _ _ _ _ _ hl hps hd.1 hd.2 hw1 fun z9 z11 z12 z13 => hO _ _ _ _ _ _
    · refine ws_next ?_
      exact wC Ba O ps _ _ _ _ _ _ _ _ _ _ _ hl hps hd.1 hd.2 (hw0 (.inl (Bool.eq_false_iff.mpr h2))) fun z9 z11 z12 z13 => hO _ _ _ _ _ _
  · have hne : rnd ps = [] := by simpa using h
    rw [if_neg (by decide)]
    refine ws_next ?_
    exact wC Ba O ps _ _ _ _ _ _ _ _ _ _ _ hl hps hd.1 hd.2 (hw0 (.inr (Classical.byContradiction fun ne => rnd_ne ne hne))) fun z9 z11 z12 z13 => hO _ _ _ _ _ _

end
/-! #### Qt -/
section
variable {P : Program} {w : World} {K : PySem.W.Frag} {mg : Str → Option Value} {base : Heap}
/-! ### own16 -/
def spLaw (K : PySem.W.Frag) (Pt : Addr) : Sp := fun vs H Q _ => ∃ (a : Addr) (ns : List Int), vs = [.ref a] ∧ SqL K H a (ns.map V.int) ∧ ns.length ≤ 63 ∧ H Pt = some (.tbl #[]) ∧ ∀ H', Q (.bl true) H'
abbrev lawO : Out := { nx := fun _ => False, rt := fun r => r = .bl true }
/-- the eight turns and the answer -/
theorem part_loop {m : Nat} {f c Pt C CL CM : Addr} (L : Law P w K mg base m f c Pt C CL CM) (A : Around) (outer : List Env) (s : Shared) (H : Hp) (E : XK) (hr : lroom m f c A s) :
    ∃ t, PSs (lcx P w K mg base f c A outer s H E) ((defBody s_law).drop 9) t ∧ ∀ (Ba : Addr) (ps : List PP) (y3 y4 y7 y8 y9 y10 y11 y12 y13 : Sd), ps.length ≤ 100 → (∀ p ∈ ps, IsDr p) →
      WS K ⟨Ba, lawT f c Pt⟩ t [.no, .val .box, .val (.lst (ps.map toD)), y3, y4, .val (.lst (ps.map toD)), .val (.lst ((rnd ps).map toD)), y7, y8, y9, y10, y11, y12, y13] lawO := by
  have G := L.G
  obtain ⟨tc, hC, wC⟩ := piece_C L A outer s H E hr
  obtain ⟨tb, hB, wB⟩ := piece_B L A outer s H E hr hC wC
  obtain ⟨ta2, hA2, wA2⟩ := piece_A2 L A outer s H E hr hB wB
  obtain ⟨ta, hA, wA⟩ := piece_A1 L A outer s H E hr hA2 wA2
  refine ⟨_, (pss_cons (ps_for PassesOwn.never rfl (pi_range1 rfl G.g_range (pa_cons pe_int pa_nil)) (pg_name (i := 4) sc_law.nd rfl (Or.inl rfl)) hA) (pss_one (ps_ret (pe_cmpR (op_eqD hr.units) (pv 5) (pv 2) (nomark _))))), fun Ba ps y3 y4 y7 y8 y9 y10 y11 y12 y13 hl hps => ?_⟩
  try dsimp only [lcx, cxOf, Cx.nox, Cx.blk]
  refine ws_seq (ws_for (wi_range1 ?_))
  repeat walk_at "dl"
  refine ⟨by decide, by decide, fun _ δ1 => ∃ z4 z7 z8 z9 z11 z12 z13, δ1 = [.no, .val .box, .val (.lst (ps.map toD)), y3, z4, .val (.lst (ps.map toD)), .val (.lst ((rnd ps).map toD)), z7, z8, z9, y10, z11, z12, z13], ⟨_, _, _, _, _, _, _, rfl⟩, ?_, ?_⟩
  · rintro k d δ1 _ ⟨z4, z7, z8, z9, z11, z12, z13, rfl⟩
    exact wA Ba _ ps _ _ _ _ _ _ _ _ _ _ hl hps fun _ _ _ _ _ _ => ⟨_, _, _, _, _, _, _, rfl⟩
  · rintro δ1 ⟨z4, z7, z8, z9, z11, z12, z13, rfl⟩
    refine ws_ret (we_op (we_var rfl (we_var rfl (ro_eqPL ?_))))
    rw [decide_eq_true rfl]
/-- the directions of the law: statements 1 to 3 -/
theorem part_some {m : Nat} {f c Pt C CL CM : Addr} (L : Law P w K mg base m f c Pt C CL CM) (A : Around) (outer : List Env) (s : Shared) (H : Hp) (E : XK) (hr : lroom m f c A s) {tC : TS} (hC : PSs (lcx P w K mg base f c A outer s H E) ((defBody s_law).drop 4) tC)
    (wC : ∀ (Ba : Addr) (ps : List PP) (y3 y4 y5 y6 y7 y8 y9 y10 y11 y12 y13 : Sd), ps.length ≤ 100 → (∀ p ∈ ps, IsDr p) →
      WS K ⟨Ba, lawT f c Pt⟩ tC [.no, .val .box, .val (.lst (ps.map toD)), y3, y4, y5, y6, y7, y8, y9, y10, y11, y12, y13] lawO) :
    ∃ t, PSs (lcx P w K mg base f c A outer s H E) ((defBody s_law).drop 1) t ∧ ∀ (Ba : Addr) (y2 y3 y4 y5 y6 y7 y8 y9 y10 y11 y12 y13 : Sd),
      WS K ⟨Ba, lawT f c Pt⟩ t [.no, .val .box, y2, y3, y4, y5, y6, y7, y8, y9, y10, y11, y12, y13] lawO := by
  have G := L.G
  have C__law_take := L.tk
  have C__law_pick := L.pk
  have C__law_dir := L.dr
  refine ⟨_, (pss_cons (ps_set (i := 2) sc_law.nd rfl (Or.inr rfl) (pe_lc (own := [("_law_k", 10)]) (g := gName 10) (tt := tYes) rfl sc_law.nd (pi_range1 rfl G.g_range (pa_cons (pe_c C__law_take hr (by omega) (by rfl) (pa_cons (pv 1) (pa_cons pe_int pa_nil))) pa_nil)) (blkOk_by (N := N_law) (sc := defScope s_law) (by decide +kernel)) (fun _ _ _ _ _ => pg_name (i := 10) sc_law.nd rfl (Or.inl rfl)) (fun _ _ _ _ _ => pts_nil) (fun _ _ _ _ _ => (pe_c C__law_dir hr (by omega) (by rfl) (pa_cons (pv 1) pa_nil)))))
      (pss_cons (ps_set (i := 2) sc_law.nd rfl (Or.inr rfl) (pe_op op_cat (pv 2) (pe_lc (own := [("_law_k", 10)]) (g := gName 10) rfl sc_law.nd (pi_range1 rfl G.g_range (pa_cons (pe_c C__law_take hr (by omega) (by rfl) (pa_cons (pv 1) (pa_cons pe_int pa_nil))) pa_nil)) (blkOk_by (N := N_law) (sc := defScope s_law) (by decide +kernel)) (fun _ _ _ _ _ => pg_name (i := 10) sc_law.nd rfl (Or.inl rfl)) (fun _ _ _ _ _ => (pts_one (pt_cmpR (show OpR _ (compareOp .NotEq) (rNeD K) from op_neD hr.units) (pv 2) (pe_lst pa_nil) (nomark _)))) (fun _ _ _ _ _ => (pe_c C__law_pick hr (by omega) (by rfl) (pa_cons (pv 1) (pa_cons (pv 2) pa_nil)))))))
      (pss_cons (ps_set (i := 2) sc_law.nd rfl (Or.inr rfl) (pe_op op_cat (pv 2) (pe_lc (own := [("_law_d", 7)]) (g := gName 7) (tt := tYes) rfl sc_law.nd (pi_list (pe_slice sl_list (pv 2) po_none (po_some (pe_c C__law_take hr (by omega) (by rfl) (pa_cons (pv 1) (pa_cons pe_int pa_nil)))))) (blkOk_by (N := N_law) (sc := defScope s_law) (by decide +kernel)) (fun _ _ _ _ _ => pg_name (i := 7) sc_law.nd rfl (Or.inl rfl)) (fun _ _ _ _ _ => pts_nil) (fun _ _ _ _ _ => (pe_tup (pa_cons (pe_op op_sub pe_int (pe_ix (show IxR _ (rIxT K) from ix_tup) (pv 7) pe_int (fun _ _ => rfl))) (pa_cons (pe_op op_sub pe_int (pe_ix (show IxR _ (rIxT K) from ix_tup) (pv 7) pe_int (fun _ _ => rfl))) pa_nil)))))))
      hC))), fun Ba y2 y3 y4 y5 y6 y7 y8 y9 y10 y11 y12 y13 => ?_⟩
  try dsimp only [lcx, cxOf, Cx.nox, Cx.blk]
  refine ws_seq (ws_set (we_lc (wi_range1 ?_)))
  repeat walk_at "dl"
  refine ⟨⟨rfl, _, rfl, by decide, by decide⟩, ?_⟩
  rintro _ ⟨n', i, e, rfl, hi0, hi1⟩
  cases e
  refine wa_nil ⟨_, rfl, by omega, by omega, by rw [upto_len]; omega, fun n acc => ∃ ps : List PP, acc = ps.map toD ∧ ps.length = n ∧ ∀ p ∈ ps, IsDr p, ⟨[], rfl, rfl, fun _ z => nomatch z⟩, ?_, ?_⟩
  · rintro n d acc _ ⟨ps, rfl, hn, hps⟩
    try dsimp only [List.set]
    refine wt_yes ?_
    rw [if_pos rfl]
    refine we_call (wa_cons (we_var rfl (wa_nil ⟨rfl, ?_⟩)))
    rintro _ ⟨p, rfl, hp⟩
    refine ⟨ps ++ [p], by rw [List.map_append]; rfl, by rw [List.length_append, hn]; rfl, fun q hq => ?_⟩
    rcases List.mem_append.mp hq with a | a
    · exact hps q a
    · rw [List.mem_singleton.mp a]; exact hp
  rintro acc ⟨ps, rfl, hn, hps⟩
  rw [upto_len] at hn
  have hl1 : ps.length ≤ 9 := by omega
  clear hn
  try dsimp only [List.set]
  refine ws_seq (ws_set (we_op (we_var rfl (we_lc (wi_range1 ?_)))))
  repeat walk_at "dl"
  refine ⟨⟨rfl, _, rfl, by decide, by decide⟩, ?_⟩
  rintro _ ⟨n', j, e, rfl, hj0, hj1⟩
  cases e
  refine wa_nil ⟨_, rfl, by omega, by omega, by rw [upto_len]; omega, fun n acc => ∃ qs : List PP, acc = qs.map toD ∧ qs.length ≤ n ∧ ∀ p ∈ qs, IsDr p, ⟨[], rfl, Nat.le_refl _, fun _ z => nomatch z⟩, ?_, ?_⟩
  · rintro n d acc _ ⟨qs, rfl, hn, hqs⟩
    try dsimp only [List.set]
    refine wt_test (we_op (we_var rfl (we_lst (wa_nil ⟨by decide, ro_nePL (qs := []) ⟨_, rfl, ?_⟩⟩))))
    refine ite2 (fun h => ?_) (fun h => ?_)
    · have hne : ps ≠ [] := by simpa using h
      refine we_call (wa_cons (we_var rfl (wa_cons (we_var rfl (wa_nil ⟨⟨rfl, _, rfl, by rw [List.length_map]; exact List.length_pos_iff.mpr hne, by rw [List.length_map]; omega⟩, ?_⟩)))))
      rintro d' ⟨xs, e, mx⟩
      cases e
      obtain ⟨p, hp, rfl⟩ := List.mem_map.mp mx
      refine ⟨qs ++ [p], by rw [List.map_append]; rfl, by rw [List.length_append]; show qs.length + 1 ≤ n + 1; omega, fun q hq => ?_⟩
      rcases List.mem_append.mp hq with a | a
      · exact hqs q a
      · rw [List.mem_singleton.mp a]; exact hps p hp
    · exact ⟨qs, rfl, by omega, hqs⟩
  rintro acc ⟨qs, rfl, hn, hqs⟩
  rw [upto_len] at hn
  have hl2 : qs.length ≤ 3 := by omega
  clear hn
  refine ro_cat (by rw [List.length_map, List.length_map]; omega) ?_
  rw [← List.map_append]
  have hl3 : (ps ++ qs).length ≤ 12 := by rw [List.length_append]; omega
  have hps3 : ∀ p ∈ ps ++ qs, IsDr p := fun p hp => (List.mem_append.mp hp).elim (hps p) (hqs p)
  generalize ps ++ qs = ts at hl3 hps3
  clear hps hqs hl1 hl2
  try dsimp only [List.set]
  refine ws_seq (ws_set (we_op (we_var rfl (we_lc (wi_list (we_sl (we_var rfl (wo_none (wo_some ?_)))))))))
  repeat walk_at "dl"
  refine ⟨⟨rfl, _, rfl, by decide, by decide⟩, ?_⟩
  rintro _ ⟨n', l, e, rfl, hl0, hl4⟩
  cases e
  have hc : ∃ us : List PP, Dl.cutD (ts.map toD) none (some l) = us.map toD ∧ us.length ≤ 12 ∧ ∀ p ∈ us, IsDr p := by
    unfold Dl.cutD
    refine ⟨(ts.drop (HT.sIx (ts.map toD).length 0 none)).take _, by rw [← List.map_drop, ← List.map_take], ?_, fun p hp => hps3 p (List.mem_of_mem_drop (List.mem_of_mem_take hp))⟩
    rw [List.length_take, List.length_drop]
    omega
  obtain ⟨us, ec, hu1, hus⟩ := hc
  refine ⟨_, rfl, rs_L ⟨_, rfl, ?_⟩⟩
  rw [ec]
  refine ⟨by rw [List.length_map]; omega, fun n acc => acc = ((us.take n).map fun p => toD (0 - p.1, 0 - p.2)), rfl, ?_, ?_⟩
  · rintro n d acc hd hacc
    have hacc' : acc = ((us.take n).map fun p => toD (0 - p.1, 0 - p.2)) := hacc
    rw [List.getElem?_map] at hd
    obtain ⟨q, hq, rfl⟩ : ∃ q, us[n]? = some q ∧ toD q = d := by
      cases e : us[n]? with
      | none => rw [e] at hd; cases hd
      | some q => rw [e] at hd; exact ⟨q, rfl, Option.some.inj hd⟩
    have hq2 := hus q (List.mem_of_getElem? hq)
    obtain ⟨_, b1, b2, b3, b4⟩ := hq2
    try dsimp only [List.set]
    refine wt_yes ?_
    rw [if_pos rfl]
    repeat walk_at "dl"
    refine ro_ixT (d := .int q.1) rfl ?_
    repeat walk_at "dl"
    refine ro_ixT (d := .int q.2) rfl ?_
    repeat walk_at "dl"
    show acc ++ [_] = ((us.take (n + 1)).map fun p => toD (0 - p.1, 0 - p.2))
    rw [hacc', List.take_add_one, hq, List.map_append]
    rfl
  rintro acc hacc
  have hacc' : acc = ((us.take (us.map toD).length).map fun p => toD (0 - p.1, 0 - p.2)) := hacc
  rw [List.length_map, List.take_length] at hacc'
  have e2 : acc = (us.map fun p => (0 - p.1, 0 - p.2)).map toD := by rw [hacc', List.map_map]; rfl
  rw [e2]
  refine ro_cat (by rw [List.length_map, List.length_map, List.length_map]; omega) ?_
  rw [← List.map_append]
  try dsimp only [List.set]
  refine wC Ba _ _ _ _ _ _ _ _ _ _ _ _ (by rw [List.length_append, List.length_map]; omega) fun p hp => ?_
  rcases List.mem_append.mp hp with a | a
  · exact hps3 p a
  · obtain ⟨q, hq, rfl⟩ := List.mem_map.mp a
    obtain ⟨b0, b1, b2, b3, b4⟩ := hus q hq
    refine ⟨?_, by show -999 ≤ 0 - q.1; omega, by show 0 - q.1 ≤ 999; omega, by show -999 ≤ 0 - q.2; omega, by show 0 - q.2 ≤ 999; omega⟩
    show Nat.gcd (0 - q.1).natAbs (0 - q.2).natAbs = 1
    rw [Int.zero_sub, Int.zero_sub, Int.natAbs_neg, Int.natAbs_neg]
    exact b0

end
/-! #### Qu -/
section
variable {P : Program} {w : World} {K : PySem.W.Frag} {mg : Str → Option Value} {base : Heap}
/-! ### own17 -/
theorem pl_list3 {n : Nat} {ps : List PP} (hl : ps.length ≤ 1000) (hn : 2 ≤ n) : plain n (.lst (ps.map toD)) = true := pl_mono 2 n _ hn (pl_list hl)
/-- statements 4 to 8 of the law: the rounds themselves -/
theorem part_mid {m : Nat} {f c Pt C CL CM : Addr} (L : Law P w K mg base m f c Pt C CL CM) (A : Around) (outer : List Env) (s : Shared) (H : Hp) (E : XK) (hr : lroom m f c A s) {tC : TS} (hC : PSs (lcx P w K mg base f c A outer s H E) ((defBody s_law).drop 9) tC)
    (wC : ∀ (Ba : Addr) (ps : List PP) (y3 y4 y7 y8 y9 y10 y11 y12 y13 : Sd), ps.length ≤ 100 → (∀ p ∈ ps, IsDr p) →
      WS K ⟨Ba, lawT f c Pt⟩ tC [.no, .val .box, .val (.lst (ps.map toD)), y3, y4, .val (.lst (ps.map toD)), .val (.lst ((rnd ps).map toD)), y7, y8, y9, y10, y11, y12, y13] lawO) :
    ∃ t, PSs (lcx P w K mg base f c A outer s H E) ((defBody s_law).drop 4) t ∧ ∀ (Ba : Addr) (ps : List PP) (y3 y4 y5 y6 y7 y8 y9 y10 y11 y12 y13 : Sd), ps.length ≤ 100 → (∀ p ∈ ps, IsDr p) →
      WS K ⟨Ba, lawT f c Pt⟩ t [.no, .val .box, .val (.lst (ps.map toD)), y3, y4, y5, y6, y7, y8, y9, y10, y11, y12, y13] lawO := by
  have G := L.G
  have C__law_round := L.rN.frz rnd_frz
  have CN_in_round := L.irN
  have C_in_round := L.irN.frz rnd_frz
  have K_in_round := L.irT
  have C__law_same := L.same
  refine ⟨_, (pss_cons (ps_asg (pe_tup (pa_cons (pe_callTy call_list_of (by rfl) G.g_list (by decide +kernel) (pa_cons (pv 2) pa_nil)) (pa_cons (pe_c C__law_round hr (by omega) (by rfl) (pa_cons (pv 2) pa_nil)) pa_nil))) (pg_tup rfl (pgs_cons (pg_name (i := 5) sc_law.nd rfl (Or.inr rfl)) (pgs_cons (pg_name (i := 6) sc_law.nd rfl (Or.inr rfl)) pgs_nil))))
      (pss_cons (ps_set (i := 3) sc_law.nd rfl (Or.inl rfl) (pe_c CN_in_round hr (by omega) (by rfl) (pa_cons (pv 5) pa_nil)))
      (pss_cons (ps_if (pt_not (pt_val (pe_c C__law_same hr (by omega) (by rfl) (pa_cons (pe_lst (pa_cons (pv 3) (pa_cons (pe_ck K_in_round hr (by omega) (by rfl) (pk_cons (pe_callTy (show CallR _ (.type "tuple") (rTupOf K) from call_tuple_of) (by rfl) G.g_tuple (by decide +kernel) (pa_cons (pv 2) pa_nil)) pk_nil)) (pa_cons (pv 5) pa_nil)))) (pa_cons (pe_lst (pa_cons (pv 6) (pa_cons (pv 6) (pa_cons (pv 2) pa_nil)))) pa_nil))))) (pss_one (ps_ret pe_bl)) pss_nil)
      (pss_cons (ps_expr (pe_bm PySem.F.plainAttrs_list PySem.F.slot_list_append PySem.F.type_list_append mt_append (pv 3) (pa_cons (pe_tup (pa_cons pe_int (pa_cons pe_int pa_nil))) pa_nil)))
      (pss_cons (ps_if (pt_not (pt_val (pe_c C__law_same hr (by omega) (by rfl) (pa_cons (pe_c C_in_round hr (by omega) (by rfl) (pa_cons (pv 5) pa_nil)) (pa_cons (pv 6) pa_nil))))) (pss_one (ps_ret pe_bl)) pss_nil)
      hC))))), fun Ba ps y3 y4 y5 y6 y7 y8 y9 y10 y11 y12 y13 hl hps => ?_⟩
  try dsimp only [lcx, cxOf, Cx.nox, Cx.blk]
  have hrl : (rnd ps).length ≤ 100 := Nat.le_trans rnd_len hl
  refine ws_seq (ws_unt2 (we_tup (wa_cons (we_cb (wa_cons (we_var rfl (wa_nil (rc_listOf ?_).1)))))))
  refine wa_cons (we_call (wa_cons (we_var rfl (wa_nil ⟨⟨ps, rfl, hl, hps⟩, ?_⟩))))
  rintro d1 ⟨ps1, e1, rfl, _, _, _⟩
  have q1 := map_toD_inj (D.lst.inj (List.cons.inj e1).1)
  subst q1
  refine wa_nil ⟨by show 2 ≤ 1000; decide, _, _, rfl, ?_⟩
  try dsimp only [List.set]
  refine ws_seq (ws_setN (wa_cons (we_var rfl (wa_nil ⟨⟨ps, rfl, hl, hps⟩, ?_⟩))))
  rintro es ⟨ps2, e2, rfl, _, _, _⟩
  have q2 := map_toD_inj (D.lst.inj (List.cons.inj e2).1)
  subst q2
  try dsimp only [List.set]
  refine ws_seq (ws_if (wt_frz (i := 3) rfl ?_))
  try dsimp only [List.set]
  refine wt_not (wt_B (we_callF (wa_cons (we_lst (wa_cons (we_var rfl (wa_cons (we_ck (gD := fun ds => ds) (fun _ _ _ h => h) (wa_cons (we_cb (wa_cons (we_var rfl (wa_nil (rc_tupL (wa_nil ⟨rfl, ⟨ps, rfl, hl, hps⟩, ?_⟩)))))))))))))))
  rintro d3 ⟨ps3, e3, rfl, _, _, _⟩
  have q3 := map_toD_inj (D.tup.inj (List.cons.inj e3).1)
  subst q3
  repeat walk_at "dl"
  refine ⟨⟨rfl, pl_lst (by show 3 ≤ 1000; decide) fun z hz => ?_⟩, ?_⟩
  · simp only [List.mem_cons, List.not_mem_nil, or_false] at hz
    rcases hz with rfl | rfl | rfl
    · exact pl_list3 (by omega) (by decide)
    · exact pl_list3 (by omega) (by decide)
    · exact pl_list3 (by omega) (by decide)
  refine ⟨_, rfl, ?_⟩
  refine iteF (ws_next ?_)
  refine ws_seq (ws_append (i := 3) (ds := (rnd ps).map toD) rfl rfl (by rw [List.length_map]; omega) ?_)
  repeat walk_at "dl"
  try dsimp only [List.set]
  refine ⟨⟨ps, rfl, hl, hps⟩, ?_⟩
  rintro d4 ⟨ps4, e4, rfl, _, _, _⟩
  have q4 := map_toD_inj (D.lst.inj (List.cons.inj e4).1)
  subst q4
  repeat walk_at "dl"
  refine ⟨⟨rfl, pl_list3 (by omega) (by decide)⟩, ?_⟩
  repeat walk_at "dl"
  exact wC Ba ps _ _ _ _ _ _ _ _ _ hl hps
/-- the law -/
theorem ok_law {m : Nat} {f c Pt C CL CM : Addr} {oc dV kV doc pm ct : Value} {od an : Option Addr} {osl : Array (Option Value)} (L : Law P w K mg base m f c Pt C CL CM) (C__law_box : Cl P w K mg base (m + 2) "_law_box" s__law_box ["_law_script", "_law_own"] (spBox K))
    (lk : K.lookup f = some ⟨oc, od, .func (PySem.W.fnOf "law" "law" (defArgs s_law) (defBody s_law) (defScope s_law) dV kV doc pm an (.ref c) ct), osl⟩) (hcd : PySem.W.codeIn K (.ref c) "law" = true) :
    FnOk P w K mg base CX0 (m + 3) f (PySem.W.fnOf "law" "law" (defArgs s_law) (defBody s_law) (defScope s_law) dV kV doc pm an (.ref c) ct) ["_law_script"] (spLaw K Pt) := by
  refine fn_of (CX := CX0) lk hcd sc_law (fun vs H Q E h => ?_) fun A outer s H vs Q E hr h => ?_
  · obtain ⟨a, ns, rfl, _⟩ := h
    rfl
  obtain ⟨a, ns, rfl, hS, hl, hP, q⟩ := h
  have hr' : lroom m f c A s := hr
  obtain ⟨t9, h9, w9⟩ := part_loop L A outer s H E hr'
  obtain ⟨t4, h4, w4⟩ := part_mid L A outer s H E hr' h9 w9
  obtain ⟨t1, h1, w1⟩ := part_some L A outer s H E hr' h4 w4
  have hT : LamX.Tabs (lawT f c Pt) H := fun p hp => by
    rw [List.mem_singleton.mp hp]
    exact LamX.TabS.nil hP
  have key : ∃ t, PSs (lcx P w K mg base f c A outer s H E) (defBody s_law) t ∧ t { nx := fun _ H' => Q .non H', rt := Q } (start N_law [.ref a]) H := by
    refine ⟨_, pss_cons (ps_set (i := 1) sc_law.nd rfl (Or.inr rfl) (pe_c C__law_box hr (by omega) (by rfl) (pa_cons (pv 0) (pa_cons pe_int pa_nil)))) h1, ?_⟩
    refine ⟨_, rfl, ⟨a, ns, _, rfl, hS, hl, by decide, by decide, lawT f c Pt, hT, fun B G1 H1 hB sm ok => ?_⟩⟩
    obtain ⟨Ba, BT⟩ := B
    have hB' : BT = lawT f c Pt := hB
    subst hB'
    refine w1 Ba .no .no .no .no .no .no .no .no .no .no .no .no G1 H1 _ G1 H1 _ ⟨Go.refl, ok, rfl, fun i d e => ?_, fun i ds e => ?_, fun i j ds es x e1 => ?_⟩ xs0 (fun _ _ _ _ _ _ z => z.elim) ⟨fun v d G2 H2 _ _ hv e => ?_, fun _ _ _ _ _ _ _ _ _ _ _ _ z => z.elim⟩ (fun _ _ _ _ _ _ z => z.elim) (fun _ _ _ _ _ _ z => z.elim)
    · match i, e with
      | 0, e => cases e
      | 1, e => cases e; exact ⟨.ref Ba, rfl, .box⟩
      | 2, e => cases e
      | 3, e => cases e
      | 4, e => cases e
      | 5, e => cases e
      | 6, e => cases e
      | 7, e => cases e
      | 8, e => cases e
      | 9, e => cases e
      | 10, e => cases e
      | 11, e => cases e
      | 12, e => cases e
      | 13, e => cases e
      | n + 14, e => cases e
    · exact absurd e (by match i with
        | 0 => exact fun z => nomatch z
        | 1 => exact fun z => nomatch z
        | 2 => exact fun z => nomatch z
        | 3 => exact fun z => nomatch z
        | 4 => exact fun z => nomatch z
        | 5 => exact fun z => nomatch z
        | 6 => exact fun z => nomatch z
        | 7 => exact fun z => nomatch z
        | 8 => exact fun z => nomatch z
        | 9 => exact fun z => nomatch z
        | 10 => exact fun z => nomatch z
        | 11 => exact fun z => nomatch z
        | 12 => exact fun z => nomatch z
        | 13 => exact fun z => nomatch z
        | n + 14 => exact fun z => nomatch z)
    · exact absurd e1 (by match i with
        | 0 => exact fun z => nomatch z
        | 1 => exact fun z => nomatch z
        | 2 => exact fun z => nomatch z
        | 3 => exact fun z => nomatch z
        | 4 => exact fun z => nomatch z
        | 5 => exact fun z => nomatch z
        | 6 => exact fun z => nomatch z
        | 7 => exact fun z => nomatch z
        | 8 => exact fun z => nomatch z
        | 9 => exact fun z => nomatch z
        | 10 => exact fun z => nomatch z
        | 11 => exact fun z => nomatch z
        | 12 => exact fun z => nomatch z
        | 13 => exact fun z => nomatch z
        | n + 14 => exact fun z => nomatch z)
    · have e' : d = .bl true := e
      subst e'
      cases hv
      exact q H2
  obtain ⟨t, ht, hq⟩ := key
  exact ⟨t, ht.nox, hq⟩

end
/-! #### Qv -/
section
variable {K : PySem.W.Frag} {h : Heap} {mg : Str → Option Value}
theorem df_mk {x : Str} {st : Stmt} {f : Addr} {oc : Value} {od an : Option Addr} {osl : Array (Option Value)} {kV doc pm cdv ct : Value} (X : K.In h) (G : h.Ns mainGlobals mg) (a : PySem.W.nsIn K mainGlobals x = some (some (.ref f)))
    (l : K.lookup f = some ⟨oc, od, .func (PySem.W.fnOf x x (defArgs st) (defBody st) (defScope st) .none kV doc pm an cdv ct), osl⟩) (c : PySem.W.codeIn K cdv x = true) (k : PySem.W.keepIn K (.ref f) = true) : Df K mg x st :=
  ⟨f, _, fun_mk (st := st) l c k, PySem.W.mg_of X G a⟩
theorem gi_mk {x : Str} {i : Int} {t : Tok} (X : K.In h) (G : h.Ns mainGlobals mg) (a : PySem.W.nsIn K mainGlobals x = some (some (.int i t))) : ∃ t, mg x = some (.int i t) := ⟨t, PySem.W.mg_of X G a⟩
theorem er_mk {x q0 : Str} {st : Stmt} {f : Str} {C fI N : Addr} {nm q : Str} {bs bm sub : List Value} {sn : List Str} {ab : Bool} {col : Option Bool} {dd : Option Addr} {k0 k1 k2 k3 k5 : Option Value}
    {oc : Value} {od an : Option Addr} {osl : Array (Option Value)} {kV doc pm cdv ct : Value} (X : K.In h) (G : h.Ns mainGlobals mg) (a : PySem.W.nsIn K mainGlobals x = some (some (.ref C)))
    (l : K.lookup C = some (excClassObj nm q C N bs bm true sn sub ab col dd k0 k1 k2 k3 k5 "ValueError.__new__")) (r : PySem.HandSPX.refsVE bm = true) (sa : PySem.W.findIn K (.ref C) "__setattr__" = some (some (.builtin "object.__setattr__")))
    (ex : PySem.W.subIn K (.ref C) (.type "BaseException") = some true) (ty : PySem.W.typeIn K (.ref C) = some (.type "type")) (kC : PySem.W.keepIn K (.ref C) = true)
    (ga : PySem.W.findIn K (.ref C) "__getattribute__" = some (some (.builtin "BaseException.__getattribute__"))) (gg : PySem.W.findIn K (.ref C) "__getattr__" = some none) (hd : PySem.W.hasDictIn K C = true)
    (n1 : PySem.W.findIn K (.ref C) f = some none) (n2 : PySem.W.findIn K (.ref C) "code" = some none)
    (i : PySem.W.findIn K (.ref C) "__init__" = some (some (.ref fI))) (lI : K.lookup fI = some ⟨oc, od, .func (PySem.W.fnOf "__init__" q0 (defArgs st) (defBody st) (defScope st) .none kV doc pm an cdv ct), osl⟩) (cI : PySem.W.codeIn K cdv q0 = true) (kI : PySem.W.keepIn K (.ref fI) = true)
    (tI : PySem.W.typeIn K (.ref fI) = some (.type "function")) : Er K mg x q0 C st [f, ("code" : Str)] :=
  ⟨⟨⟨nm, q, N, bs, bm, sn, sub, ab, col, dd, k0, k1, k2, k3, k5, l, r⟩, sa, ex, ty, kC⟩, ⟨ga, gg, ex, hd⟩, fun z hz => by
    rcases List.mem_cons.mp hz with rfl | hz
    · exact n1
    · rw [List.mem_singleton.mp hz]; exact n2, ⟨fI, _, fun_mk (st := st) lI cI kI, i, tI⟩, PySem.W.mg_of X G a⟩
end
/-- what the top has written -/
structure Top (K : PySem.W.Frag) (mg : Str → Option Value) (C CL CM : Addr) : Prop where
  gn : Gn mg
  er : Er K mg "InvalidDirection" "InvalidDirection.__init__" C s_InvalidDirection ["value", "code"]
  mL : mg "LotError" = some (.ref CL)
  mM : mg "Missing" = some (.ref CM)
  mx : PySem.W.exmAny K (.ref C) [.ref CL, .ref CM] = some true
  d_is_any_number : Df K mg "is_any_number" s_is_any_number
  d_is_number_pair : Df K mg "is_number_pair" s_is_number_pair
  d_is_bounded_pair : Df K mg "is_bounded_pair" s_is_bounded_pair
  d_is_direction : Df K mg "is_direction" s_is_direction
  d_cross : Df K mg "cross" s_cross
  d_turned_half : Df K mg "turned_half" s_turned_half
  d_reduced : Df K mg "reduced" s_reduced
  d_in_second_half : Df K mg "in_second_half" s_in_second_half
  d_stands_ahead : Df K mg "stands_ahead" s_stands_ahead
  d_place_in_round : Df K mg "place_in_round" s_place_in_round
  d_in_round : Df K mg "in_round" s_in_round
  d_next_in_round : Df K mg "next_in_round" s_next_in_round
  d__law_box : Df K mg "_law_box" s__law_box
  d__law_take : Df K mg "_law_take" s__law_take
  d__law_pick : Df K mg "_law_pick" s__law_pick
  d__law_same : Df K mg "_law_same" s__law_same
  d__law_fields : Df K mg "_law_fields" s__law_fields
  d__law_got : Df K mg "_law_got" s__law_got
  d__law_odd : Df K mg "_law_odd" s__law_odd
  d__law_gcd : Df K mg "_law_gcd" s__law_gcd
  d__law_dir : Df K mg "_law_dir" s__law_dir
  d__law_cross : Df K mg "_law_cross" s__law_cross
  d__law_is_whole : Df K mg "_law_is_whole" s__law_is_whole
  d__law_is_dir : Df K mg "_law_is_dir" s__law_is_dir
  d__law_ahead : Df K mg "_law_ahead" s__law_ahead
  d__law_round : Df K mg "_law_round" s__law_round
  d__law_reduced_due : Df K mg "_law_reduced_due" s__law_reduced_due
  d__law_pair : Df K mg "_law_pair" s__law_pair
theorem top_mk {K : PySem.W.Frag} {h : Heap} {mg : Str → Option Value} (X : K.In h) (G : h.Ns mainGlobals mg)
    {f0 : Addr} {oc0 kV0 dc0 pm0 cd0 ct0 : Value} {od0 an0 : Option Addr} {sl0 : Array (Option Value)}
    {f1 : Addr} {oc1 kV1 dc1 pm1 cd1 ct1 : Value} {od1 an1 : Option Addr} {sl1 : Array (Option Value)}
    {f2 : Addr} {oc2 kV2 dc2 pm2 cd2 ct2 : Value} {od2 an2 : Option Addr} {sl2 : Array (Option Value)}
    {f3 : Addr} {oc3 kV3 dc3 pm3 cd3 ct3 : Value} {od3 an3 : Option Addr} {sl3 : Array (Option Value)}
    {f4 : Addr} {oc4 kV4 dc4 pm4 cd4 ct4 : Value} {od4 an4 : Option Addr} {sl4 : Array (Option Value)}
    {f5 : Addr} {oc5 kV5 dc5 pm5 cd5 ct5 : Value} {od5 an5 : Option Addr} {sl5 : Array (Option Value)}
    {f6 : Addr} {oc6 kV6 dc6 pm6 cd6 ct6 : Value} {od6 an6 : Option Addr} {sl6 : Array (Option Value)}
    {f7 : Addr} {oc7 kV7 dc7 pm7 cd7 ct7 : Value} {od7 an7 : Option Addr} {sl7 : Array (Option Value)}
    {f8 : Addr} {oc8 kV8 dc8 pm8 cd8 ct8 : Value} {od8 an8 : Option Addr} {sl8 : Array (Option Value)}
    {f9 : Addr} {oc9 kV9 dc9 pm9 cd9 ct9 : Value} {od9 an9 : Option Addr} {sl9 : Array (Option Value)}
    {f10 : Addr} {oc10 kV10 dc10 pm10 cd10 ct10 : Value} {od10 an10 : Option Addr} {sl10 : Array (Option Value)}
    {f11 : Addr} {oc11 kV11 dc11 pm11 cd11 ct11 : Value} {od11 an11 : Option Addr} {sl11 : Array (Option Value)}
    {f12 : Addr} {oc12 kV12 dc12 pm12 cd12 ct12 : Value} {od12 an12 : Option Addr} {sl12 : Array (Option Value)}
    {f13 : Addr} {oc13 kV13 dc13 pm13 cd13 ct13 : Value} {od13 an13 : Option Addr} {sl13 : Array (Option Value)}
    {f14 : Addr} {oc14 kV14 dc14 pm14 cd14 ct14 : Value} {od14 an14 : Option Addr} {sl14 : Array (Option Value)}
    {f15 : Addr} {oc15 kV15 dc15 pm15 cd15 ct15 : Value} {od15 an15 : Option Addr} {sl15 : Array (Option Value)}
    {f16 : Addr} {oc16 kV16 dc16 pm16 cd16 ct16 : Value} {od16 an16 : Option Addr} {sl16 : Array (Option Value)}
    {f17 : Addr} {oc17 kV17 dc17 pm17 cd17 ct17 : Value} {od17 an17 : Option Addr} {sl17 : Array (Option Value)}
    {f18 : Addr} {oc18 kV18 dc18 pm18 cd18 ct18 : Value} {od18 an18 : Option Addr} {sl18 : Array (Option Value)}
    {f19 : Addr} {oc19 kV19 dc19 pm19 cd19 ct19 : Value} {od19 an19 : Option Addr} {sl19 : Array (Option Value)}
    {f20 : Addr} {oc20 kV20 dc20 pm20 cd20 ct20 : Value} {od20 an20 : Option Addr} {sl20 : Array (Option Value)}
    {f21 : Addr} {oc21 kV21 dc21 pm21 cd21 ct21 : Value} {od21 an21 : Option Addr} {sl21 : Array (Option Value)}
    {f22 : Addr} {oc22 kV22 dc22 pm22 cd22 ct22 : Value} {od22 an22 : Option Addr} {sl22 : Array (Option Value)}
    {f23 : Addr} {oc23 kV23 dc23 pm23 cd23 ct23 : Value} {od23 an23 : Option Addr} {sl23 : Array (Option Value)}
    {f24 : Addr} {oc24 kV24 dc24 pm24 cd24 ct24 : Value} {od24 an24 : Option Addr} {sl24 : Array (Option Value)}
    {f25 : Addr} {oc25 kV25 dc25 pm25 cd25 ct25 : Value} {od25 an25 : Option Addr} {sl25 : Array (Option Value)}
    {f26 : Addr} {oc26 kV26 dc26 pm26 cd26 ct26 : Value} {od26 an26 : Option Addr} {sl26 : Array (Option Value)}
    {f27 : Addr} {oc27 kV27 dc27 pm27 cd27 ct27 : Value} {od27 an27 : Option Addr} {sl27 : Array (Option Value)}
    {t_DIRECTION_BOUND : Tok}
    {C CL CM fI N : Addr} {nm q : Str} {bs bm sub : List Value} {sn : List Str} {ab : Bool} {col : Option Bool} {dd : Option Addr} {j0 j1 j2 j3 j5 : Option Value} {ocI kVI dcI pmI cdI ctI : Value} {odI anI : Option Addr} {slI : Array (Option Value)}
    (a0 : PySem.W.nsIn K mainGlobals "is_any_number" = some (some (.ref f0))) (l0 : K.lookup f0 = some ⟨oc0, od0, .func (PySem.W.fnOf "is_any_number" "is_any_number" (defArgs s_is_any_number) (defBody s_is_any_number) (defScope s_is_any_number) .none kV0 dc0 pm0 an0 cd0 ct0), sl0⟩) (c0 : PySem.W.codeIn K cd0 "is_any_number" = true) (k0 : PySem.W.keepIn K (.ref f0) = true)
    (a1 : PySem.W.nsIn K mainGlobals "is_number_pair" = some (some (.ref f1))) (l1 : K.lookup f1 = some ⟨oc1, od1, .func (PySem.W.fnOf "is_number_pair" "is_number_pair" (defArgs s_is_number_pair) (defBody s_is_number_pair) (defScope s_is_number_pair) .none kV1 dc1 pm1 an1 cd1 ct1), sl1⟩) (c1 : PySem.W.codeIn K cd1 "is_number_pair" = true) (k1 : PySem.W.keepIn K (.ref f1) = true)
    (a2 : PySem.W.nsIn K mainGlobals "is_bounded_pair" = some (some (.ref f2))) (l2 : K.lookup f2 = some ⟨oc2, od2, .func (PySem.W.fnOf "is_bounded_pair" "is_bounded_pair" (defArgs s_is_bounded_pair) (defBody s_is_bounded_pair) (defScope s_is_bounded_pair) .none kV2 dc2 pm2 an2 cd2 ct2), sl2⟩) (c2 : PySem.W.codeIn K cd2 "is_bounded_pair" = true) (k2 : PySem.W.keepIn K (.ref f2) = true)
    (a3 : PySem.W.nsIn K mainGlobals "is_direction" = some (some (.ref f3))) (l3 : K.lookup f3 = some ⟨oc3, od3, .func (PySem.W.fnOf "is_direction" "is_direction" (defArgs s_is_direction) (defBody s_is_direction) (defScope s_is_direction) .none kV3 dc3 pm3 an3 cd3 ct3), sl3⟩) (c3 : PySem.W.codeIn K cd3 "is_direction" = true) (k3 : PySem.W.keepIn K (.ref f3) = true)
    (a4 : PySem.W.nsIn K mainGlobals "cross" = some (some (.ref f4))) (l4 : K.lookup f4 = some ⟨oc4, od4, .func (PySem.W.fnOf "cross" "cross" (defArgs s_cross) (defBody s_cross) (defScope s_cross) .none kV4 dc4 pm4 an4 cd4 ct4), sl4⟩) (c4 : PySem.W.codeIn K cd4 "cross" = true) (k4 : PySem.W.keepIn K (.ref f4) = true)
    (a5 : PySem.W.nsIn K mainGlobals "turned_half" = some (some (.ref f5))) (l5 : K.lookup f5 = some ⟨oc5, od5, .func (PySem.W.fnOf "turned_half" "turned_half" (defArgs s_turned_half) (defBody s_turned_half) (defScope s_turned_half) .none kV5 dc5 pm5 an5 cd5 ct5), sl5⟩) (c5 : PySem.W.codeIn K cd5 "turned_half" = true) (k5 : PySem.W.keepIn K (.ref f5) = true)
    (a6 : PySem.W.nsIn K mainGlobals "reduced" = some (some (.ref f6))) (l6 : K.lookup f6 = some ⟨oc6, od6, .func (PySem.W.fnOf "reduced" "reduced" (defArgs s_reduced) (defBody s_reduced) (defScope s_reduced) .none kV6 dc6 pm6 an6 cd6 ct6), sl6⟩) (c6 : PySem.W.codeIn K cd6 "reduced" = true) (k6 : PySem.W.keepIn K (.ref f6) = true)
    (a7 : PySem.W.nsIn K mainGlobals "in_second_half" = some (some (.ref f7))) (l7 : K.lookup f7 = some ⟨oc7, od7, .func (PySem.W.fnOf "in_second_half" "in_second_half" (defArgs s_in_second_half) (defBody s_in_second_half) (defScope s_in_second_half) .none kV7 dc7 pm7 an7 cd7 ct7), sl7⟩) (c7 : PySem.W.codeIn K cd7 "in_second_half" = true) (k7 : PySem.W.keepIn K (.ref f7) = true)
    (a8 : PySem.W.nsIn K mainGlobals "stands_ahead" = some (some (.ref f8))) (l8 : K.lookup f8 = some ⟨oc8, od8, .func (PySem.W.fnOf "stands_ahead" "stands_ahead" (defArgs s_stands_ahead) (defBody s_stands_ahead) (defScope s_stands_ahead) .none kV8 dc8 pm8 an8 cd8 ct8), sl8⟩) (c8 : PySem.W.codeIn K cd8 "stands_ahead" = true) (k8 : PySem.W.keepIn K (.ref f8) = true)
    (a9 : PySem.W.nsIn K mainGlobals "place_in_round" = some (some (.ref f9))) (l9 : K.lookup f9 = some ⟨oc9, od9, .func (PySem.W.fnOf "place_in_round" "place_in_round" (defArgs s_place_in_round) (defBody s_place_in_round) (defScope s_place_in_round) .none kV9 dc9 pm9 an9 cd9 ct9), sl9⟩) (c9 : PySem.W.codeIn K cd9 "place_in_round" = true) (k9 : PySem.W.keepIn K (.ref f9) = true)
    (a10 : PySem.W.nsIn K mainGlobals "in_round" = some (some (.ref f10))) (l10 : K.lookup f10 = some ⟨oc10, od10, .func (PySem.W.fnOf "in_round" "in_round" (defArgs s_in_round) (defBody s_in_round) (defScope s_in_round) .none kV10 dc10 pm10 an10 cd10 ct10), sl10⟩) (c10 : PySem.W.codeIn K cd10 "in_round" = true) (k10 : PySem.W.keepIn K (.ref f10) = true)
    (a11 : PySem.W.nsIn K mainGlobals "next_in_round" = some (some (.ref f11))) (l11 : K.lookup f11 = some ⟨oc11, od11, .func (PySem.W.fnOf "next_in_round" "next_in_round" (defArgs s_next_in_round) (defBody s_next_in_round) (defScope s_next_in_round) .none kV11 dc11 pm11 an11 cd11 ct11), sl11⟩) (c11 : PySem.W.codeIn K cd11 "next_in_round" = true) (k11 : PySem.W.keepIn K (.ref f11) = true)
    (a12 : PySem.W.nsIn K mainGlobals "_law_box" = some (some (.ref f12))) (l12 : K.lookup f12 = some ⟨oc12, od12, .func (PySem.W.fnOf "_law_box" "_law_box" (defArgs s__law_box) (defBody s__law_box) (defScope s__law_box) .none kV12 dc12 pm12 an12 cd12 ct12), sl12⟩) (c12 : PySem.W.codeIn K cd12 "_law_box" = true) (k12 : PySem.W.keepIn K (.ref f12) = true)
    (a13 : PySem.W.nsIn K mainGlobals "_law_take" = some (some (.ref f13))) (l13 : K.lookup f13 = some ⟨oc13, od13, .func (PySem.W.fnOf "_law_take" "_law_take" (defArgs s__law_take) (defBody s__law_take) (defScope s__law_take) .none kV13 dc13 pm13 an13 cd13 ct13), sl13⟩) (c13 : PySem.W.codeIn K cd13 "_law_take" = true) (k13 : PySem.W.keepIn K (.ref f13) = true)
    (a14 : PySem.W.nsIn K mainGlobals "_law_pick" = some (some (.ref f14))) (l14 : K.lookup f14 = some ⟨oc14, od14, .func (PySem.W.fnOf "_law_pick" "_law_pick" (defArgs s__law_pick) (defBody s__law_pick) (defScope s__law_pick) .none kV14 dc14 pm14 an14 cd14 ct14), sl14⟩) (c14 : PySem.W.codeIn K cd14 "_law_pick" = true) (k14 : PySem.W.keepIn K (.ref f14) = true)
    (a15 : PySem.W.nsIn K mainGlobals "_law_same" = some (some (.ref f15))) (l15 : K.lookup f15 = some ⟨oc15, od15, .func (PySem.W.fnOf "_law_same" "_law_same" (defArgs s__law_same) (defBody s__law_same) (defScope s__law_same) .none kV15 dc15 pm15 an15 cd15 ct15), sl15⟩) (c15 : PySem.W.codeIn K cd15 "_law_same" = true) (k15 : PySem.W.keepIn K (.ref f15) = true)
    (a16 : PySem.W.nsIn K mainGlobals "_law_fields" = some (some (.ref f16))) (l16 : K.lookup f16 = some ⟨oc16, od16, .func (PySem.W.fnOf "_law_fields" "_law_fields" (defArgs s__law_fields) (defBody s__law_fields) (defScope s__law_fields) .none kV16 dc16 pm16 an16 cd16 ct16), sl16⟩) (c16 : PySem.W.codeIn K cd16 "_law_fields" = true) (k16 : PySem.W.keepIn K (.ref f16) = true)
    (a17 : PySem.W.nsIn K mainGlobals "_law_got" = some (some (.ref f17))) (l17 : K.lookup f17 = some ⟨oc17, od17, .func (PySem.W.fnOf "_law_got" "_law_got" (defArgs s__law_got) (defBody s__law_got) (defScope s__law_got) .none kV17 dc17 pm17 an17 cd17 ct17), sl17⟩) (c17 : PySem.W.codeIn K cd17 "_law_got" = true) (k17 : PySem.W.keepIn K (.ref f17) = true)
    (a18 : PySem.W.nsIn K mainGlobals "_law_odd" = some (some (.ref f18))) (l18 : K.lookup f18 = some ⟨oc18, od18, .func (PySem.W.fnOf "_law_odd" "_law_odd" (defArgs s__law_odd) (defBody s__law_odd) (defScope s__law_odd) .none kV18 dc18 pm18 an18 cd18 ct18), sl18⟩) (c18 : PySem.W.codeIn K cd18 "_law_odd" = true) (k18 : PySem.W.keepIn K (.ref f18) = true)
    (a19 : PySem.W.nsIn K mainGlobals "_law_gcd" = some (some (.ref f19))) (l19 : K.lookup f19 = some ⟨oc19, od19, .func (PySem.W.fnOf "_law_gcd" "_law_gcd" (defArgs s__law_gcd) (defBody s__law_gcd) (defScope s__law_gcd) .none kV19 dc19 pm19 an19 cd19 ct19), sl19⟩) (c19 : PySem.W.codeIn K cd19 "_law_gcd" = true) (k19 : PySem.W.keepIn K (.ref f19) = true)
    (a20 : PySem.W.nsIn K mainGlobals "_law_dir" = some (some (.ref f20))) (l20 : K.lookup f20 = some ⟨oc20, od20, .func (PySem.W.fnOf "_law_dir" "_law_dir" (defArgs s__law_dir) (defBody s__law_dir) (defScope s__law_dir) .none kV20 dc20 pm20 an20 cd20 ct20), sl20⟩) (c20 : PySem.W.codeIn K cd20 "_law_dir" = true) (k20 : PySem.W.keepIn K (.ref f20) = true)
    (a21 : PySem.W.nsIn K mainGlobals "_law_cross" = some (some (.ref f21))) (l21 : K.lookup f21 = some ⟨oc21, od21, .func (PySem.W.fnOf "_law_cross" "_law_cross" (defArgs s__law_cross) (defBody s__law_cross) (defScope s__law_cross) .none kV21 dc21 pm21 an21 cd21 ct21), sl21⟩) (c21 : PySem.W.codeIn K cd21 "_law_cross" = true) (k21 : PySem.W.keepIn K (.ref f21) = true)
    (a22 : PySem.W.nsIn K mainGlobals "_law_is_whole" = some (some (.ref f22))) (l22 : K.lookup f22 = some ⟨oc22, od22, .func (PySem.W.fnOf "_law_is_whole" "_law_is_whole" (defArgs s__law_is_whole) (defBody s__law_is_whole) (defScope s__law_is_whole) .none kV22 dc22 pm22 an22 cd22 ct22), sl22⟩) (c22 : PySem.W.codeIn K cd22 "_law_is_whole" = true) (k22 : PySem.W.keepIn K (.ref f22) = true)
    (a23 : PySem.W.nsIn K mainGlobals "_law_is_dir" = some (some (.ref f23))) (l23 : K.lookup f23 = some ⟨oc23, od23, .func (PySem.W.fnOf "_law_is_dir" "_law_is_dir" (defArgs s__law_is_dir) (defBody s__law_is_dir) (defScope s__law_is_dir) .none kV23 dc23 pm23 an23 cd23 ct23), sl23⟩) (c23 : PySem.W.codeIn K cd23 "_law_is_dir" = true) (k23 : PySem.W.keepIn K (.ref f23) = true)
    (a24 : PySem.W.nsIn K mainGlobals "_law_ahead" = some (some (.ref f24))) (l24 : K.lookup f24 = some ⟨oc24, od24, .func (PySem.W.fnOf "_law_ahead" "_law_ahead" (defArgs s__law_ahead) (defBody s__law_ahead) (defScope s__law_ahead) .none kV24 dc24 pm24 an24 cd24 ct24), sl24⟩) (c24 : PySem.W.codeIn K cd24 "_law_ahead" = true) (k24 : PySem.W.keepIn K (.ref f24) = true)
    (a25 : PySem.W.nsIn K mainGlobals "_law_round" = some (some (.ref f25))) (l25 : K.lookup f25 = some ⟨oc25, od25, .func (PySem.W.fnOf "_law_round" "_law_round" (defArgs s__law_round) (defBody s__law_round) (defScope s__law_round) .none kV25 dc25 pm25 an25 cd25 ct25), sl25⟩) (c25 : PySem.W.codeIn K cd25 "_law_round" = true) (k25 : PySem.W.keepIn K (.ref f25) = true)
    (a26 : PySem.W.nsIn K mainGlobals "_law_reduced_due" = some (some (.ref f26))) (l26 : K.lookup f26 = some ⟨oc26, od26, .func (PySem.W.fnOf "_law_reduced_due" "_law_reduced_due" (defArgs s__law_reduced_due) (defBody s__law_reduced_due) (defScope s__law_reduced_due) .none kV26 dc26 pm26 an26 cd26 ct26), sl26⟩) (c26 : PySem.W.codeIn K cd26 "_law_reduced_due" = true) (k26 : PySem.W.keepIn K (.ref f26) = true)
    (a27 : PySem.W.nsIn K mainGlobals "_law_pair" = some (some (.ref f27))) (l27 : K.lookup f27 = some ⟨oc27, od27, .func (PySem.W.fnOf "_law_pair" "_law_pair" (defArgs s__law_pair) (defBody s__law_pair) (defScope s__law_pair) .none kV27 dc27 pm27 an27 cd27 ct27), sl27⟩) (c27 : PySem.W.codeIn K cd27 "_law_pair" = true) (k27 : PySem.W.keepIn K (.ref f27) = true)
    (z_isinstance : PySem.W.nsIn K mainGlobals "isinstance" = some none)
    (z_int : PySem.W.nsIn K mainGlobals "int" = some none)
    (z_bool : PySem.W.nsIn K mainGlobals "bool" = some none)
    (z_str : PySem.W.nsIn K mainGlobals "str" = some none)
    (z_tuple : PySem.W.nsIn K mainGlobals "tuple" = some none)
    (z_list : PySem.W.nsIn K mainGlobals "list" = some none)
    (z_dict : PySem.W.nsIn K mainGlobals "dict" = some none)
    (z_len : PySem.W.nsIn K mainGlobals "len" = some none)
    (z_abs : PySem.W.nsIn K mainGlobals "abs" = some none)
    (z_all : PySem.W.nsIn K mainGlobals "all" = some none)
    (z_range : PySem.W.nsIn K mainGlobals "range" = some none)
    (z_gcd : PySem.W.nsIn K mainGlobals "gcd" = some (some (.builtin "math.gcd")))
    (z_DIRECTION_BOUND : PySem.W.nsIn K mainGlobals "DIRECTION_BOUND" = some (some (.int 999 t_DIRECTION_BOUND)))
    (eA : PySem.W.nsIn K mainGlobals "InvalidDirection" = some (some (.ref C)))
    (eL : K.lookup C = some (excClassObj nm q C N bs bm true sn sub ab col dd j0 j1 j2 j3 j5 "ValueError.__new__"))
    (eR : PySem.HandSPX.refsVE bm = true)
    (eS : PySem.W.findIn K (.ref C) "__setattr__" = some (some (.builtin "object.__setattr__")))
    (eX : PySem.W.subIn K (.ref C) (.type "BaseException") = some true)
    (eT : PySem.W.typeIn K (.ref C) = some (.type "type"))
    (eK : PySem.W.keepIn K (.ref C) = true)
    (eG : PySem.W.findIn K (.ref C) "__getattribute__" = some (some (.builtin "BaseException.__getattribute__")))
    (eH : PySem.W.findIn K (.ref C) "__getattr__" = some none)
    (eD : PySem.W.hasDictIn K C = true)
    (eV : PySem.W.findIn K (.ref C) "value" = some none)
    (eC : PySem.W.findIn K (.ref C) "code" = some none)
    (eI : PySem.W.findIn K (.ref C) "__init__" = some (some (.ref fI)))
    (eLI : K.lookup fI = some ⟨ocI, odI, .func (PySem.W.fnOf "__init__" "InvalidDirection.__init__" (defArgs s_InvalidDirection) (defBody s_InvalidDirection) (defScope s_InvalidDirection) .none kVI dcI pmI anI cdI ctI), slI⟩)
    (eCI : PySem.W.codeIn K cdI "InvalidDirection.__init__" = true)
    (eKI : PySem.W.keepIn K (.ref fI) = true)
    (eTI : PySem.W.typeIn K (.ref fI) = some (.type "function"))
    (xL : PySem.W.nsIn K mainGlobals "LotError" = some (some (.ref CL)))
    (xM : PySem.W.nsIn K mainGlobals "Missing" = some (some (.ref CM)))
    (xX : PySem.W.exmAny K (.ref C) [.ref CL, .ref CM] = some true) : Top K mg C CL CM :=
  ⟨⟨PySem.W.mg_none_of X G z_isinstance, PySem.W.mg_none_of X G z_int, PySem.W.mg_none_of X G z_bool, PySem.W.mg_none_of X G z_str, PySem.W.mg_none_of X G z_tuple, PySem.W.mg_none_of X G z_list, PySem.W.mg_none_of X G z_dict, PySem.W.mg_none_of X G z_len, PySem.W.mg_none_of X G z_abs, PySem.W.mg_none_of X G z_all, PySem.W.mg_none_of X G z_range, PySem.W.mg_of X G z_gcd, gi_mk X G z_DIRECTION_BOUND⟩, er_mk X G eA eL eR eS eX eT eK eG eH eD eV eC eI eLI eCI eKI eTI, PySem.W.mg_of X G xL, PySem.W.mg_of X G xM, xX, df_mk X G a0 l0 c0 k0, df_mk X G a1 l1 c1 k1, df_mk X G a2 l2 c2 k2, df_mk X G a3 l3 c3 k3, df_mk X G a4 l4 c4 k4, df_mk X G a5 l5 c5 k5, df_mk X G a6 l6 c6 k6, df_mk X G a7 l7 c7 k7, df_mk X G a8 l8 c8 k8, df_mk X G a9 l9 c9 k9, df_mk X G a10 l10 c10 k10, df_mk X G a11 l11 c11 k11, df_mk X G a12 l12 c12 k12, df_mk X G a13 l13 c13 k13, df_mk X G a14 l14 c14 k14, df_mk X G a15 l15 c15 k15, df_mk X G a16 l16 c16 k16, df_mk X G a17 l17 c17 k17, df_mk X G a18 l18 c18 k18, df_mk X G a19 l19 c19 k19, df_mk X G a20 l20 c20 k20, df_mk X G a21 l21 c21 k21, df_mk X G a22 l22 c22 k22, df_mk X G a23 l23 c23 k23, df_mk X G a24 l24 c24 k24, df_mk X G a25 l25 c25 k25, df_mk X G a26 l26 c26 k26, df_mk X G a27 l27 c27 k27⟩
theorem all_law {P : Program} {w : World} {K : PySem.W.Frag} {mg : Str → Option Value} {base : Heap} {fa c Pt C CL CM : Addr} {oc dV kV doc pm ct : Value} {od an : Option Addr} {osl : Array (Option Value)} (T : Top K mg C CL CM) (TB : LamX.TabB base mg c Pt)
    (lk : K.lookup fa = some ⟨oc, od, .func (PySem.W.fnOf "law" "law" (defArgs s_law) (defBody s_law) (defScope s_law) dV kV doc pm an (.ref c) ct), osl⟩) (hcd : PySem.W.codeIn K (.ref c) "law" = true) :
    FnOk P w K mg base CX0 8 fa (PySem.W.fnOf "law" "law" (defArgs s_law) (defBody s_law) (defScope s_law) dV kV doc pm an (.ref c) ct) ["_law_script"] (spLaw K Pt) := by
  have G := T.gn
  have rz : ∀ n, RzD P w K mg base (n + 1) C := fun n => ok_InvalidDirection T.er
  have c_any : ∀ n, ClB P w K mg base (n + 1) "is_any_number" s_is_any_number "value" isNum := fun n => ok_is_any_number G T.d_is_any_number
  have c_np : ∀ n, ClB P w K mg base (n + 2) "is_number_pair" s_is_number_pair "value" isNumPair := fun n => ok_is_number_pair G T.d_is_number_pair (c_any n)
  have c_bd : ∀ n, ClN P w K mg base (n + 3) := fun n => ok_is_bounded_pair G T.d_is_bounded_pair (c_np n)
  have c_dr : ∀ n, ClB P w K mg base (n + 4) "is_direction" s_is_direction "value" isDir := fun n => ok_is_direction G T.d_is_direction (c_bd n)
  have c_cr : ∀ n, ClCr P w K mg base (n + 1) := fun n => ok_cross T.d_cross
  have c_th : ∀ n, Cl P w K mg base (n + 1) "turned_half" s_turned_half ["direction"] (SpD K (p1 Pa2) fun ds r => r = f1 halfF ds) := fun n => ok_turned_half T.d_turned_half
  have c_sh : ∀ n, ClSh P w K mg base (n + 1) := fun n => ok_in_second_half T.d_in_second_half
  have c_sa : ∀ n, ClSa P w K mg base (n + 2) := fun n => ok_stands_ahead T.d_stands_ahead (c_sh n) (c_cr n)
  have c_pl : ∀ n, ClPl P w K mg base (n + 3) := fun n => ok_place_in_round G T.d_place_in_round (c_sa n)
  have c_ir : ∀ n, ClRnd P w K mg base (n + 4) := fun n => ok_in_round G T.d_in_round (c_pl n)
  have c_irT : ∀ n, ClRndT P w K mg base (n + 4) := fun n => ok_in_roundT G T.d_in_round (c_pl n)
  have c_red : ∀ n, ClRed P w K mg base (n + 5) C := fun n => ok_reduced G T.d_reduced (c_np (n + 2)) (c_dr n) (n + 3) rfl (rz (n + 2))
  have c_nx : ∀ n, ClNx P w K mg base (n + 5) C := fun n => ok_next_in_round G T.d_next_in_round (c_dr n) ((c_ir n).frz rnd_frz) (c_pl (n + 1)) (n + 3) rfl (rz (n + 2))
  have c_nxT : ∀ n, ClNxT P w K mg base (n + 5) C := fun n => ok_next_in_roundT G T.d_next_in_round (c_dr n) ((c_irT n).frz rnd_frzT) (c_pl (n + 1)) (n + 3) rfl (rz (n + 2))
  have c_wh : ∀ n, ClB P w K mg base (n + 1) "_law_is_whole" s__law_is_whole "_law_x" isNum := fun n => ok__law_is_whole G T.d__law_is_whole
  have c_gc : ∀ n, ClG P w K mg base (n + 1) := fun n => ok__law_gcd G T.d__law_gcd
  have c_id : ∀ n, ClB P w K mg base (n + 2) "_law_is_dir" s__law_is_dir "_law_x" isDir := fun n => ok__law_is_dir G T.d__law_is_dir (c_wh n) (c_gc n)
  have c_tk : ∀ n, ClT P w K mg base (n + 1) := fun n => ok__law_take G T.d__law_take
  have c_pk : ∀ n, ClP P w K mg base (n + 2) := fun n => ok__law_pick G T.d__law_pick (c_tk n)
  have c_od : ∀ n, ClOv P w K mg base (n + 3) := fun n => ok__law_odd2 G T.d__law_odd (c_pk n)
  have c_di : ∀ n, ClDir P w K mg base (n + 3) := fun n => ok__law_dir G T.d__law_dir (c_tk (n + 1)) (c_pk n) (c_gc (n + 1))
  have c_pr : ∀ n, ClPr P w K mg base (n + 4) := fun n => ok__law_pair G T.d__law_pair (c_tk (n + 2)) (c_pk (n + 1)) (c_di n)
  have c_lc : ∀ n, ClLc P w K mg base (n + 1) := fun n => ok__law_cross T.d__law_cross
  have c_ah : ∀ n, ClLa P w K mg base (n + 2) := fun n => ok__law_ahead T.d__law_ahead (c_lc n)
  have c_rd : ∀ n, ClRd P w K mg base (n + 3) := fun n => ok__law_reduced_due G T.d__law_reduced_due (c_wh (n + 1)) (c_gc (n + 1)) (c_id n)
  have c_lr : ∀ n, ClLr P w K mg base (n + 3) := fun n => ok__law_round G T.d__law_round (c_ah n)
  have c_bx : Cl P w K mg base 7 "_law_box" s__law_box ["_law_script", "_law_own"] (spBox K) := by
    obtain ⟨f, fd, F, hm⟩ := T.d__law_box.ex
    exact ⟨f, fd, F, ok__law_box (k := 6) G F, hm, F.binds fun _ _ _ _ _ _ us hl => match us, hl with | [_, _], _ => rfl⟩
  refine ok_law (m := 5) (C := C) (CL := CL) (CM := CM) ⟨G, T.d__law_got, T.mL, T.mM, ⟨T.er.xf, T.er.n _ (by decide), T.er.n _ (by decide), T.mx⟩, TB, ok__law_fields (k := 5) T.d__law_fields, ok__law_same (k := 2) G T.d__law_same 4, c_tk 6, c_pk 5, c_od 4, c_di 4, c_pr 3, c_id 5, c_ah 5, c_rd 4, c_lr 4, c_ir 3,
    ck_of ((c_irT 3).frz rnd_frzT) (fun ws => ws) (fun _ _ _ _ _ _ ws hl => match ws, hl with | [_], _ => rfl) fun r => r,
    c_nx 0, ckx_of (c_nxT 0) (fun ws => ws.reverse) (fun _ _ _ _ _ _ ws hl => match ws, hl with | [_, _], _ => rfl) fun r => r.reverse,
    c_red 0, ckx_of (c_red 0) (fun ws => ws) (fun _ _ _ _ _ _ ws hl => match ws, hl with | [_], _ => rfl) fun r => r,
    c_cr 6, ck_of (c_cr 6) (fun ws => ws.reverse) (fun _ _ _ _ _ _ ws hl => match ws, hl with | [_, _], _ => rfl) fun r => r.reverse,
    c_th 6, ck_of (c_th 6) (fun ws => ws) (fun _ _ _ _ _ _ ws hl => match ws, hl with | [_], _ => rfl) fun r => r⟩ c_bx lk hcd
theorem all_mk {l : PySem.W.OpenLaw} {w : World} {K : PySem.W.Frag} {h : Heap} {mg : Str → Option Value} {fa f1 c Pt C CL CM : Addr} (X : K.In h) (G : h.Ns mainGlobals mg) (hfa : mg "law" = some (.ref fa)) (tabs : ∀ P ∈ [Pt], h.get? P = some { cls := .none, data := .fields #[] }) (T : Top K mg C CL CM)
    {od1 an1 : Option Addr} {sl1 : Array (Option Value)} {oc1 kV1 dc1 pm1 ct1 : Value}
    (a1 : PySem.W.nsIn K mainGlobals "law" = some (some (.ref f1))) (l1 : K.lookup f1 = some ⟨oc1, od1, .func (PySem.W.fnOf "law" "law" (defArgs s_law) (defBody s_law) (defScope s_law) .none kV1 dc1 pm1 an1 (.ref c) ct1), sl1⟩) (c1 : PySem.W.codeIn K (.ref c) "law" = true)
    (t1 : PySem.W.codeHdIn K c Pt = true) (n1 : K.lookup Pt = none) :
    LamX.LawAtS l w K L2.CX0 8 63 "_law_script" mg fa h := by
  have e := hfa.symm.trans (PySem.W.mg_of X G a1)
  cases e
  refine ⟨PySem.W.fnOf "law" "law" (defArgs s_law) (defBody s_law) (defScope s_law) .none kV1 dc1 pm1 an1 (.ref c) ct1, [(c, Pt)], spLaw K Pt, fun p hp => ?_, fun p hp => ?_, fun p hp => ?_, fun s v => .of_eq rfl, fun H a ns hl _ hT hS => ⟨a, ns, rfl, hS, hl, hT (c, Pt) (List.mem_singleton.mpr rfl), fun _ => rfl⟩, fun base _ _ TB => all_law T (TB (c, Pt) (List.mem_singleton.mpr rfl)) l1 c1⟩
  · rw [List.mem_singleton.mp hp]; exact tabs Pt (List.mem_singleton.mpr rfl)
  · rw [List.mem_singleton.mp hp]; exact n1
  · rw [List.mem_singleton.mp hp]; exact PySem.W.codeHd_of_K X t1
end K02
open PySem PySem.W PyProof.Rows
set_option maxRecDepth 100000 in
set_option maxHeartbeats 0 in
theorem PySem.Challenge.cw_stucklots_k02_rounds_told_holds : PySem.Challenge.rw_stucklots_k02_rounds_told.Holds := by
  w_on; o_law; k_head; (case hw => w_witness2)
  k_fill
  refine LamX.walk_ofTs (l := PySem.Challenge.rw_stucklots_k02_rounds_told) (n := 63) (k := 8) (x := "_law_script") (CX := fun _ => L2.CX0) rfl (by decide) rfl ⟨rfl, by decide, by decide⟩ (fun w h Y => PySem.W.km_in_of Y) ?F (fun _ _ _ _ _ h => h)
  case F =>
    intro w mg fa h Y KX G hmg
    have tabs := PySem.W.km_tabs_of Y
    refine' K02.all_mk KX G hmg tabs (K02.top_mk KX G ?a0 ?l0 ?c0 ?k0 ?a1 ?l1 ?c1 ?k1 ?a2 ?l2 ?c2 ?k2 ?a3 ?l3 ?c3 ?k3 ?a4 ?l4 ?c4 ?k4 ?a5 ?l5 ?c5 ?k5 ?a6 ?l6 ?c6 ?k6 ?a7 ?l7 ?c7 ?k7 ?a8 ?l8 ?c8 ?k8 ?a9 ?l9 ?c9 ?k9 ?a10 ?l10 ?c10 ?k10 ?a11 ?l11 ?c11 ?k11 ?a12 ?l12 ?c12 ?k12 ?a13 ?l13 ?c13 ?k13 ?a14 ?l14 ?c14 ?k14 ?a15 ?l15 ?c15 ?k15 ?a16 ?l16 ?c16 ?k16 ?a17 ?l17 ?c17 ?k17 ?a18 ?l18 ?c18 ?k18 ?a19 ?l19 ?c19 ?k19 ?a20 ?l20 ?c20 ?k20 ?a21 ?l21 ?c21 ?k21 ?a22 ?l22 ?c22 ?k22 ?a23 ?l23 ?c23 ?k23 ?a24 ?l24 ?c24 ?k24 ?a25 ?l25 ?c25 ?k25 ?a26 ?l26 ?c26 ?k26 ?a27 ?l27 ?c27 ?k27 ?z_isinstance ?z_int ?z_bool ?z_str ?z_tuple ?z_list ?z_dict ?z_len ?z_abs ?z_all ?z_range ?z_gcd ?z_DIRECTION_BOUND ?eA ?eL ?eR ?eS ?eX ?eT ?eK ?eG ?eH ?eD ?eV ?eC ?eI ?eLI ?eCI ?eKI ?eTI ?xL ?xM ?xX) ?la ?ll ?lc ?lt ?ln
    (case a0 => k_is)
    (case l0 => k_is)
    (case c0 => k_is)
    (case k0 => k_is)
    (case a1 => k_is)
    (case l1 => k_is)
    (case c1 => k_is)
    (case k1 => k_is)
    (case a2 => k_is)
    (case l2 => k_is)
    (case c2 => k_is)
    (case k2 => k_is)
    (case a3 => k_is)
    (case l3 => k_is)
    (case c3 => k_is)
    (case k3 => k_is)
    (case a4 => k_is)
    (case l4 => k_is)
    (case c4 => k_is)
    (case k4 => k_is)
    (case a5 => k_is)
    (case l5 => k_is)
    (case c5 => k_is)
    (case k5 => k_is)
    (case a6 => k_is)
    (case l6 => k_is)
    (case c6 => k_is)
    (case k6 => k_is)
    (case a7 => k_is)
    (case l7 => k_is)
    (case c7 => k_is)
    (case k7 => k_is)
    (case a8 => k_is)
    (case l8 => k_is)
    (case c8 => k_is)
    (case k8 => k_is)
    (case a9 => k_is)
    (case l9 => k_is)
    (case c9 => k_is)
    (case k9 => k_is)
    (case a10 => k_is)
    (case l10 => k_is)
    (case c10 => k_is)
    (case k10 => k_is)
    (case a11 => k_is)
    (case l11 => k_is)
    (case c11 => k_is)
    (case k11 => k_is)
    (case a12 => k_is)
    (case l12 => k_is)
    (case c12 => k_is)
    (case k12 => k_is)
    (case a13 => k_is)
    (case l13 => k_is)
    (case c13 => k_is)
    (case k13 => k_is)
    (case a14 => k_is)
    (case l14 => k_is)
    (case c14 => k_is)
    (case k14 => k_is)
    (case a15 => k_is)
    (case l15 => k_is)
    (case c15 => k_is)
    (case k15 => k_is)
    (case a16 => k_is)
    (case l16 => k_is)
    (case c16 => k_is)
    (case k16 => k_is)
    (case a17 => k_is)
    (case l17 => k_is)
    (case c17 => k_is)
    (case k17 => k_is)
    (case a18 => k_is)
    (case l18 => k_is)
    (case c18 => k_is)
    (case k18 => k_is)
    (case a19 => k_is)
    (case l19 => k_is)
    (case c19 => k_is)
    (case k19 => k_is)
    (case a20 => k_is)
    (case l20 => k_is)
    (case c20 => k_is)
    (case k20 => k_is)
    (case a21 => k_is)
    (case l21 => k_is)
    (case c21 => k_is)
    (case k21 => k_is)
    (case a22 => k_is)
    (case l22 => k_is)
    (case c22 => k_is)
    (case k22 => k_is)
    (case a23 => k_is)
    (case l23 => k_is)
    (case c23 => k_is)
    (case k23 => k_is)
    (case a24 => k_is)
    (case l24 => k_is)
    (case c24 => k_is)
    (case k24 => k_is)
    (case a25 => k_is)
    (case l25 => k_is)
    (case c25 => k_is)
    (case k25 => k_is)
    (case a26 => k_is)
    (case l26 => k_is)
    (case c26 => k_is)
    (case k26 => k_is)
    (case a27 => k_is)
    (case l27 => k_is)
    (case c27 => k_is)
    (case k27 => k_is)
    (case z_isinstance => k_is)
    (case z_int => k_is)
    (case z_bool => k_is)
    (case z_str => k_is)
    (case z_tuple => k_is)
    (case z_list => k_is)
    (case z_dict => k_is)
    (case z_len => k_is)
    (case z_abs => k_is)
    (case z_all => k_is)
    (case z_range => k_is)
    (case z_gcd => k_is)
    (case z_DIRECTION_BOUND => k_is)
    (case eA => k_is)
    (case eL => k_is)
    (case eR => kernel_rfl)
    (case eS => k_is)
    (case eX => k_is)
    (case eT => k_is)
    (case eK => k_is)
    (case eG => k_is)
    (case eH => k_is)
    (case eD => k_is)
    (case eV => k_is)
    (case eC => k_is)
    (case eI => k_is)
    (case eLI => k_is)
    (case eCI => k_is)
    (case eKI => k_is)
    (case eTI => k_is)
    (case xL => k_is)
    (case xM => k_is)
    (case xX => kernel_rfl)
    (case la => k_is)
    (case ll => k_is)
    (case lc => k_is)
    (case lt => kernel_rfl)
    (case ln => kernel_rfl)
