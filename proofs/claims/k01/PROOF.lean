import PyProof.Rows.All
import Wide.All
import OpenK.AllK
import Wide.FinOn
import HandS.ForMost
import HandS.IsInst
import HandS.Gcd
import HandS.StrMore
import HandS.TupAny
import HandS.Defaults
import HandS.Style
import HandS.More
import PyProof.ListStr
import PyProof.FitsReplace
import KE.IntTextLaws
import PySem.Challenge.RW_stucklots_k01_words_judged
set_option Elab.async false
set_option linter.all false
set_option maxRecDepth 100000
set_option maxHeartbeats 8000000
/-! A layer of plain data over HandS: what a value stands for (Dd), a heap of two parts (what is frozen: G; all: H), the box of draws at B, and a calculus of readings by data alone (WE, WT, WA, WS). -/
namespace Dl
open PySem L2
inductive D where
  | non | bl (b : Bool) | int (i : Int) | str (z : Str) | tup (xs : List D) | lst (xs : List D) | dic (ks : List Key) (xs : List D) | cls (n : String) | box
mutual
inductive Dd (K : PySem.W.Frag) (B : Addr) (G : Hp) : V → D → Prop
  | non : Dd K B G .non .non
  | bl (b : Bool) : Dd K B G (.bl b) (.bl b)
  | int (i : Int) : Dd K B G (.int i) (.int i)
  | str (z : Str) : Dd K B G (.str z) (.str z)
  | tup {a : Addr} {vs : List V} {ds : List D} : G a = some (.tup vs) → Dds K B G vs ds → Dd K B G (.ref a) (.tup ds)
  | lst {a : Addr} {vs : List V} {ds : List D} : G a = some (.lst vs) → Dds K B G vs ds → Dd K B G (.ref a) (.lst ds)
  | dic {a : Addr} {kvs : List (Key × V)} {ds : List D} : G a = some (.dK kvs) → Dds K B G (kvs.map (·.2)) ds → Dd K B G (.ref a) (.dic (kvs.map (·.1)) ds)
  | cls (n : String) : Dd K B G (.ty n) (.cls n)
  | box : Dd K B G (.ref B) .box
inductive Dds (K : PySem.W.Frag) (B : Addr) (G : Hp) : List V → List D → Prop
  | nil : Dds K B G [] []
  | cons {v : V} {vs : List V} {d : D} {ds : List D} : Dd K B G v d → Dds K B G vs ds → Dds K B G (v :: vs) (d :: ds)
end
section
variable {K : PySem.W.Frag} {B : Addr} {G G1 G2 H H1 H2 : Hp}
mutual
theorem Dd.mono (s : Same G G1) : ∀ {v : V} {d : D}, Dd K B G v d → Dd K B G1 v d
  | _, _, .non => .non
  | _, _, .bl b => .bl b
  | _, _, .int i => .int i
  | _, _, .str z => .str z
  | _, _, .tup h t => .tup (s _ _ h) (Dds.mono s t)
  | _, _, .lst h t => .lst (s _ _ h) (Dds.mono s t)
  | _, _, .dic h t => .dic (s _ _ h) (Dds.mono s t)
  | _, _, .cls n => .cls n
  | _, _, .box => .box
theorem Dds.mono (s : Same G G1) : ∀ {vs : List V} {ds : List D}, Dds K B G vs ds → Dds K B G1 vs ds
  | _, _, .nil => .nil
  | _, _, .cons h t => .cons (Dd.mono s h) (Dds.mono s t)
end
theorem Dds.length : ∀ {vs : List V} {ds : List D}, Dds K B G vs ds → vs.length = ds.length
  | _, _, .nil => rfl
  | _, _, .cons _ t => by rw [List.length_cons, List.length_cons, Dds.length t]
theorem Dds.get : ∀ {vs : List V} {ds : List D} {i : Nat} {d : D}, Dds K B G vs ds → ds[i]? = some d → ∃ v, vs[i]? = some v ∧ Dd K B G v d
  | _, _, _, _, .nil, e => by simp at e
  | _, _, 0, _, .cons h _, e => by simp at e; subst e; exact ⟨_, rfl, h⟩
  | _, _, i + 1, d, .cons _ t, e => by
    obtain ⟨v, h1, h2⟩ := Dds.get (i := i) (d := d) t (by simpa using e)
    exact ⟨v, by simpa using h1, h2⟩
theorem Dds.get' : ∀ {vs : List V} {ds : List D} {i : Nat} {v : V}, Dds K B G vs ds → vs[i]? = some v → ∃ d, ds[i]? = some d ∧ Dd K B G v d
  | _, _, _, _, .nil, e => by simp at e
  | _, _, 0, _, .cons h _, e => by simp at e; subst e; exact ⟨_, rfl, h⟩
  | _, _, i + 1, v, .cons _ t, e => by
    obtain ⟨d, h1, h2⟩ := Dds.get' (i := i) (v := v) t (by simpa using e)
    exact ⟨d, by simpa using h1, h2⟩
theorem Dds.append : ∀ {vs ws : List V} {ds es : List D}, Dds K B G vs ds → Dds K B G ws es → Dds K B G (vs ++ ws) (ds ++ es)
  | _, _, _, _, .nil, q => q
  | _, _, _, _, .cons h t, q => .cons h (Dds.append t q)
theorem Dds.take : ∀ (n : Nat) {vs : List V} {ds : List D}, Dds K B G vs ds → Dds K B G (vs.take n) (ds.take n)
  | 0, _, _, _ => .nil
  | _ + 1, _, _, .nil => .nil
  | n + 1, _, _, .cons h t => .cons h (Dds.take n t)
theorem Dds.drop : ∀ (n : Nat) {vs : List V} {ds : List D}, Dds K B G vs ds → Dds K B G (vs.drop n) (ds.drop n)
  | 0, _, _, t => t
  | _ + 1, _, _, .nil => .nil
  | n + 1, _, _, .cons _ t => Dds.drop n t
theorem Dds.rev {vs : List V} {ds : List D} (h : Dds K B G vs ds) : Dds K B G vs.reverse ds.reverse := by
  induction vs generalizing ds with
  | nil => cases h; exact .nil
  | cons v vs ih =>
    cases h with
    | cons a t => rw [List.reverse_cons, List.reverse_cons]; exact (ih t).append (.cons a .nil)
theorem Dds.ints : ∀ {vs : List V} {ns : List Int}, Dds K B G vs (ns.map D.int) → vs = ns.map V.int
  | _, [], .nil => rfl
  | _, _ :: _, .cons h t => by cases h; rw [Dds.ints t]; rfl
theorem Dds.bls : ∀ {vs : List V} {ns : List Bool}, Dds K B G vs (ns.map D.bl) → vs = ns.map V.bl
  | _, [], .nil => rfl
  | _, _ :: _, .cons h t => by cases h; rw [Dds.bls t]; rfl
theorem Dds.strs : ∀ {vs : List V} {ns : List Str}, Dds K B G vs (ns.map D.str) → vs = ns.map V.str
  | _, [], .nil => rfl
  | _, _ :: _, .cons h t => by cases h; rw [Dds.strs t]; rfl
theorem Dds.repl {vs : List V} {ds : List D} (h : Dds K B G vs ds) : ∀ n : Nat, Dds K B G (List.replicate n vs).flatten (List.replicate n ds).flatten
  | 0 => .nil
  | n + 1 => by
    rw [List.replicate_succ, List.replicate_succ, List.flatten_cons, List.flatten_cons]
    exact h.append (Dds.repl h n)

/-! ### the box, the state -/
def Bx (G H : Hp) (B : Addr) : Prop := ∃ (c : Addr) (cells : List Int) (p r m n : Int), H B = some (.lst [.ref c, .int p, .int r, .int m, .int n]) ∧ G c = some (.lst (cells.map V.int)) ∧ cells.length ≤ 63 ∧ 0 ≤ p ∧ 0 ≤ r ∧ 0 ≤ m ∧ m < 2147483587 ∧ 0 ≤ n
structure Go (B : Addr) (G H G1 H1 : Hp) : Prop where
  s : Same G G1
  k : ∀ a o, a ≠ B → H a = some o → H1 a = some o
  n : ∀ a, H a ≠ none → G a = none → G1 a = none
structure Ok (B : Addr) (G H : Hp) : Prop where
  u : Same G H
  b : G B = none
  x : Bx G H B
theorem Ok.hb (o : Ok B G H) : H B ≠ none := by
  obtain ⟨_, _, _, _, _, _, e, _⟩ := o.x
  rw [e]; exact fun z => nomatch z
theorem Go.refl : Go B G H G H := ⟨Same.refl G, fun _ _ _ h => h, fun _ _ h => h⟩
theorem Go.trans (o : Ok B G1 H1) (a : Go B G H G1 H1) (b : Go B G1 H1 G2 H2) : Go B G H G2 H2 := by
  refine ⟨a.s.trans b.s, fun x u ne h => b.k x u ne (a.k x u ne h), fun x h g => ?_⟩
  refine b.n x ?_ (a.n x h g)
  by_cases e : x = B
  · rw [e]; exact o.hb
  · cases q : H x with
    | none => exact absurd q h
    | some u => rw [a.k x u e q]; exact fun z => nomatch z
theorem Ok.fresh (o : Ok B G H) {p : Addr} (h : H p = none) : G p = none := by
  cases q : G p with
  | none => rfl
  | some u => rw [o.u p u q] at h; cases h
theorem Ok.neB (o : Ok B G H) {p : Addr} (h : H p = none) : p ≠ B := fun e => o.hb (e ▸ h)
theorem same_upd {p : Addr} {o : HO} (h : H p = none) : Same H (upd H p o) := fun b x e => by
  rw [upd_ne (ne_of_none e h)]; exact e
/-- a new object, frozen -/
theorem new_go (o : Ok B G H) {p : Addr} {x : HO} (h : H p = none) : Go B G H (upd G p x) (upd H p x) := by
  refine ⟨same_upd (o.fresh h), fun a u _ e => same_upd h a u e, fun a ha hg => ?_⟩
  by_cases e : a = p
  · rw [e] at ha; exact absurd h ha
  · rw [upd_ne e]; exact hg
theorem new_ok (o : Ok B G H) {p : Addr} {x : HO} (h : H p = none) : Ok B (upd G p x) (upd H p x) := by
  have nb := o.neB h
  refine ⟨fun a u e => ?_, by rw [upd_ne nb.symm]; exact o.b, ?_⟩
  · by_cases q : a = p
    · rw [q, upd_same] at e ⊢; exact e
    · rw [upd_ne q] at e ⊢; exact o.u a u e
  · obtain ⟨c, cells, p', r, m, n, e, g, w⟩ := o.x
    exact ⟨c, cells, p', r, m, n, by rw [upd_ne nb.symm]; exact e, same_upd (o.fresh h) _ _ g, w⟩
/-- a new object, not frozen -/
theorem loose_go (o : Ok B G H) {p : Addr} {x : HO} (h : H p = none) : Go B G H G (upd H p x) := ⟨Same.refl G, fun a u _ e => same_upd h a u e, fun _ _ g => g⟩
theorem loose_ok (o : Ok B G H) {p : Addr} {x : HO} (h : H p = none) : Ok B G (upd H p x) := by
  have nb := o.neB h
  refine ⟨fun a u e => same_upd h _ _ (o.u a u e), o.b, ?_⟩
  obtain ⟨c, cells, p', r, m, n, e, g, w⟩ := o.x
  exact ⟨c, cells, p', r, m, n, by rw [upd_ne nb.symm]; exact e, g, w⟩
/-- an object that is not frozen is written -/
theorem write_ok (o : Ok B G H) {p : Addr} {x : HO} (g : G p = none) (nb : p ≠ B) : Ok B G (upd H p x) := by
  refine ⟨fun a u e => ?_, o.b, ?_⟩
  · rw [upd_ne (ne_of_none e g)]; exact o.u a u e
  obtain ⟨c, cells, p', r, m, n, e, g', w⟩ := o.x
  exact ⟨c, cells, p', r, m, n, by rw [upd_ne nb.symm]; exact e, g', w⟩
/-- .. is frozen -/
theorem freeze_ok (o : Ok B G H) {p : Addr} {x : HO} (nb : p ≠ B) (g : G p = none) (h : H p = some x) : Ok B (upd G p x) H := by
  refine ⟨fun a u e => ?_, by rw [upd_ne nb.symm]; exact o.b, ?_⟩
  · by_cases q : a = p
    · rw [q, upd_same] at e; rw [q, h]; exact e
    · rw [upd_ne q] at e; exact o.u a u e
  · obtain ⟨c, cells, p', r, m, n, e, g', w⟩ := o.x
    exact ⟨c, cells, p', r, m, n, e, same_upd g _ _ g', w⟩

inductive Sd where
  | no | val (d : D) | own (ds : List D)
structure Stt (K : PySem.W.Frag) (B : Addr) (G0 H0 G H : Hp) (σ : St) (δ : List Sd) : Prop where
  go : Go B G0 H0 G H
  ok : Ok B G H
  len : σ.length = δ.length
  val : ∀ (i : Nat) d, δ[i]? = some (.val d) → ∃ v, σ[i]? = some (some v) ∧ Dd K B G v d
  own : ∀ (i : Nat) ds, δ[i]? = some (.own ds) → ∃ a vs, σ[i]? = some (some (.ref a)) ∧ a ≠ B ∧ H0 a = none ∧ G a = none ∧ H a = some (.lst vs) ∧ Dds K B G vs ds
  apart : ∀ (i j : Nat) ds es a, δ[i]? = some (.own ds) → δ[j]? = some (.own es) → σ[i]? = some (some (.ref a)) → σ[j]? = some (some (.ref a)) → i = j
theorem Stt.on {G0 H0 : Hp} {σ : St} {δ : List Sd} (s : Stt K B G0 H0 G H σ δ) (g : Go B G H G1 H1) (o : Ok B G1 H1) : Stt K B G0 H0 G1 H1 σ δ := by
  refine ⟨s.go.trans s.ok g, o, s.len, fun i d e => ?_, fun i ds e => ?_, s.apart⟩
  · obtain ⟨v, h, q⟩ := s.val i d e
    exact ⟨v, h, q.mono g.s⟩
  · obtain ⟨a, vs, h, nb, f, ga, ha, q⟩ := s.own i ds e
    exact ⟨a, vs, h, nb, f, g.n a (by rw [ha]; exact fun z => nomatch z) ga, g.k a _ nb ha, q.mono g.s⟩
theorem Stt.setVal {G0 H0 : Hp} {σ : St} {δ : List Sd} {v : V} {d : D} (s : Stt K B G0 H0 G H σ δ) (i : Nat) (q : Dd K B G v d) : Stt K B G0 H0 G H (σ.set i (some v)) (δ.set i (.val d)) := by
  refine ⟨s.go, s.ok, by rw [List.length_set, List.length_set, s.len], fun j e h => ?_, fun j ds h => ?_, fun j l ds es a h1 h2 h3 h4 => ?_⟩
  · rw [List.getElem?_set] at h
    by_cases ij : i = j
    · rw [if_pos ij] at h
      split at h
      · rename_i hl
        cases h
        refine ⟨v, ?_, q⟩
        rw [List.getElem?_set, if_pos ij, if_pos (by rw [s.len]; exact hl)]
      · cases h
    · rw [if_neg ij] at h
      obtain ⟨w, h1, h2⟩ := s.val j e h
      exact ⟨w, by rw [List.getElem?_set, if_neg ij]; exact h1, h2⟩
  · rw [List.getElem?_set] at h
    by_cases ij : i = j
    · rw [if_pos ij] at h
      split at h <;> cases h
    · rw [if_neg ij] at h
      obtain ⟨a, vs, h1, h2⟩ := s.own j ds h
      exact ⟨a, vs, by rw [List.getElem?_set, if_neg ij]; exact h1, h2⟩
  · rw [List.getElem?_set] at h1 h2 h3 h4
    by_cases ij : i = j
    · rw [if_pos ij] at h1; split at h1 <;> cases h1
    · by_cases il : i = l
      · rw [if_pos il] at h2; split at h2 <;> cases h2
      · rw [if_neg ij] at h1 h3
        rw [if_neg il] at h2 h4
        exact s.apart j l ds es a h1 h2 h3 h4
theorem Stt.wipe1 {G0 H0 : Hp} {σ : St} {δ : List Sd} (s : Stt K B G0 H0 G H σ δ) (i : Nat) : Stt K B G0 H0 G H (σ.set i none) (δ.set i .no) := by
  refine ⟨s.go, s.ok, by rw [List.length_set, List.length_set, s.len], fun j e h => ?_, fun j ds h => ?_, fun j l ds es a h1 h2 h3 h4 => ?_⟩
  · rw [List.getElem?_set] at h
    by_cases ij : i = j
    · rw [if_pos ij] at h; split at h <;> cases h
    · rw [if_neg ij] at h
      obtain ⟨w, h1, h2⟩ := s.val j e h
      exact ⟨w, by rw [List.getElem?_set, if_neg ij]; exact h1, h2⟩
  · rw [List.getElem?_set] at h
    by_cases ij : i = j
    · rw [if_pos ij] at h; split at h <;> cases h
    · rw [if_neg ij] at h
      obtain ⟨a, vs, h1, h2⟩ := s.own j ds h
      exact ⟨a, vs, by rw [List.getElem?_set, if_neg ij]; exact h1, h2⟩
  · rw [List.getElem?_set] at h1 h2 h3 h4
    by_cases ij : i = j
    · rw [if_pos ij] at h1; split at h1 <;> cases h1
    · by_cases il : i = l
      · rw [if_pos il] at h2; split at h2 <;> cases h2
      · rw [if_neg ij] at h1 h3
        rw [if_neg il] at h2 h4
        exact s.apart j l ds es a h1 h2 h3 h4
end

/-! ### the judgements -/
section
variable (K : PySem.W.Frag) (B : Addr)
def Ct (G H : Hp) (P : D → Prop) (Q : VK) : Prop := ∀ v d G1 H1, Go B G H G1 H1 → Ok B G1 H1 → Dd K B G1 v d → P d → Q v H1
def WE (te : TE) (δ : List Sd) (P : D → Prop) : Prop := ∀ G0 H0 σ G H Q, Stt K B G0 H0 G H σ δ → Ct K B G H P Q → te σ H Q
def WT (tt : TT) (δ : List Sd) (P : Bool → Prop) : Prop := ∀ G0 H0 σ G H (Q : Bool → Hp → Prop), Stt K B G0 H0 G H σ δ → (∀ b G1 H1, Go B G H G1 H1 → Ok B G1 H1 → P b → Q b H1) → tt σ H Q
def WA (ta : TA) (δ : List Sd) (P : List D → Prop) : Prop := ∀ G0 H0 σ G H (Q : List V → Hp → Prop), Stt K B G0 H0 G H σ δ → (∀ vs ds G1 H1, Go B G H G1 H1 → Ok B G1 H1 → Dds K B G1 vs ds → P ds → Q vs H1) → ta σ H Q
def WO (to : TO) (δ : List Sd) (P : Option Int → Prop) : Prop := ∀ G0 H0 σ G H (Q : Option Int → Hp → Prop), Stt K B G0 H0 G H σ δ → (∀ b G1 H1, Go B G H G1 H1 → Ok B G1 H1 → P b → Q b H1) → to σ H Q
/-- operations on values -/
def RO (r : R2) (a b : D) (P : D → Prop) : Prop := ∀ G H x y Q, Ok B G H → Dd K B G x a → Dd K B G y b → Ct K B G H P Q → r x y H Q
def R1 (r : V → Hp → VK → Prop) (a : D) (P : D → Prop) : Prop := ∀ G H x Q, Ok B G H → Dd K B G x a → Ct K B G H P Q → r x H Q
def RC (r : List V → Hp → VK → Prop) (ds : List D) (P : D → Prop) : Prop := ∀ G H vs Q, Ok B G H → Dds K B G vs ds → Ct K B G H P Q → r vs H Q
def RM (r : V → List V → Hp → VK → Prop) (a : D) (ds : List D) (P : D → Prop) : Prop := ∀ G H x vs Q, Ok B G H → Dd K B G x a → Dds K B G vs ds → Ct K B G H P Q → r x vs H Q
def RS (r : V → Option Int → Option Int → Hp → VK → Prop) (a : D) (lo hi : Option Int) (P : D → Prop) : Prop := ∀ G H x Q, Ok B G H → Dd K B G x a → Ct K B G H P Q → r x lo hi H Q
/-- a statement: what follows (by the slots), what is handed back -/
structure Out where
  nx : List Sd → Prop
  rt : D → Prop
  bk : List Sd → Prop := fun _ => False
  ct : List Sd → Prop := fun _ => False
def WS (ts : TS) (δ : List Sd) (O : Out) : Prop := ∀ G0 H0 σ G H (E : Ends), Stt K B G0 H0 G H σ δ →
  (∀ σ1 δ1 G1 H1, Same G G1 → Stt K B G0 H0 G1 H1 σ1 δ1 → O.nx δ1 → E.nx σ1 H1) → (∀ v d G1 H1, Go B G0 H0 G1 H1 → Ok B G1 H1 → Dd K B G1 v d → O.rt d → E.rt v H1) →
  (∀ σ1 δ1 G1 H1, Same G G1 → Stt K B G0 H0 G1 H1 σ1 δ1 → O.bk δ1 → E.bk σ1 H1) → (∀ σ1 δ1 G1 H1, Same G G1 → Stt K B G0 H0 G1 H1 σ1 δ1 → O.ct δ1 → E.ct σ1 H1) → ts E σ H
/-- a def's promise by data -/
def SpD (pre : List D → Prop) (post : List D → D → Prop) : Sp := fun vs H Q _ => ∃ B G ds, Ok B G H ∧ Dds K B G vs ds ∧ pre ds ∧ Ct K B G H (post ds) Q
end

section
variable {K : PySem.W.Frag} {B : Addr} {δ : List Sd} {P P' : D → Prop} {ta tb te : TE} {tt tu : TT}
theorem Ct.nil {G H : Hp} {Q : VK} {v : V} {d : D} (o : Ok B G H) (q : Ct K B G H P Q) (h : Dd K B G v d) (p : P d) : Q v H := q v d G H Go.refl o h p
theorem Ct.on {G H G1 H1 : Hp} {Q : VK} (q : Ct K B G H P Q) (g : Go B G H G1 H1) (o : Ok B G1 H1) : Ct K B G1 H1 P Q := fun v d G2 H2 g2 o2 h p => q v d G2 H2 (g.trans o g2) o2 h p
theorem Ct.new {G H : Hp} {Q : VK} {d : D} {x : HO} {p : Addr} (o : Ok B G H) (q : Ct K B G H P Q) (h : H p = none) (hd : Dd K B (upd G p x) (.ref p) d) (hp : P d) : Q (.ref p) (upd H p x) := q _ d _ _ (new_go o h) (new_ok o h) hd hp
theorem WE.mono (h : WE K B te δ P) (m : ∀ d, P d → P' d) : WE K B te δ P' := fun G0 H0 σ G H Q s q => h G0 H0 σ G H Q s fun v d G1 H1 g o hd p => q v d G1 H1 g o hd (m d p)
theorem WT.mono {P P' : Bool → Prop} (h : WT K B tt δ P) (m : ∀ d, P d → P' d) : WT K B tt δ P' := fun G0 H0 σ G H Q s q => h G0 H0 σ G H Q s fun v G1 H1 g o p => q v G1 H1 g o (m v p)
theorem we_var {i : Nat} {d : D} (h : δ[i]? = some (.val d)) (p : P d) : WE K B (tVar i) δ P := fun _ _ _ _ _ _ s q => by
  obtain ⟨v, h1, h2⟩ := s.val i d h
  exact ⟨v, h1, q.nil s.ok h2 p⟩
theorem we_int {i : Int} (p : P (.int i)) : WE K B (tC (.int i)) δ P := fun _ _ _ _ _ _ s q => q.nil s.ok (.int i) p
theorem we_str {z : Str} (p : P (.str z)) : WE K B (tC (.str z)) δ P := fun _ _ _ _ _ _ s q => q.nil s.ok (.str z) p
theorem we_bl {b : Bool} (p : P (.bl b)) : WE K B (tC (.bl b)) δ P := fun _ _ _ _ _ _ s q => q.nil s.ok (.bl b) p
theorem we_non (p : P .non) : WE K B (tC .non) δ P := fun _ _ _ _ _ _ s q => q.nil s.ok .non p
theorem we_op {r : R2} (h : WE K B ta δ fun a => WE K B tb δ fun b => RO K B r a b P) : WE K B (tOp r ta tb) δ P := fun G0 H0 σ G H Q s q =>
  h G0 H0 σ G H _ s fun x a G1 H1 g1 o1 hx wb => wb G0 H0 σ G1 H1 _ (s.on g1 o1) fun y b G2 H2 g2 o2 hy rr => rr G2 H2 x y Q o2 (hx.mono g2.s) hy ((q.on g1 o1).on g2 o2)
theorem we_un {r : V → Hp → VK → Prop} (h : WE K B ta δ fun a => R1 K B r a P) : WE K B (tUn r ta) δ P := fun G0 H0 σ G H Q s q =>
  h G0 H0 σ G H _ s fun x a G1 H1 g1 o1 hx rr => rr G1 H1 x Q o1 hx (q.on g1 o1)
theorem we_andV (h : WE K B ta δ fun a => ∃ c, a = .bl c ∧ if c = true then WE K B tb δ P else P (.bl false)) : WE K B (tAndV ta tb) δ P := fun G0 H0 σ G H Q s q =>
  h G0 H0 σ G H _ s fun x a G1 H1 g1 o1 hx ⟨c, e, w⟩ => by
    subst e
    cases hx
    refine ⟨c, rfl, ?_⟩
    cases c with
    | true => exact w G0 H0 σ G1 H1 Q (s.on g1 o1) (q.on g1 o1)
    | false => exact (q.on g1 o1).nil o1 (.bl false) w
theorem we_orV (h : WE K B ta δ fun a => ∃ c, a = .bl c ∧ if c = true then P (.bl true) else WE K B tb δ P) : WE K B (tOrV ta tb) δ P := fun G0 H0 σ G H Q s q =>
  h G0 H0 σ G H _ s fun x a G1 H1 g1 o1 hx ⟨c, e, w⟩ => by
    subst e
    cases hx
    refine ⟨c, rfl, ?_⟩
    cases c with
    | true => exact (q.on g1 o1).nil o1 (.bl true) w
    | false => exact w G0 H0 σ G1 H1 Q (s.on g1 o1) (q.on g1 o1)
theorem we_notV (h : WE K B ta δ fun a => ∃ c, a = .bl c ∧ P (.bl (!c))) : WE K B (tNotV ta) δ P := fun G0 H0 σ G H Q s q =>
  h G0 H0 σ G H _ s fun x a G1 H1 g1 o1 hx ⟨c, e, w⟩ => by
    subst e
    cases hx
    exact ⟨c, rfl, (q.on g1 o1).nil o1 (.bl _) w⟩
theorem we_if (h : WT K B tt δ fun c => if c = true then WE K B ta δ P else WE K B tb δ P) : WE K B (tIf tt ta tb) δ P := fun G0 H0 σ G H Q s q =>
  h G0 H0 σ G H _ s fun c G1 H1 g1 o1 w => by
    cases c with
    | true => exact w G0 H0 σ G1 H1 Q (s.on g1 o1) (q.on g1 o1)
    | false => exact w G0 H0 σ G1 H1 Q (s.on g1 o1) (q.on g1 o1)
theorem wt_test {P : Bool → Prop} (h : WE K B te δ fun a => ∃ c, a = .bl c ∧ P c) : WT K B (tTest te) δ P := fun G0 H0 σ G H Q s q =>
  h G0 H0 σ G H _ s fun x a G1 H1 g1 o1 hx ⟨c, e, w⟩ => by
    subst e
    cases hx
    exact ⟨c, rfl, q c G1 H1 g1 o1 w⟩
theorem wt_B {P : Bool → Prop} (h : WE K B te δ fun a => ∃ c, a = .bl c ∧ P c) : WT K B (tB te) δ P := fun G0 H0 σ G H Q s q =>
  h G0 H0 σ G H _ s fun x a G1 H1 g1 o1 hx ⟨c, e, w⟩ => by
    subst e
    cases hx
    exact ⟨c, rfl, q c G1 H1 g1 o1 w⟩
theorem wt_and {P : Bool → Prop} (h : WT K B tt δ fun c => if c = true then WT K B tu δ P else P false) : WT K B (tAnd tt tu) δ P := fun G0 H0 σ G H Q s q =>
  h G0 H0 σ G H _ s fun c G1 H1 g1 o1 w => by
    cases c with
    | true => exact w G0 H0 σ G1 H1 Q (s.on g1 o1) fun b G2 H2 g2 o2 p => q b G2 H2 (g1.trans o1 g2) o2 p
    | false => exact q false G1 H1 g1 o1 w
theorem wt_or {P : Bool → Prop} (h : WT K B tt δ fun c => if c = true then P true else WT K B tu δ P) : WT K B (tOr tt tu) δ P := fun G0 H0 σ G H Q s q =>
  h G0 H0 σ G H _ s fun c G1 H1 g1 o1 w => by
    cases c with
    | true => exact q true G1 H1 g1 o1 w
    | false => exact w G0 H0 σ G1 H1 Q (s.on g1 o1) fun b G2 H2 g2 o2 p => q b G2 H2 (g1.trans o1 g2) o2 p
theorem wt_not {P : Bool → Prop} (h : WT K B tt δ fun c => P (!c)) : WT K B (tNot tt) δ P := fun G0 H0 σ G H Q s q =>
  h G0 H0 σ G H _ s fun c G1 H1 g1 o1 w => q (!c) G1 H1 g1 o1 w
theorem wt_yes {P : Bool → Prop} (h : P true) : WT K B tYes δ P := fun _ _ _ G H _ s q => q true G H Go.refl s.ok h
theorem we_chain {tc : TE} {r r' : R2} (h : WE K B ta δ fun a => WE K B tb δ fun b => RO K B r a b fun z => ∃ k, z = .bl k ∧ if k = true then WE K B tc δ (fun c => RO K B r' b c P) else P (.bl false)) : WE K B (tChain r r' ta tb tc) δ P := fun G0 H0 σ G H Q s q =>
  h G0 H0 σ G H _ s fun x a G1 H1 g1 o1 hx wb => wb G0 H0 σ G1 H1 _ (s.on g1 o1) fun y b G2 H2 g2 o2 hy rr => rr G2 H2 x y _ o2 (hx.mono g2.s) hy fun z d G3 H3 g3 o3 hz ⟨k, e, w⟩ => by
    subst e
    cases hz
    refine ⟨k, rfl, ?_⟩
    have q3 := ((q.on g1 o1).on g2 o2).on g3 o3
    cases k with
    | true => exact w G0 H0 σ G3 H3 _ (((s.on g1 o1).on g2 o2).on g3 o3) fun c' e' G4 H4 g4 o4 hc rr' => rr' G4 H4 y c' Q o4 ((hy.mono g3.s).mono g4.s) hc (q3.on g4 o4)
    | false => exact q3.nil o3 (.bl false) w
theorem wa_nil {P : List D → Prop} (p : P []) : WA K B tNil δ P := fun _ _ _ G H _ s q => q [] [] G H Go.refl s.ok .nil p
theorem wa_cons {tr : TA} {P : List D → Prop} (h : WE K B ta δ fun a => WA K B tr δ fun ds => P (a :: ds)) : WA K B (tCons ta tr) δ P := fun G0 H0 σ G H Q s q =>
  h G0 H0 σ G H _ s fun x a G1 H1 g1 o1 hx w => w G0 H0 σ G1 H1 _ (s.on g1 o1) fun vs ds G2 H2 g2 o2 hs p => q (x :: vs) (a :: ds) G2 H2 (g1.trans o1 g2) o2 (.cons (hx.mono g2.s) hs) p
theorem we_tup {t : TA} (h : WA K B t δ fun ds => ds.length ≤ 1000 ∧ P (.tup ds)) : WE K B (tTup t) δ P := fun G0 H0 σ G H Q s q =>
  h G0 H0 σ G H _ s fun vs ds G1 H1 g1 o1 hs ⟨l, p⟩ => ⟨by rw [hs.length]; exact Nat.le_trans l (by decide), fun a ha => (q.on g1 o1).new o1 ha (.tup upd_same (hs.mono (same_upd (o1.fresh ha)))) p⟩
theorem we_lst {t : TA} (h : WA K B t δ fun ds => ds.length ≤ 1000 ∧ P (.lst ds)) : WE K B (tLst t) δ P := fun G0 H0 σ G H Q s q =>
  h G0 H0 σ G H _ s fun vs ds G1 H1 g1 o1 hs ⟨l, p⟩ => ⟨by rw [hs.length]; exact Nat.le_trans l (by decide), fun a ha => (q.on g1 o1).new o1 ha (.lst upd_same (hs.mono (same_upd (o1.fresh ha)))) p⟩
theorem we_cb {r : List V → Hp → VK → Prop} {t : TA} (h : WA K B t δ fun ds => RC K B r ds P) : WE K B (tCB r t) δ P := fun G0 H0 σ G H Q s q =>
  h G0 H0 σ G H _ s fun vs ds G1 H1 g1 o1 hs rr => rr G1 H1 vs Q o1 hs (q.on g1 o1)
theorem we_call {pre : List D → Prop} {post : List D → D → Prop} {E : XK} {t : TA} (h : WA K B t δ fun ds => pre ds ∧ ∀ d, post ds d → P d) : WE K B (tCall (SpD K pre post) [] E t) δ P := fun G0 H0 σ G H Q s q =>
  h G0 H0 σ G H _ s fun vs ds G1 H1 g1 o1 hs ⟨p, m⟩ => by
    rw [List.append_nil]
    exact ⟨B, G1, ds, o1, hs, p, fun v d G2 H2 g2 o2 hd pd => (q.on g1 o1) v d G2 H2 g2 o2 hd (m d pd)⟩
theorem we_bm {T : String} {r : V → List V → Hp → VK → Prop} {to : TE} {t : TA} (hT : ∀ G H x z, Ok B G H → Dd K B G x (.str z) → tyV K T x H) (h : WE K B to δ fun a => (∃ z, a = .str z) ∧ WA K B t δ fun ds => RM K B r a ds P) : WE K B (tBM K T r to t) δ P := fun G0 H0 σ G H Q s q =>
  h G0 H0 σ G H _ s fun x a G1 H1 g1 o1 hx ⟨⟨z, e⟩, w⟩ => by
    subst e
    exact ⟨hT G1 H1 x z o1 hx, w G0 H0 σ G1 H1 _ (s.on g1 o1) fun vs ds G2 H2 g2 o2 hs rr => rr G2 H2 x vs Q o2 (hx.mono g2.s) hs ((q.on g1 o1).on g2 o2)⟩
theorem we_bm0 {T : String} {r : V → List V → Hp → VK → Prop} {to : TE} (hT : ∀ G H x z, Ok B G H → Dd K B G x (.str z) → tyV K T x H) (h : WE K B to δ fun a => (∃ z, a = .str z) ∧ RM K B r a [] P) : WE K B (tBM0 K T r to) δ P := fun G0 H0 σ G H Q s q =>
  h G0 H0 σ G H _ s fun x a G1 H1 g1 o1 hx ⟨⟨z, e⟩, w⟩ => by
    subst e
    exact ⟨hT G1 H1 x z o1 hx, w G1 H1 x [] Q o1 hx .nil (q.on g1 o1)⟩
theorem wo_none {P : Option Int → Prop} (p : P none) : WO K B tNoPart δ P := fun _ _ _ G H _ s q => q none G H Go.refl s.ok p
theorem wo_some {P : Option Int → Prop} (h : WE K B te δ fun a => ∃ i, a = .int i ∧ P (some i)) : WO K B (tPart te) δ P := fun G0 H0 σ G H Q s q =>
  h G0 H0 σ G H _ s fun x a G1 H1 g1 o1 hx ⟨i, e, p⟩ => by
    subst e
    cases hx
    exact ⟨i, rfl, q (some i) G1 H1 g1 o1 p⟩
theorem we_sl {r : V → Option Int → Option Int → Hp → VK → Prop} {tl th : TO} (h : WE K B te δ fun a => WO K B tl δ fun lo => WO K B th δ fun hi => RS K B r a lo hi P) : WE K B (tSl r te tl th) δ P := fun G0 H0 σ G H Q s q =>
  h G0 H0 σ G H _ s fun x a G1 H1 g1 o1 hx w => w G0 H0 σ G1 H1 _ (s.on g1 o1) fun lo G2 H2 g2 o2 w2 => w2 G0 H0 σ G2 H2 _ ((s.on g1 o1).on g2 o2) fun hi G3 H3 g3 o3 rr =>
    rr G3 H3 x Q o3 ((hx.mono g2.s).mono g3.s) (((q.on g1 o1).on g2 o2).on g3 o3)

/-! ### statements -/
variable {O : Out} {t u : TS}
theorem ws_seq (h : WS K B t δ { O with nx := fun δ1 => WS K B u δ1 O }) : WS K B (tSeq t u) δ O := fun G0 H0 σ G H E s n r b c =>
  h G0 H0 σ G H { E with nx := u E } s (fun σ1 δ1 G1 H1 m s1 w => w G0 H0 σ1 G1 H1 E s1 (fun σ2 δ2 G2 H2 m2 => n σ2 δ2 G2 H2 (m.trans m2)) r (fun σ2 δ2 G2 H2 m2 => b σ2 δ2 G2 H2 (m.trans m2)) (fun σ2 δ2 G2 H2 m2 => c σ2 δ2 G2 H2 (m.trans m2))) r b c
theorem ws_next (h : O.nx δ) : WS K B tNext δ O := fun _ _ σ G H _ s n _ _ _ => n σ δ G H (Same.refl _) s h
theorem ws_break (h : O.bk δ) : WS K B tBreak δ O := fun _ _ σ G H _ s _ _ b _ => b σ δ G H (Same.refl _) s h
theorem ws_cont (h : O.ct δ) : WS K B tCont δ O := fun _ _ σ G H _ s _ _ _ c => c σ δ G H (Same.refl _) s h
theorem ws_ret (h : WE K B te δ O.rt) : WS K B (tRet te) δ O := fun G0 H0 σ G H E s _ r _ _ => h G0 H0 σ G H _ s fun v d G1 H1 g o hd p => r v d G1 H1 (s.go.trans s.ok g) o hd p
theorem ws_retN (h : O.rt .non) : WS K B tRetN δ O := fun _ _ _ G H _ s _ r _ _ => r .non .non G H s.go s.ok .non h
theorem ws_if (h : WT K B tt δ fun c => if c = true then WS K B t δ O else WS K B u δ O) : WS K B (tIfS tt t u) δ O := fun G0 H0 σ G H E s n r b c =>
  h G0 H0 σ G H _ s fun k G1 H1 g1 o1 w => by
    cases k with
    | true => exact w G0 H0 σ G1 H1 E (s.on g1 o1) (fun σ2 δ2 G2 H2 m2 => n σ2 δ2 G2 H2 (g1.s.trans m2)) r (fun σ2 δ2 G2 H2 m2 => b σ2 δ2 G2 H2 (g1.s.trans m2)) (fun σ2 δ2 G2 H2 m2 => c σ2 δ2 G2 H2 (g1.s.trans m2))
    | false => exact w G0 H0 σ G1 H1 E (s.on g1 o1) (fun σ2 δ2 G2 H2 m2 => n σ2 δ2 G2 H2 (g1.s.trans m2)) r (fun σ2 δ2 G2 H2 m2 => b σ2 δ2 G2 H2 (g1.s.trans m2)) (fun σ2 δ2 G2 H2 m2 => c σ2 δ2 G2 H2 (g1.s.trans m2))
theorem ws_set {i : Nat} (h : WE K B te δ fun d => O.nx (δ.set i (.val d))) : WS K B (tAsg te (gName i)) δ O := fun G0 H0 σ G H E s n _ _ _ =>
  h G0 H0 σ G H _ s fun v d G1 H1 g o hd p => n _ _ G1 H1 g.s ((s.on g o).setVal i hd) p
theorem ws_drop (h : WE K B te δ fun _ => O.nx δ) : WS K B (tDrop te) δ O := fun G0 H0 σ G H E s n _ _ _ =>
  h G0 H0 σ G H _ s fun v d G1 H1 g o hd p => n _ _ G1 H1 g.s (s.on g o) p
theorem ws_par {i j : Nat} {ta : TA} (h : WA K B ta δ fun ds => ∃ a b, ds = [a, b] ∧ O.nx ((δ.set i (.val a)).set j (.val b))) : WS K B (tPar i j ta) δ O := fun G0 H0 σ G H E s n _ _ _ =>
  h G0 H0 σ G H _ s fun vs ds G1 H1 g o hs ⟨a, b, e, p⟩ => by
    subst e
    cases hs with
    | cons h1 t1 =>
      cases t1 with
      | cons h2 t2 =>
        cases t2
        exact ⟨_, _, rfl, n _ _ G1 H1 g.s (((s.on g o).setVal i h1).setVal j h2) p⟩
end
end Dl
namespace Dl
open PySem L2
section
variable {K : PySem.W.Frag} {B : Addr} {δ : List Sd} {P P' : D → Prop} {ta tb te : TE} {tt tu : TT} {O : Out}
theorem we_cls {n : String} (p : P (.cls n)) : WE K B (tC (.ty n)) δ P := fun _ _ _ _ _ _ s q => q.nil s.ok (.cls n) p
/-! ### operations on values -/
theorem ro_int0 {f : Int → Int → Int} {i j : Int} (p : P (.int (f i j))) : RO K B (rI0 fun i j => .int (f i j)) (.int i) (.int j) P := fun _ _ _ _ _ o hx hy q => by
  cases hx; cases hy
  exact ⟨i, j, rfl, rfl, q.nil o (.int _) p⟩
theorem ro_bl0 {f : Int → Int → Bool} {i j : Int} (p : P (.bl (f i j))) : RO K B (rI0 fun i j => .bl (f i j)) (.int i) (.int j) P := fun _ _ _ _ _ o hx hy q => by
  cases hx; cases hy
  exact ⟨i, j, rfl, rfl, q.nil o (.bl _) p⟩
theorem ro_int {C : Int → Int → Prop} {f : Int → Int → Int} {i j : Int} (c : C i j) (p : P (.int (f i j))) : RO K B (rI C fun i j => .int (f i j)) (.int i) (.int j) P := fun _ _ _ _ _ o hx hy q => by
  cases hx; cases hy
  exact ⟨i, j, rfl, rfl, c, q.nil o (.int _) p⟩
theorem r1_int {f : Int → Int} {i : Int} (p : P (.int (f i))) : R1 K B (rU fun i => .int (f i)) (.int i) P := fun _ _ _ _ o hx q => by
  cases hx
  exact ⟨i, rfl, q.nil o (.int _) p⟩
/-- the flat ones as values -/
def D.v : D → V
  | .non => .non | .bl b => .bl b | .int i => .int i | .str z => .str z | .cls n => .ty n | _ => .ref 0
def D.flat : D → Bool
  | .non => true | .bl _ => true | .int _ => true | .str _ => true | _ => false
theorem Dd.flat {G : Hp} {v : V} {d : D} (h : Dd K B G v d) (f : d.flat = true) : v = d.v := by
  cases h <;> first | rfl | cases f
theorem ro_eq {a b : D} (fa : a.flat = true) (fb : b.flat = true) (s : scal a.v b.v = true) (p : P (.bl (decide (a.v = b.v)))) : RO K B rEq a b P := fun _ _ _ _ _ o hx hy q => by
  rw [hx.flat fa, hy.flat fb]
  exact ⟨s, q.nil o (.bl _) p⟩
theorem ro_ne {a b : D} (fa : a.flat = true) (fb : b.flat = true) (s : scal a.v b.v = true) (p : P (.bl (!decide (a.v = b.v)))) : RO K B rNe a b P := fun _ _ _ _ _ o hx hy q => by
  rw [hx.flat fa, hy.flat fb]
  exact ⟨s, q.nil o (.bl _) p⟩
theorem ro_eqI {i j : Int} (p : P (.bl (decide (i = j)))) : RO K B rEq (.int i) (.int j) P := ro_eq rfl rfl rfl (by
  have e : decide (D.v (.int i) = D.v (.int j)) = decide (i = j) := by
    apply decide_eq_decide.mpr
    exact ⟨fun h => V.int.inj h, fun h => by rw [h]⟩
  rw [e]; exact p)
theorem ro_neI {i j : Int} (p : P (.bl (!decide (i = j)))) : RO K B rNe (.int i) (.int j) P := ro_ne rfl rfl rfl (by
  have e : decide (D.v (.int i) = D.v (.int j)) = decide (i = j) := by
    apply decide_eq_decide.mpr
    exact ⟨fun h => V.int.inj h, fun h => by rw [h]⟩
  rw [e]; exact p)
theorem ro_eqB {i j : Bool} (p : P (.bl (decide (i = j)))) : RO K B rEq (.bl i) (.bl j) P := ro_eq rfl rfl rfl (by
  have e : decide (D.v (.bl i) = D.v (.bl j)) = decide (i = j) := by
    apply decide_eq_decide.mpr
    exact ⟨fun h => V.bl.inj h, fun h => by rw [h]⟩
  rw [e]; exact p)
theorem ro_neB {i j : Bool} (p : P (.bl (!decide (i = j)))) : RO K B rNe (.bl i) (.bl j) P := ro_ne rfl rfl rfl (by
  have e : decide (D.v (.bl i) = D.v (.bl j)) = decide (i = j) := by
    apply decide_eq_decide.mpr
    exact ⟨fun h => V.bl.inj h, fun h => by rw [h]⟩
  rw [e]; exact p)
theorem ro_eqS {i j : Str} (p : P (.bl (decide (i = j)))) : RO K B rEq (.str i) (.str j) P := ro_eq rfl rfl rfl (by
  have e : decide (D.v (.str i) = D.v (.str j)) = decide (i = j) := by
    apply decide_eq_decide.mpr
    exact ⟨fun h => V.str.inj h, fun h => by rw [h]⟩
  rw [e]; exact p)
theorem ro_neS {i j : Str} (p : P (.bl (!decide (i = j)))) : RO K B rNe (.str i) (.str j) P := ro_ne rfl rfl rfl (by
  have e : decide (D.v (.str i) = D.v (.str j)) = decide (i = j) := by
    apply decide_eq_decide.mpr
    exact ⟨fun h => V.str.inj h, fun h => by rw [h]⟩
  rw [e]; exact p)
theorem sz1000 {n : Nat} (h : n ≤ 1000) : n ≤ sizeLine := Nat.le_trans h (by decide)
/-- items -/
theorem atI_dd {G : Hp} {vs : List V} {ds : List D} {i : Int} {d : D} (h : Dds K B G vs ds) (e : atI ds i = some d) : ∃ v, atI vs i = some v ∧ Dd K B G v d := by
  unfold atI at e ⊢
  rw [h.length]
  cases q : ixN ds.length i with
  | none => rw [q] at e; cases e
  | some j =>
    rw [q] at e
    exact h.get e
theorem ro_ixL {ds : List D} {i : Int} {d : D} (e : atI ds i = some d) (p : P d) : RO K B (rIxL K) (.lst ds) (.int i) P := fun _ _ _ _ _ o hx hy q => by
  cases hy
  cases hx with
  | lst h t =>
    obtain ⟨v, h1, h2⟩ := atI_dd t e
    exact ⟨_, _, i, v, rfl, rfl, SqL.of (o.u _ _ h), h1, q.nil o h2 p⟩
theorem ro_ixT {ds : List D} {i : Int} {d : D} (e : atI ds i = some d) (p : P d) : RO K B (rIxT K) (.tup ds) (.int i) P := fun _ _ _ _ _ o hx hy q => by
  cases hy
  cases hx with
  | tup h t =>
    obtain ⟨v, h1, h2⟩ := atI_dd t e
    exact ⟨_, _, i, v, rfl, rfl, SqT.of (o.u _ _ h), h1, q.nil o h2 p⟩
theorem ro_ixS {z : Str} {i : Int} {c : Nat} (l : z.length ≤ 100000) (e : atI z.cps.toList i = some c) (p : P (.str ⟨#[c]⟩)) : RO K B rIxS (.str z) (.int i) P := fun _ _ _ _ _ o hx hy q => by
  cases hy; cases hx
  exact ⟨z, i, c, rfl, rfl, Nat.le_trans l (by decide), e, q.nil o (.str _) p⟩
theorem ro_ixsL {ds : List D} {i : Int} {d : D} (e : atI ds i = some d) (p : P d) : RO K B (rIx K) (.lst ds) (.int i) P := fun G H x y Q o hx hy q => .inl (ro_ixL e p G H x y Q o hx hy q)
theorem ro_ixsT {ds : List D} {i : Int} {d : D} (e : atI ds i = some d) (p : P d) : RO K B (rIx K) (.tup ds) (.int i) P := fun G H x y Q o hx hy q => .inr (.inl (ro_ixT e p G H x y Q o hx hy q))
theorem ro_ixsS {z : Str} {i : Int} {c : Nat} (l : z.length ≤ 100000) (e : atI z.cps.toList i = some c) (p : P (.str ⟨#[c]⟩)) : RO K B (rIx K) (.str z) (.int i) P := fun G H x y Q o hx hy q => .inr (.inr (ro_ixS l e p G H x y Q o hx hy q))
theorem ro_inS {i j : Str} (p : P (.bl (!(Builtin.Str.occurrences j i 0 j.length 1).isEmpty))) : RO K B (fun x y H Q => ∃ i j, x = .str i ∧ y = .str j ∧ Q (.bl (!(Builtin.Str.occurrences j i 0 j.length 1).isEmpty)) H) (.str i) (.str j) P := fun _ _ _ _ _ o hx hy q => by
  cases hx; cases hy
  exact ⟨i, j, rfl, rfl, q.nil o (.bl _) p⟩
theorem ro_addS {i j : Str} (l : i.length + j.length ≤ 100000) (p : P (.str (i ++ j))) : RO K B (fun x y H Q => ∃ i j, x = .str i ∧ y = .str j ∧ i.length + j.length ≤ sizeLine ∧ Q (.str (i ++ j)) H) (.str i) (.str j) P := fun _ _ _ _ _ o hx hy q => by
  cases hx; cases hy
  exact ⟨i, j, rfl, rfl, Nat.le_trans l (by decide), q.nil o (.str _) p⟩
theorem ro_cat {ds es : List D} (l : ds.length + es.length ≤ 1000) (p : P (.lst (ds ++ es))) : RO K B rCat (.lst ds) (.lst es) P := fun _ _ _ _ _ o hx hy q => by
  cases hx with
  | lst h t =>
    cases hy with
    | lst h' t' => exact ⟨_, _, _, _, rfl, rfl, o.u _ _ h, o.u _ _ h', sz1000 (by rw [t.length, t'.length]; exact l), fun a ha => q.new o ha (.lst upd_same ((t.append t').mono (same_upd (o.fresh ha)))) p⟩
theorem ro_rep {ds : List D} {k : Int} (h1 : 0 ≤ k) (h2 : k ≤ 1000) (l : ds.length * k.toNat ≤ 1000) (p : P (.lst (List.replicate k.toNat ds).flatten)) : RO K B rRep (.lst ds) (.int k) P := fun _ _ _ _ _ o hx hy q => by
  cases hy
  cases hx with
  | lst h t => exact ⟨_, k, _, rfl, rfl, o.u _ _ h, by omega, by omega, sz1000 (by rw [t.length]; exact l), fun a ha => q.new o ha (.lst upd_same ((t.repl _).mono (same_upd (o.fresh ha)))) p⟩
theorem ro_catA {ds es : List D} (l : ds.length + es.length ≤ 1000) (p : P (.tup (ds ++ es))) : RO K B (rCatA K) (.tup ds) (.tup es) P := fun _ _ _ _ _ o hx hy q => by
  have hx0 := hx
  have hy0 := hy
  cases hx with
  | tup h t =>
    cases hy with
    | tup h' t' =>
      refine ⟨_, _, _, _, rfl, rfl, SqT.of (o.u _ _ h), SqT.of (o.u _ _ h'), sz1000 (by rw [t.length, t'.length]; exact l), fun e => ?_, fun _ e => ?_, fun _ _ a ha => q.new o ha (.tup upd_same ((t.append t').mono (same_upd (o.fresh ha)))) p⟩
      · have e2 : ds = [] := by
          have := t.length; rw [e] at this; exact List.length_eq_zero_iff.mp this.symm
        subst e2
        exact q.nil o hy0 p
      · have e2 : es = [] := by
          have := t'.length; rw [e] at this; exact List.length_eq_zero_iff.mp this.symm
        subst e2
        rw [List.append_nil] at p
        exact q.nil o hx0 p
/-- slices -/
def cutD (ds : List D) (lo hi : Option Int) : List D := (ds.drop (HT.sIx ds.length 0 lo)).take (HT.sIx ds.length ds.length hi - HT.sIx ds.length 0 lo)
theorem cutV_dd {G : Hp} {vs : List V} {ds : List D} {lo hi : Option Int} (h : Dds K B G vs ds) : Dds K B G (cutV vs lo hi) (cutD ds lo hi) := by
  unfold cutV cutD
  rw [h.length]
  exact (h.drop _).take _
theorem rs_L {ds : List D} {lo hi : Option Int} (p : P (.lst (cutD ds lo hi))) : RS K B (rSlL K) (.lst ds) lo hi P := fun _ _ _ _ o hx q => by
  cases hx with
  | lst h t => exact ⟨_, _, rfl, SqL.of (o.u _ _ h), fun a ha => q.new o ha (.lst upd_same ((cutV_dd t).mono (same_upd (o.fresh ha)))) p⟩
theorem rs_T {ds : List D} {lo hi : Option Int} (p : P (.tup (cutD ds lo hi))) : RS K B (rSlA K) (.tup ds) lo hi P := fun _ _ _ _ o hx q => by
  have hx0 := hx
  cases hx with
  | tup h t =>
    refine ⟨_, _, rfl, SqT.of (o.u _ _ h), fun e => ?_, fun _ a ha => q.new o ha (.tup upd_same ((cutV_dd t).mono (same_upd (o.fresh ha)))) p⟩
    rw [t.length] at e
    have e2 : cutD ds lo hi = ds := by
      show (ds.drop (HT.sIx ds.length 0 lo)).take (HT.sIx ds.length ds.length hi - HT.sIx ds.length 0 lo) = ds
      rw [e.1, e.2]
      simp
    rw [e2] at p
    exact q.nil o hx0 p
theorem rs_S {z : Str} {lo hi : Option Int} (l : z.length ≤ 100000) (p : P (.str (cutS z lo hi))) : RS K B rSlS (.str z) lo hi P := fun _ _ _ _ o hx q => by
  cases hx
  exact ⟨z, rfl, Nat.le_trans l (by decide), q.nil o (.str _) p⟩
/-! ### calls of built-ins -/
def D.tyn : D → String
  | .non => "NoneType" | .bl _ => "bool" | .int _ => "int" | .str _ => "str" | .tup _ => "tuple" | .lst _ => "list" | .dic _ _ => "dict" | .cls _ => "type" | .box => "list"
def D.isCls : D → Bool
  | .cls _ => true | _ => false
theorem Dd.tyx {G H : Hp} {v : V} {d : D} (o : Ok B G H) (h : Dd K B G v d) (nc : d.isCls = false) : TyX K H v (.type d.tyn) := by
  cases h with
  | non => exact .base .non
  | bl b => exact .base (.bl b)
  | int i => exact .base (.int i)
  | str z => exact .base (.str z)
  | tup h _ => exact .base (.tup (o.u _ _ h))
  | lst h _ => exact .base (.lst (o.u _ _ h))
  | dic h _ => exact .base (.dK (o.u _ _ h))
  | cls n => cases nc
  | box =>
    obtain ⟨_, _, _, _, _, _, e, _⟩ := o.x
    exact .base (.lst e)
theorem rc_isi {a : D} {n : String} {b : Bool} (nc : a.isCls = false) (e : kitB a.tyn n = some b) (p : P (.bl b)) : RC K B (rIsi K) [a, .cls n] P := fun _ _ _ _ o hs q => by
  cases hs with
  | cons h1 t =>
    cases t with
    | cons h2 t2 =>
      cases t2; cases h2
      exact ⟨_, _, _, _, b, rfl, .ty n, h1.tyx o nc, kit_ty e, q.nil o (.bl b) p⟩
theorem rc_isi2 {a : D} {n m : String} {b c : Bool} (nc : a.isCls = false) (e1 : kitB a.tyn n = some b) (e2 : kitB a.tyn m = some c) (p : P (.bl (b || c))) : RC K B (rIsiT K) [a, .tup [.cls n, .cls m]] P := fun G H _ _ o hs q => by
  cases hs with
  | cons h1 t =>
    cases t with
    | cons h2 t2 =>
      cases t2
      cases h2 with
      | tup hg ht =>
        cases ht with
        | cons k1 t3 =>
          cases t3 with
          | cons k2 t4 =>
            cases t4; cases k1; cases k2
            refine ⟨_, _, _, _, [.type n, .type m], (b || c), rfl, o.u _ _ hg, .cons (.ty n) (.cons (.ty m) .nil), h1.tyx o nc, ?_, q.nil o (.bl _) p⟩
            have f1 : PySem.W.kitOne K (.type a.tyn) (.type n) = some b := kit_ty e1
            have f2 : PySem.W.kitOne K (.type a.tyn) (.type m) = some c := kit_ty e2
            cases b <;> cases c <;> simp [PySem.W.kitAny, f1, f2]
def D.len? : D → Option Nat
  | .str z => some z.length | .tup ds => some ds.length | .lst ds => some ds.length | _ => none
theorem rc_len {a : D} {n : Nat} (e : a.len? = some n) (l : n ≤ 100000) (p : P (.int n)) : RC K B (fun xs H Q => ∃ x n, xs = [x] ∧ LenV K x H n ∧ Q (.int n) H) [a] P := fun _ _ _ _ o hs q => by
  cases hs with
  | cons h t =>
    cases t
    cases h with
    | str z => cases e; exact ⟨_, _, rfl, ⟨Nat.le_trans l (by decide), rfl⟩, q.nil o (.int _) p⟩
    | tup h t => cases e; exact ⟨_, _, rfl, .inr ⟨_, SqT.of (o.u _ _ h), t.length.symm⟩, q.nil o (.int _) p⟩
    | lst h t => cases e; exact ⟨_, _, rfl, .inl ⟨_, SqL.of (o.u _ _ h), t.length.symm⟩, q.nil o (.int _) p⟩
    | _ => cases e
theorem rc_abs {i : Int} (p : P (.int (if i < 0 then -i else i))) : RC K B (fun xs H Q => ∃ i, xs = [.int i] ∧ Q (.int (if i < 0 then -i else i)) H) [.int i] P := fun _ _ _ _ o hs q => by
  cases hs with
  | cons h t => cases t; cases h; exact ⟨i, rfl, q.nil o (.int _) p⟩
theorem rc_int1 {i : Int} (p : P (.int i)) : RC K B (fun xs H Q => (∃ i, xs = [.int i] ∧ Q (.int i) H) ∨ ∃ k, xs = [.bl k] ∧ Q (.int (if k then 1 else 0)) H) [.int i] P := fun _ _ _ _ o hs q => by
  cases hs with
  | cons h t => cases t; cases h; exact .inl ⟨i, rfl, q.nil o (.int _) p⟩
theorem rc_intS {a : Str} {n : Int} (e : PySem.intText? a = some n) (l : a.length ≤ 640) (p : P (.int n)) : RC K B (fun xs H Q => ∃ a n, xs = [.str a] ∧ PySem.intText? a = some n ∧ a.length ≤ 640 ∧ Q (.int n) H) [.str a] P := fun _ _ _ _ o hs q => by
  cases hs with
  | cons h t => cases t; cases h; exact ⟨a, n, rfl, e, l, q.nil o (.int _) p⟩
theorem rc_gcd {i j : Int} (p : P (.int ((Nat.gcd i.natAbs j.natAbs : Nat) : Int))) : RC K B rGcd [.int i, .int j] P := fun _ _ _ _ o hs q => by
  cases hs with
  | cons h t =>
    cases t with
    | cons h2 t2 => cases t2; cases h; cases h2; exact ⟨i, j, rfl, q.nil o (.int _) p⟩
theorem rc_all {bs : List Bool} (p : P (.bl (bs.all id))) : RC K B (rAll K) [.lst (bs.map D.bl)] P := fun _ _ _ _ o hs q => by
  cases hs with
  | cons h t =>
    cases t
    cases h with
    | lst h t => rw [t.bls] at h; exact ⟨_, bs, rfl, SqL.of (o.u _ _ h), q.nil o (.bl _) p⟩
theorem rc_any {bs : List Bool} (p : P (.bl (bs.any id))) : RC K B (rAny K) [.lst (bs.map D.bl)] P := fun _ _ _ _ o hs q => by
  cases hs with
  | cons h t =>
    cases t
    cases h with
    | lst h t => rw [t.bls] at h; exact ⟨_, bs, rfl, SqL.of (o.u _ _ h), q.nil o (.bl _) p⟩
theorem rc_listOf {ds : List D} (p : P (.lst ds)) : RC K B (fun xs H Q => ∃ p ys, xs = [.ref p] ∧ (SqL K H p ys ∨ SqT K H p ys) ∧ ∀ l, H l = none → Q (.ref l) (upd H l (.lst ys))) [.lst ds] P ∧ RC K B (fun xs H Q => ∃ p ys, xs = [.ref p] ∧ (SqL K H p ys ∨ SqT K H p ys) ∧ ∀ l, H l = none → Q (.ref l) (upd H l (.lst ys))) [.tup ds] P := by
  constructor
  · intro _ _ _ _ o hs q
    cases hs with
    | cons h t =>
      cases t
      cases h with
      | lst h t => exact ⟨_, _, rfl, .inl (SqL.of (o.u _ _ h)), fun l hl => q.new o hl (.lst upd_same (t.mono (same_upd (o.fresh hl)))) p⟩
  · intro _ _ _ _ o hs q
    cases hs with
    | cons h t =>
      cases t
      cases h with
      | tup h t => exact ⟨_, _, rfl, .inr (SqT.of (o.u _ _ h)), fun l hl => q.new o hl (.lst upd_same (t.mono (same_upd (o.fresh hl)))) p⟩
/-! ### methods of texts -/
theorem ty_str {G H : Hp} {x : V} {z : Str} (_ : Ok B G H) (h : Dd K B G x (.str z)) : tyV K "str" x H := by
  cases h; rfl
theorem rm_join {a : Str} {ys : List Str} (l : (ys.map (·.length)).sum + ys.length * a.length ≤ 16777216) (p : P (.str (Txt.join a ys))) : RM K B (fun x xs H Q => ∃ a p, ∃ ys : List Str, x = .str a ∧ xs = [.ref p] ∧ (SqL K H p (ys.map V.str) ∨ SqT K H p (ys.map V.str)) ∧ (ys.map (·.length)).sum + ys.length * a.length ≤ 16777216 ∧ Q (.str (Txt.join a ys)) H) (.str a) [.lst (ys.map D.str)] P := fun _ _ _ _ _ o hx hs q => by
  cases hx
  cases hs with
  | cons h t =>
    cases t
    cases h with
    | lst h t => rw [t.strs] at h; exact ⟨a, _, ys, rfl, rfl, .inl (SqL.of (o.u _ _ h)), l, q.nil o (.str _) p⟩
end
end Dl
namespace Dl
open PySem L2
section
variable (K : PySem.W.Frag) (B : Addr)
/-- what an iterator hands out, by data -/
def ItOk (J : It) (its : List D) (G1 : Hp) : Prop := ∀ G H i, Same G1 G → Ok B G H → (i < its.length → J.go i H) ∧ (∀ x H', i < its.length → J.yld i H x H' → ∃ d G', its[i]? = some d ∧ Go B G H G' H' ∧ Ok B G' H' ∧ Dd K B G' x d) ∧ (i = its.length → J.stop i H)
def WI (wi : TI) (δ : List Sd) (P : List D → Prop) : Prop := ∀ G0 H0 σ G H (R : It → Hp → Prop), Stt K B G0 H0 G H σ δ → (∀ J its G1 H1, Go B G H G1 H1 → Ok B G1 H1 → ItOk K B J its G1 → P its → R J H1) → wi σ H R
end
section
variable {K : PySem.W.Frag} {B : Addr} {δ : List Sd} {P P' : D → Prop} {ta tb te : TE} {tt tu : TT} {O : Out}
theorem it_list {G : Hp} {a : Addr} {vs : List V} {ds : List D} (h : G a = some (.lst vs)) (t : Dds K B G vs ds) : ItOk K B (Itl K a) ds G := by
  intro G1 H1 i s o
  have h1 : SqL K H1 a vs := SqL.of (o.u _ _ (s _ _ h))
  have l := t.length
  refine ⟨fun hi => ?_, fun x H' hi y => ?_, fun e => ⟨vs, h1, by omega⟩⟩
  · obtain ⟨v, e1, _⟩ := t.get (List.getElem?_eq_getElem hi)
    exact ⟨vs, v, h1, e1⟩
  · obtain ⟨rfl, f⟩ := y
    obtain ⟨d, e1, e2⟩ := t.get' (f vs h1)
    exact ⟨d, G1, e1, Go.refl, o, e2.mono s⟩
theorem it_tup {G : Hp} {a : Addr} {vs : List V} {ds : List D} (h : G a = some (.tup vs)) (t : Dds K B G vs ds) : ItOk K B (Itt K a) ds G := by
  intro G1 H1 i s o
  have h1 : SqT K H1 a vs := SqT.of (o.u _ _ (s _ _ h))
  have l := t.length
  refine ⟨fun hi => ?_, fun x H' hi y => ?_, fun e => ⟨vs, h1, by omega⟩⟩
  · obtain ⟨v, e1, _⟩ := t.get (List.getElem?_eq_getElem hi)
    exact ⟨vs, v, h1, e1⟩
  · obtain ⟨rfl, f⟩ := y
    obtain ⟨d, e1, e2⟩ := t.get' (f vs h1)
    exact ⟨d, G1, e1, Go.refl, o, e2.mono s⟩
def signs (z : Str) : List D := z.cps.toList.map fun c => .str ⟨#[c]⟩
theorem it_str {G : Hp} {z : Str} : ItOk K B (Its z) (signs z) G := by
  intro G1 H1 i s o
  have l : (signs z).length = z.cps.size := by unfold signs; rw [List.length_map, Array.length_toList]
  refine ⟨fun hi => by show i < z.cps.size; omega, fun x H' hi y => ?_, fun e => by show z.cps.size ≤ i; omega⟩
  obtain ⟨rfl, c, e, rfl⟩ := y
  refine ⟨.str ⟨#[c]⟩, G1, ?_, Go.refl, o, .str _⟩
  unfold signs
  rw [List.getElem?_map, Array.getElem?_toList, e]
  rfl
def upto (lo : Int) (n : Nat) : List D := (List.range n).map fun (k : Nat) => .int (lo + (k : Int))
theorem it_range {G : Hp} {lo : Int} {n : Nat} : ItOk K B (Itr lo n) (upto lo n) G := by
  intro G1 H1 i s o
  have l : (upto lo n).length = n := by unfold upto; rw [List.length_map, List.length_range]
  refine ⟨fun hi => by show i < n; omega, fun x H' hi y => ?_, fun e => by show n ≤ i; omega⟩
  obtain ⟨rfl, rfl⟩ := y
  refine ⟨.int (lo + i), G1, ?_, Go.refl, o, .int _⟩
  unfold upto
  rw [List.getElem?_map, List.getElem?_range (by omega)]
  rfl
theorem wi_list {P : List D → Prop} (h : WE K B te δ fun d => ∃ ds, d = .lst ds ∧ P ds) : WI K B (iList K te) δ P := fun G0 H0 σ G H R s q =>
  h G0 H0 σ G H _ s fun x a G1 H1 g1 o1 hx ⟨ds, e, p⟩ => by
    subst e
    cases hx with
    | lst h t => exact ⟨_, rfl, ⟨_, SqL.of (o1.u _ _ h)⟩, q _ ds G1 H1 g1 o1 (it_list h t) p⟩
theorem wi_tup {P : List D → Prop} (h : WE K B te δ fun d => ∃ ds, d = .tup ds ∧ P ds) : WI K B (iTup K te) δ P := fun G0 H0 σ G H R s q =>
  h G0 H0 σ G H _ s fun x a G1 H1 g1 o1 hx ⟨ds, e, p⟩ => by
    subst e
    cases hx with
    | tup h t => exact ⟨_, rfl, ⟨_, SqT.of (o1.u _ _ h)⟩, q _ ds G1 H1 g1 o1 (it_tup h t) p⟩
theorem wi_str {P : List D → Prop} (h : WE K B te δ fun d => ∃ z, d = .str z ∧ P (signs z)) : WI K B (iStr te) δ P := fun G0 H0 σ G H R s q =>
  h G0 H0 σ G H _ s fun x a G1 H1 g1 o1 hx ⟨z, e, p⟩ => by
    subst e
    cases hx
    exact ⟨z, rfl, q _ (signs z) G1 H1 g1 o1 it_str p⟩
/-- a for loop over names, by a word -/
theorem ws_for {wi : TI} {i : Nat} {t : TS} (h : WI K B wi δ fun its => ∃ I : Nat → List Sd → Prop, I 0 δ ∧ (∀ k d δ1, its[k]? = some d → I k δ1 → WS K B t (δ1.set i (.val d)) { nx := I (k + 1), rt := O.rt, bk := O.nx, ct := I (k + 1) }) ∧ ∀ δ1, I its.length δ1 → O.nx δ1) : WS K B (tFor wi (gName i) t) δ O := fun G0 H0 σ G H E s n r b c =>
  h G0 H0 σ G H _ s fun J its G1 H1 g1 o1 it ⟨I, i0, turn, last⟩ => by
    refine ⟨fun k m σ H => m = its.length - k ∧ k ≤ its.length ∧ ∃ G δ1, Stt K B G0 H0 G H σ δ1 ∧ Same G1 G ∧ I k δ1, ⟨_, rfl, Nat.zero_le _, G1, δ, s.on g1 o1, Same.refl _, i0⟩, ?_⟩
    rintro k m σ2 H2 ⟨rfl, hk, G2, δ2, s2, sm, ik⟩
    obtain ⟨f1, f2, f3⟩ := it G2 H2 k sm s2.ok
    by_cases hlt : k < its.length
    · refine .inr ⟨f1 hlt, fun σ' H' => ∃ G δ1, Stt K B G0 H0 G H' σ' δ1 ∧ Same G1 G ∧ I (k + 1) δ1, fun σ' H' hN => ⟨its.length - (k + 1), by omega, rfl, hlt, hN⟩, fun x H' y => ?_⟩
      obtain ⟨d, G3, e1, g3, o3, hd⟩ := f2 x H' hlt y
      have s3 := (s2.on g3 o3).setVal i hd
      have sm3 := sm.trans g3.s
      refine turn k d δ2 e1 ik G0 H0 _ G3 H' _ s3 (fun σ4 δ4 G4 H4 m4 s4 p4 => ⟨G4, δ4, s4, sm3.trans m4, p4⟩) r (fun σ4 δ4 G4 H4 m4 s4 p4 => n _ _ _ _ ((g1.s.trans sm3).trans m4) s4 p4) (fun σ4 δ4 G4 H4 m4 s4 p4 => ⟨G4, δ4, s4, sm3.trans m4, p4⟩)
    · have ek : k = its.length := by omega
      subst ek
      exact .inl ⟨f3 rfl, n _ _ _ _ (g1.s.trans sm) s2 (last δ2 ik)⟩
end
end Dl
namespace Dl
open PySem PySem.Spec PyProof.Rows L2
section
variable {K : PySem.W.Frag} {B : Addr} {δ : List Sd} {P P' : D → Prop} {ta tb te : TE} {tt tu : TT} {O : Out}
theorem wi_range1 {P : List D → Prop} {ta : TA} (h : WA K B ta δ fun ds => ∃ j : Int, ds = [.int j] ∧ -(2 ^ 62) ≤ j ∧ j < 2 ^ 62 ∧ P (upto 0 j.toNat)) : WI K B (iRng1 ta) δ P := fun G0 H0 σ G H R s q =>
  h G0 H0 σ G H _ s fun vs ds G1 H1 g1 o1 hs ⟨j, e, l1, l2, p⟩ => by
    subst e
    cases hs with
    | cons h t => cases t; cases h; exact ⟨j, rfl, l1, l2, q _ _ G1 H1 g1 o1 it_range p⟩
theorem wi_range2 {P : List D → Prop} {ta : TA} (h : WA K B ta δ fun ds => ∃ i j : Int, ds = [.int i, .int j] ∧ (-(2 ^ 62) ≤ i ∧ i < 2 ^ 62 ∧ -(2 ^ 62) ≤ j ∧ j < 2 ^ 62) ∧ P (upto i (j - i).toNat)) : WI K B (iRng2 ta) δ P := fun G0 H0 σ G H R s q =>
  h G0 H0 σ G H _ s fun vs ds G1 H1 g1 o1 hs ⟨i, j, e, l, p⟩ => by
    subst e
    cases hs with
    | cons h t =>
      cases t with
      | cons h2 t2 => cases t2; cases h; cases h2; exact ⟨i, j, rfl, l, q _ _ G1 H1 g1 o1 it_range p⟩
theorem wipe_set {σ : L2.St} {i : Nat} {v : V} : wipe ((wipe σ [i]).set i (some v)) [i] = wipe σ [i] := by
  show (((σ.set i none).set i (some v)).set i none) = σ.set i none
  rw [List.set_set, List.set_set]
/-- a comprehension of one clause over a name, by a word -/
theorem we_lc {wi : TI} {i : Nat} {te : TE} (h : WI K B wi δ fun its => its.length ≤ 1000 ∧ ∃ I : Nat → List D → Prop, I 0 [] ∧ (∀ k d acc, its[k]? = some d → I k acc → WT K B tt (δ.set i (.val d)) fun b => if b = true then WE K B te (δ.set i (.val d)) fun y => I (k + 1) (acc ++ [y]) else I (k + 1) acc) ∧ ∀ acc, I its.length acc → P (.lst acc)) :
    WE K B (tLc wi (gName i) tt te [i]) δ P := fun G0 H0 σ G H Q s q =>
  h G0 H0 σ G H _ s fun J its G1 H1 g1 o1 it ⟨hlen, I, i0, turn, last⟩ => by
    intro A hA
    have s1 := s.on g1 o1
    have q1 := q.on g1 o1
    have nAB := o1.neB hA
    have gA1 : G1 A = none := o1.fresh hA
    refine ⟨fun k m H => m = its.length - k ∧ k ≤ its.length ∧ ∃ G vs acc, Same G1 G ∧ G A = none ∧ (∀ a o, a ≠ B → a ≠ A → H1 a = some o → H a = some o) ∧ (∀ a, H1 a ≠ none → G1 a = none → G a = none) ∧ Ok B G H ∧ H A = some (.lst vs) ∧ Dds K B G vs acc ∧ acc.length ≤ k ∧ I k acc,
      ⟨_, rfl, Nat.zero_le _, G1, [], [], Same.refl _, gA1, fun a o _ hne e => by rw [upd_ne hne]; exact e, fun _ _ g => g, loose_ok o1 hA, upd_same, .nil, Nat.le_refl _, i0⟩, ?_⟩
    rintro k m H2 ⟨rfl, hk, G2, vs, acc, sm, gA, kp, fr, o2, hV, hD, hL, ik⟩
    obtain ⟨f1, f2, f3⟩ := it G2 H2 k sm o2
    have nn : ∀ (a : Addr), H1 a ≠ none → a ≠ A := fun a h e => h (e ▸ hA)
    -- from the state behind the iterator's coming to the present one, but for A
    have st : Stt K B G0 H0 G2 H2 σ δ := by
      refine ⟨⟨s1.go.s.trans sm, fun a o ne e => ?_, fun a h g => fr a ?_ (s1.go.n a h g)⟩, o2, s1.len, fun j d e => ?_, fun j ds e => ?_, s1.apart⟩
      · have e1 := s1.go.k a o ne e
        exact kp a o ne (nn a (by rw [e1]; exact fun z => nomatch z)) e1
      · by_cases eb : a = B
        · rw [eb]; exact o1.hb
        · cases hh : H0 a with
          | none => exact absurd hh h
          | some o => rw [s1.go.k a o eb hh]; exact fun z => nomatch z
      · obtain ⟨v, e1, e2⟩ := s1.val j d e
        exact ⟨v, e1, e2.mono sm⟩
      · obtain ⟨a, ws, e1, nb, e0, eg, eh, ed⟩ := s1.own j ds e
        have ne : H1 a ≠ none := by rw [eh]; exact fun z => nomatch z
        exact ⟨a, ws, e1, nb, e0, fr a ne eg, kp a _ nb (nn a ne) eh, ed.mono sm⟩
    by_cases hlt : k < its.length
    · refine .inr ⟨f1 hlt, fun H' => ∃ G vs acc, Same G1 G ∧ G A = none ∧ (∀ a o, a ≠ B → a ≠ A → H1 a = some o → H' a = some o) ∧ (∀ a, H1 a ≠ none → G1 a = none → G a = none) ∧ Ok B G H' ∧ H' A = some (.lst vs) ∧ Dds K B G vs acc ∧ acc.length ≤ k + 1 ∧ I (k + 1) acc,
        fun H' hN => ⟨its.length - (k + 1), by omega, rfl, hlt, hN⟩, fun x H3 y => ?_⟩
      obtain ⟨d, G3, e1, g3, o3, hd⟩ := f2 x H3 hlt y
      have s3 : Stt K B G0 H0 G3 H3 ((wipe σ [i]).set i (some x)) (δ.set i (.val d)) := by
        have z := ((st.on g3 o3).wipe1 i).setVal i hd
        rw [List.set_set (l := δ)] at z
        exact z
      have hV3 := g3.k A _ nAB hV
      have gA3 := g3.n A (by rw [hV]; exact fun z => nomatch z) gA
      refine ⟨wipe_set, turn k d acc e1 ik G0 H0 _ G3 H3 _ s3 fun b G4 H4 g4 o4 w => ?_⟩
      have go34 := g3.trans o3 g4
      have hV4 := g4.k A _ nAB hV3
      have gA4 := g4.n A (by rw [hV3]; exact fun z => nomatch z) gA3
      have kp4 : ∀ a o, a ≠ B → a ≠ A → H1 a = some o → H4 a = some o := fun a o nb na e => go34.k a o nb (kp a o nb na e)
      have fr4 : ∀ a, H1 a ≠ none → G1 a = none → G4 a = none := fun a h g => go34.n a (by
        by_cases eb : a = B
        · rw [eb]; exact o2.hb
        · cases hh : H1 a with
          | none => exact absurd hh h
          | some o => rw [kp a o eb (nn a h) hh]; exact fun z => nomatch z) (fr a h g)
      cases b with
      | false => exact ⟨G4, vs, acc, (sm.trans go34.s), gA4, kp4, fr4, o4, hV4, hD.mono go34.s, Nat.le_succ_of_le hL, w⟩
      | true =>
        refine w G0 H0 _ G4 H4 _ (s3.on g4 o4) fun y e G5 H5 g5 o5 hy w5 => ?_
        have hV5 := g5.k A _ nAB hV4
        have gA5 := g5.n A (by rw [hV4]; exact fun z => nomatch z) gA4
        refine ⟨vs, hV5, Nat.lt_of_le_of_lt (by rw [hD.length]; omega : vs.length ≤ 1000) (by decide), G5, vs ++ [y], acc ++ [e], (sm.trans go34.s).trans g5.s, gA5, fun a o nb na h => by rw [upd_ne na]; exact g5.k a o nb (kp4 a o nb na h), fun a h g => g5.n a (by
          by_cases eb : a = B
          · rw [eb]; exact o4.hb
          · cases hh : H1 a with
            | none => exact absurd hh h
            | some o => rw [kp4 a o eb (nn a h) hh]; exact fun z => nomatch z) (fr4 a h g), write_ok o5 gA5 nAB, upd_same, ((hD.mono go34.s).mono g5.s).append (.cons hy .nil), by rw [List.length_append, List.length_singleton]; omega, w5⟩
    · have ek : k = its.length := by omega
      subst ek
      refine .inl ⟨f3 rfl, q1 (.ref A) (.lst acc) (upd G2 A (.lst vs)) H2 ⟨sm.trans (same_upd gA), fun a o nb e => kp a o nb (nn a (by rw [e]; exact fun z => nomatch z)) e, fun a h g => ?_⟩ (freeze_ok o2 nAB gA hV) (.lst upd_same (hD.mono (same_upd gA))) (last acc ik)⟩
      rw [upd_ne (nn a h)]
      exact fr a h g
theorem getElem_mem' {α : Type} {xs : List α} {k : Nat} {d : α} (h : xs[k]? = some d) : d ∈ xs := List.mem_of_getElem? h
/-- .. each item once, by a function -/
theorem we_lcmap {wi : TI} {i : Nat} {te : TE} (f : D → D) (h : WI K B wi δ fun its => its.length ≤ 1000 ∧ (∀ d, d ∈ its → WE K B te (δ.set i (.val d)) fun y => y = f d) ∧ P (.lst (its.map f))) : WE K B (tLc wi (gName i) tYes te [i]) δ P :=
  we_lc fun G0 H0 σ G H R s q => h G0 H0 σ G H R s fun J its G1 H1 g1 o1 it ⟨l, w, p⟩ => q J its G1 H1 g1 o1 it ⟨l, fun k acc => acc = (its.take k).map f, rfl, fun k d acc e ea => wt_yes (by
    show WE K B te _ _
    refine (w d (getElem_mem' e)).mono fun y ey => ?_
    show acc ++ [y] = (its.take (k + 1)).map f
    have ea' : acc = (its.take k).map f := ea
    rw [ey, ea', List.take_add_one, e, List.map_append]
    rfl), fun acc ea => by rw [ea, List.take_length]; exact p⟩
/-- .. each item by some answer with a property -/
theorem we_lcall {wi : TI} {i : Nat} {te : TE} (R : D → Prop) (h : WI K B wi δ fun its => its.length ≤ 1000 ∧ (∀ d, d ∈ its → WE K B te (δ.set i (.val d)) R) ∧ ∀ acc, acc.length = its.length → (∀ d ∈ acc, R d) → P (.lst acc)) : WE K B (tLc wi (gName i) tYes te [i]) δ P :=
  we_lc fun G0 H0 σ G H Rr s q => h G0 H0 σ G H Rr s fun J its G1 H1 g1 o1 it ⟨l, w, p⟩ => q J its G1 H1 g1 o1 it ⟨l, fun k acc => acc.length = k ∧ ∀ d ∈ acc, R d, ⟨rfl, fun _ z => nomatch z⟩, fun k d acc e ⟨el, ea⟩ => wt_yes (by
    show WE K B te _ _
    refine (w d (getElem_mem' e)).mono fun y ey => ⟨by rw [List.length_append, el]; rfl, fun z hz => ?_⟩
    rcases List.mem_append.mp hz with hz | hz
    · exact ea z hz
    · rw [List.mem_singleton.mp hz]; exact ey), fun acc ⟨el, ea⟩ => p acc el ea⟩
/-- a while loop by a word and a measure -/
theorem ws_while {t : TS} (I : Nat → List Sd → Prop) (h0 : ∃ m, I m δ) (h : ∀ m δ1, I m δ1 → WT K B tt δ1 fun b => if b = true then WS K B t δ1 { nx := fun δ2 => ∃ m', m' < m ∧ I m' δ2, rt := O.rt, bk := O.nx, ct := fun δ2 => ∃ m', m' < m ∧ I m' δ2 } else O.nx δ1) : WS K B (tWhile tt t) δ O := fun G0 H0 σ G H E s n r b c => by
  obtain ⟨m0, i0⟩ := h0
  refine ⟨fun m σ H1 => ∃ G1 δ1, Stt K B G0 H0 G1 H1 σ δ1 ∧ Same G G1 ∧ I m δ1, ⟨m0, G, δ, s, Same.refl _, i0⟩, ?_⟩
  rintro m σ1 H1 ⟨G1, δ1, s1, sm, im⟩
  refine h m δ1 im G0 H0 σ1 G1 H1 _ s1 fun k G2 H2 g2 o2 w => ?_
  have s2 := s1.on g2 o2
  have sm2 := sm.trans g2.s
  cases k with
  | false => exact n _ _ _ _ sm2 s2 w
  | true =>
    refine ⟨fun σ' H' => ∃ m', m' < m ∧ ∃ G1 δ1, Stt K B G0 H0 G1 H' σ' δ1 ∧ Same G G1 ∧ I m' δ1, fun σ' H' ⟨m', hm, z⟩ => ⟨m', hm, z⟩, ?_⟩
    exact w G0 H0 σ1 G2 H2 _ s2 (fun σ3 δ3 G3 H3 m3 s3 ⟨m', hm, z⟩ => ⟨m', hm, G3, δ3, s3, sm2.trans m3, z⟩) r (fun σ3 δ3 G3 H3 m3 s3 p => n _ _ _ _ (sm2.trans m3) s3 p) (fun σ3 δ3 G3 H3 m3 s3 ⟨m', hm, z⟩ => ⟨m', hm, G3, δ3, s3, sm2.trans m3, z⟩)
end

/-! ### defs -/
def init (N : List Str) (ds : List D) : List Sd := ds.map .val ++ List.replicate (N.length - ds.length) .no
section
variable {P : Program} {w : World} {K : PySem.W.Frag} {mg : Str → Option Value} {base : Heap}
theorem stt_start {B : Addr} {G H : Hp} {N : List Str} {vs : List V} {ds : List D} (o : Ok B G H) (h : Dds K B G vs ds) : Stt K B G H G H (L2.start N vs) (init N ds) := by
  have l := h.length
  refine ⟨Go.refl, o, ?_, fun i d e => ?_, fun i es e => ?_, fun i j es fs a e1 e2 e3 e4 => ?_⟩
  · unfold L2.start init
    simp only [List.length_append, List.length_map, List.length_replicate, l]
  · unfold init at e
    unfold L2.start
    rw [List.getElem?_append] at e ⊢
    rw [List.length_map] at e ⊢
    by_cases hi : i < ds.length
    · rw [if_pos hi, List.getElem?_map, List.getElem?_eq_getElem hi] at e
      obtain ⟨v, e1, e2⟩ := h.get (List.getElem?_eq_getElem hi)
      have e' : ds[i] = d := by simpa using e
      rw [if_pos (by omega), List.getElem?_map, e1]
      exact ⟨v, rfl, e' ▸ e2⟩
    · rw [if_neg hi, List.getElem?_replicate] at e
      split at e <;> cases e
  · unfold init at e
    rw [List.getElem?_append, List.length_map] at e
    by_cases hi : i < ds.length
    · rw [if_pos hi, List.getElem?_map, List.getElem?_eq_getElem hi] at e
      cases e
    · rw [if_neg hi, List.getElem?_replicate] at e
      split at e <;> cases e
  · unfold init at e1
    rw [List.getElem?_append, List.length_map] at e1
    by_cases hi : i < ds.length
    · rw [if_pos hi, List.getElem?_map, List.getElem?_eq_getElem hi] at e1
      cases e1
    · rw [if_neg hi, List.getElem?_replicate] at e1
      split at e1 <;> cases e1
/-- a def that may be called by its name -/
structure Cl (P : Program) (w : World) (K : PySem.W.Frag) (mg : Str → Option Value) (base : Heap) (k : Nat) (x : Str) (st : Stmt) (ps : List Str) (sp : Sp) : Prop where
  ex : ∃ (f : Addr) (fd : FuncData), Fun K x x st f fd ∧ FnOk P w K mg base CX0 k f fd ps sp ∧ mg x = some (.ref f) ∧ Binds K fd ps []
/-- .. by keywords alone -/
structure Ck (P : Program) (w : World) (K : PySem.W.Frag) (mg : Str → Option Value) (base : Heap) (k : Nat) (x : Str) (ks : List Str) (sp : Sp) (gV : List V → List V) : Prop where
  ex : ∃ (f : Addr) (fd : FuncData) (ps : List Str) (g : List Value → List Value), FnOk P w K mg base CX0 k f fd ps sp ∧ mg x = some (.ref f) ∧ PySem.W.keepIn K (.ref f) = true ∧ KBn K fd ps 0 ks (fun _ ws => g ws) (fun _ zs => gV zs)
/-- a def of the text as it stands behind the top -/
structure Df (K : PySem.W.Frag) (mg : Str → Option Value) (x : Str) (st : Stmt) : Prop where
  ex : ∃ (f : Addr) (fd : FuncData), Fun K x x st f fd ∧ mg x = some (.ref f)
theorem cl_of {x : Str} {st : Stmt} {N ps : List Str} {k : Nat} {pre : List D → Prop} {post : List D → D → Prop} (F : Df K mg x st) (S : FnScope N ps (defScope st))
    (hb : ∀ (kV doc pm : Value) (an : Option Addr) (cdv ct : Value) (us : List Value), us.length = ps.length → bindArgs (PySem.W.fnOf x x (defArgs st) (defBody st) (defScope st) .none kV doc pm an cdv ct) ⟨us, []⟩ = pure (ps.zip us))
    (hl : ∀ ds, pre ds → ds.length = ps.length)
    (h : ∀ (f : Addr) (cdv : Value) (A : Around) (outer : List Env) (s : Shared) (H : Hp) (E : XK), Room k (A.deeper (envOfC x (defScope st) s.heap.objs.size f cdv)) →
      ∃ t, PSs (cxOf CX0 P w K mg base N x (defScope st) f cdv A outer s H E).nox (defBody st) t ∧ ∀ B ds, pre ds → WS K B t (init N ds) { nx := fun _ => post ds .non, rt := post ds }) : Cl P w K mg base (k + 1) x st ps (SpD K pre post) := by
  obtain ⟨f, fd, F, hm⟩ := F.ex
  refine ⟨f, fd, F, F.ok S (fun vs H Q E hsp => ?_) (fun cdv A outer s H vs Q E hr hsp => ?_), hm, F.binds hb⟩
  · obtain ⟨B, G, ds, o, hs, p, q⟩ := hsp
    exact hs.length.trans (hl ds p)
  · obtain ⟨B, G, ds, o, hs, p, q⟩ := hsp
    obtain ⟨t, ht, ww⟩ := h f cdv A outer s H E hr
    exact ⟨t, ht, ww B ds p G H _ G H _ (stt_start o hs) (fun σ1 δ1 G1 H1 _ s1 z => q .non .non G1 H1 s1.go s1.ok .non z) (fun v d G1 H1 g o1 hd z => q v d G1 H1 g o1 hd z) (fun _ _ _ _ _ _ z => z.elim) (fun _ _ _ _ _ _ z => z.elim)⟩
theorem Cl.imp {k : Nat} {x : Str} {st : Stmt} {ps : List Str} {sp sp' : Sp} (c : Cl P w K mg base k x st ps sp) (h : ∀ vs H Q E, sp' vs H Q E → sp vs H Q E) : Cl P w K mg base k x st ps sp' := by
  obtain ⟨f, fd, F0, F, r⟩ := c.ex
  exact ⟨f, fd, F0, F.imp h, r⟩
theorem ck_of {x : Str} {st : Stmt} {k : Nat} {ps ks : List Str} {sp : Sp} {gV : List V → List V} (c : Cl P w K mg base k x st ps sp) (g : List Value → List Value)
    (hb : ∀ (kV doc pm : Value) (an : Option Addr) (cdv ct : Value) (ws : List Value), ws.length = ks.length → bindArgs (PySem.W.fnOf x x (defArgs st) (defBody st) (defScope st) .none kV doc pm an cdv ct) ⟨[], ks.zip ws⟩ = pure (ps.zip (g ws)))
    (hr : ∀ {zs : List V} {ws : List Value}, Vals zs ws → Vals (gV zs) (g ws)) : Ck P w K mg base k x ks sp gV := by
  obtain ⟨f, fd, F, G, hm, _⟩ := c.ex
  have kp := F.kp
  obtain ⟨oc, od, kV, doc, pm, an, cdv, ct, osl, rfl, lk, hcd⟩ := F.ex
  refine ⟨f, _, ps, g, G, hm, kp, ⟨fun s us ws _ l1 l2 => ?_, fun _ r => hr r⟩⟩
  have e : us = [] := List.length_eq_zero_iff.mp l1
  subst e
  exact .of_eq (hb kV doc pm an cdv ct ws l2)
end
section
variable {X : Cx} {k j : Nat} {x : Str} {st : Stmt} {ps ks : List Str} {sp : Sp} {p pos : Pos} {e : Expr} {es : List Expr} {t tk : TA} {kws : List Keyword} {gV : List V → List V}
theorem pe_c (c : Cl X.prog X.w X.K X.mg X.base k x st ps sp) (hr : Room j X.A) (hk : k ≤ j) (hg : Gl X x) (ha : PA X (e :: es) t)
    (hdb : (x == ("__debug__" : Str)) = false := by decide) (he : starEach (e :: es) X.env = (false, eval e X.env) :: starEach es X.env := by rfl) (hpl : (backTo pos (starEach es X.env)).any (·.1) = false := by rfl) :
    PE X (.Call (.Name x p) (e :: es) [] pos) (tCall sp [] E0 t) := by
  obtain ⟨f, fd, F0, F, hm, b⟩ := c.ex
  exact pe_call F (hr.mono hk) hg hm F0.kp b .nil pass0 ha hdb he hpl
theorem pe_c0 (c : Cl X.prog X.w X.K X.mg X.base k x st ps sp) (hr : Room j X.A) (hk : k ≤ j) (hg : Gl X x) (hdb : (x == ("__debug__" : Str)) = false := by decide) :
    PE X (.Call (.Name x p) [] [] pos) (tCall sp [] E0 tNil) := by
  obtain ⟨f, fd, F0, F, hm, b⟩ := c.ex
  exact pe_call0 F (hr.mono hk) hg hm F0.kp b .nil pass0 hdb
/-- f(k = v, ..) -/
def tCk (m : Nat) (sp : Sp) (gV : List V → List V) (tk : TA) : TE := fun σ H Q => tk σ H fun zs H2 => zs.length = m ∧ sp (gV zs) H2 Q E0
theorem pe_ck (c : Ck X.prog X.w X.K X.mg X.base k x ks sp gV) (hr : Room j X.A) (hk : k ≤ j) (hg : Gl X x) (hkw : PK X kws tk)
    (hall : (backToKw pos (keywordEach kws X.env)).all (·.1.isSome) = true := by rfl) (hks : (backToKw pos (keywordEach kws X.env)).filterMap (·.1) = ks := by rfl) (hdb : (x == ("__debug__" : Str)) = false := by decide)
    (hpl : ((backTo pos (starEach [] X.env)).any (·.1) || (backToKw pos (keywordEach kws X.env)).any (·.1.isNone)) = false := by rfl) :
    PE X (.Call (.Name x p) [] kws pos) (tCk ks.length sp gV tk) := by
  obtain ⟨f, fd, ps, g, F, hm, kp, b⟩ := c.ex
  refine ⟨fun pins s σ H Q I h => ?_⟩
  refine wpAny_Call_Name_kw (ld_glob I hg hm ?_ hdb)
  refine PySem.W.callWith_KW0 (h₀ := X.base) I.ok.mod.kin kp hall ?_ hpl
  refine thn (hkw.run pos pins s σ H _ I h) fun ws s2 ⟨zs, H2, I2, rz, l2, q2⟩ => ⟨I2.kIn, ?_⟩
  rw [hks]
  exact run_fnN F (hr.mono hk) b pass0 I2 .nil rz rfl l2 q2
end
section
variable {K : PySem.W.Frag} {B : Addr} {δ : List Sd} {P : D → Prop}
theorem we_ck {pre : List D → Prop} {post : List D → D → Prop} {m : Nat} {gV : List V → List V} {gD : List D → List D} {tk : TA} (hg : ∀ G vs ds, Dds K B G vs ds → Dds K B G (gV vs) (gD ds)) (h : WA K B tk δ fun ds => ds.length = m ∧ pre (gD ds) ∧ ∀ d, post (gD ds) d → P d) : WE K B (tCk m (SpD K pre post) gV tk) δ P := fun G0 H0 σ G H Q s q =>
  h G0 H0 σ G H _ s fun vs ds G1 H1 g1 o1 hs ⟨l, p, mm⟩ =>
    ⟨hs.length.trans l, B, G1, gD ds, o1, hg _ _ _ hs, p, fun v d G2 H2 g2 o2 hd pd => (q.on g1 o1) v d G2 H2 g2 o2 hd (mm d pd)⟩
end
end Dl
namespace Dl
open PySem PySem.Spec PyProof.Rows L2
section
variable {K : PySem.W.Frag} {B : Addr} {P : D → Prop} {a : D}
def isInt : D → Bool | .int _ => true | .bl _ => true | _ => false
def isBool : D → Bool | .bl _ => true | _ => false
def isStr : D → Bool | .str _ => true | _ => false
def isTup : D → Bool | .tup _ => true | _ => false
def isLst : D → Bool | .lst _ => true | .box => true | _ => false
def isDic : D → Bool | .dic _ _ => true | _ => false
theorem rc_int (nc : a.isCls = false) (p : P (.bl (isInt a))) : RC K B (rIsi K) [a, .cls "int"] P := by
  cases a <;> first | (exact Bool.noConfusion nc) | exact rc_isi rfl (by dsimp only [D.tyn, isInt, isBool, isStr, isTup, isLst, isDic]; decide +kernel) p
theorem rc_bool (nc : a.isCls = false) (p : P (.bl (isBool a))) : RC K B (rIsi K) [a, .cls "bool"] P := by
  cases a <;> first | (exact Bool.noConfusion nc) | exact rc_isi rfl (by dsimp only [D.tyn, isInt, isBool, isStr, isTup, isLst, isDic]; decide +kernel) p
theorem rc_str (nc : a.isCls = false) (p : P (.bl (isStr a))) : RC K B (rIsi K) [a, .cls "str"] P := by
  cases a <;> first | (exact Bool.noConfusion nc) | exact rc_isi rfl (by dsimp only [D.tyn, isInt, isBool, isStr, isTup, isLst, isDic]; decide +kernel) p
theorem rc_tuple (nc : a.isCls = false) (p : P (.bl (isTup a))) : RC K B (rIsi K) [a, .cls "tuple"] P := by
  cases a <;> first | (exact Bool.noConfusion nc) | exact rc_isi rfl (by dsimp only [D.tyn, isInt, isBool, isStr, isTup, isLst, isDic]; decide +kernel) p
theorem rc_list (nc : a.isCls = false) (p : P (.bl (isLst a))) : RC K B (rIsi K) [a, .cls "list"] P := by
  cases a <;> first | (exact Bool.noConfusion nc) | exact rc_isi rfl (by dsimp only [D.tyn, isInt, isBool, isStr, isTup, isLst, isDic]; decide +kernel) p
theorem rc_dict (nc : a.isCls = false) (p : P (.bl (isDic a))) : RC K B (rIsi K) [a, .cls "dict"] P := by
  cases a <;> first | (exact Bool.noConfusion nc) | exact rc_isi rfl (by dsimp only [D.tyn, isInt, isBool, isStr, isTup, isLst, isDic]; decide +kernel) p
theorem rc_lt (nc : a.isCls = false) (p : P (.bl (isLst a || isTup a))) : RC K B (rIsiT K) [a, .tup [.cls "list", .cls "tuple"]] P := by
  cases a <;> first | (exact Bool.noConfusion nc) | exact rc_isi2 rfl (by dsimp only [D.tyn, isLst, isTup]; decide +kernel) (by dsimp only [D.tyn, isLst, isTup]; decide +kernel) p
theorem rc_allf {f : D → Bool} {xs : List D} (p : P (.bl (xs.all f))) : RC K B (rAll K) [.lst (xs.map fun d => .bl (f d))] P := by
  have e : (xs.map fun d => D.bl (f d)) = (xs.map f).map D.bl := by rw [List.map_map]; rfl
  rw [e]
  refine rc_all ?_
  rw [List.all_map]
  exact p
theorem ro_inC {c : Nat} {z : Str} (p : P (.bl (decide (c ∈ z.cps.toList)))) : RO K B (fun x y H Q => ∃ (c : Nat) (z : Str), x = .str ⟨#[c]⟩ ∧ y = .str z ∧ Q (.bl (decide (c ∈ z.cps.toList))) H) (.str ⟨#[c]⟩) (.str z) P := fun _ _ _ _ _ o hx hy q => by
  cases hx; cases hy
  exact ⟨c, z, rfl, rfl, q.nil o (.bl _) p⟩
variable {δ : List Sd}
theorem we_callF {pre : List D → Prop} {F : List D → D} {E : XK} {t : TA} (h : WA K B t δ fun ds => pre ds ∧ P (F ds)) : WE K B (tCall (SpD K pre fun ds r => r = F ds) [] E t) δ P := we_call fun G0 H0 σ G H Q s q => h G0 H0 σ G H Q s fun vs ds G1 H1 g o hs ⟨a, b⟩ => q vs ds G1 H1 g o hs ⟨a, fun _ e => e ▸ b⟩
def p1 (q : D → Prop) : List D → Prop | [d] => q d | _ => False
def p2 (q : D → D → Prop) : List D → Prop | [a, b] => q a b | _ => False
def p3 (q : D → D → D → Prop) : List D → Prop | [a, b, c] => q a b c | _ => False
def f1 (f : D → D) : List D → D | [d] => f d | _ => .non
def f2 (f : D → D → D) : List D → D | [a, b] => f a b | _ => .non
def f3 (f : D → D → D → D) : List D → D | [a, b, c] => f a b c | _ => .non
theorem p1_len {q : D → Prop} : ∀ ds, p1 q ds → ds.length = 1 | [_], _ => rfl
theorem p2_len {q : D → D → Prop} : ∀ ds, p2 q ds → ds.length = 2 | [_, _], _ => rfl
theorem p3_len {q : D → D → D → Prop} : ∀ ds, p3 q ds → ds.length = 3 | [_, _, _], _ => rfl
theorem p1_ex {q : D → Prop} : ∀ {ds}, p1 q ds → ∃ d, ds = [d] ∧ q d | [d], h => ⟨d, rfl, h⟩
theorem p2_ex {q : D → D → Prop} : ∀ {ds}, p2 q ds → ∃ a b, ds = [a, b] ∧ q a b | [a, b], h => ⟨a, b, rfl, h⟩
theorem p3_ex {q : D → D → D → Prop} : ∀ {ds}, p3 q ds → ∃ a b c, ds = [a, b, c] ∧ q a b c | [a, b, c], h => ⟨a, b, c, rfl, h⟩
end
end Dl
namespace Dl
open PySem PySem.Spec PyProof.Rows L2 HT
section
variable {prog : Program} {w : World} {A : Around} {E : Value → Shared → Prop} {s : Shared}
theorem sliceApplied_rev2 {sl : Addr} {tk : Tok} {Q : Int × Int × Nat → Shared → Prop} (hs : s.heap.IsSliceOf sl .none .none (.int (-1) tk))
    (h : Q (1, -1, 2) s) : wpAny (model prog w) A (Builtin.Slice.sliceApplied (.ref sl) (pure ((2 : Nat) : Int))) Q E s := by
  obtain ⟨os, hos, hcs, hds⟩ := id hs
  unfold Builtin.Slice.sliceApplied Builtin.Slice.sliceFields
  refine wpAny_bind (wpAny_bind (wpAny_field hos hds (x := .none) rfl (wpAny_bind (wpAny_field hos hds (x := .none) rfl (wpAny_bind (wpAny_field hos hds (x := .int (-1) tk) rfl (wpAny_pure ?_)))))))
  refine wpAny_bind (slicePart_int ?_)
  show wpAny _ _ (if ((-1 : Int) == 0) = true then _ else _) _ _ s
  rw [if_neg (by decide)]
  refine wpAny_bind (slicePart_none (wpAny_bind (slicePart_none (wpAny_bind (wpAny_pure ?_)))))
  exact wpAny_pure h
theorem getItem_tuple_rev2 {t sl : Addr} {a b : Value} {tk : Tok} {Q : Value → Shared → Prop} (ht : IsTup s.heap t #[a, b]) (hs : s.heap.IsSliceOf sl .none .none (.int (-1) tk))
    (h : Q (.ref s.heap.objs.size) { s with heap := s.heap.push { cls := .type "tuple", data := .seq #[b, a] } }) : wpAny (model prog w) A (getItem (.ref t) (.ref sl)) Q E s := by
  have htake : sizeOk (.seq #[b, a]) := by
    show 2 ≤ sizeLine
    decide
  obtain ⟨os, hos, hcs, hds⟩ := id hs
  have hTs : s.TypeIs (.ref sl) "slice" := ⟨os, hos, hcs⟩
  unfold getItem
  try with_reducible refine wpAny_holding ?_
  first | refine wpAny_bind (wpAny_pure ?_) | skip
  refine wpAny_bind (wpAny_sequenceKey ht.typeIs (by decide) ?_)
  refine wpAny_bind (wpAny_callSpecial?_slot (name := Str.ofString "__getitem__") ht.typeIs PyProof.Rows.slot_tuple_getitem
    (wpAny_call_entry PyProof.Rows.slot_tuple_getitem ht.typeIs entry_tuple_getitem ?_ (args_tuple_getitem _ _)))
  show wpAny _ _ (Builtin.Tuple.tupleItemsOf (.ref t) >>= _) _ _ s
  refine wpAny_bind (tupleItemsOf_ ht ?_)
  refine wpAny_bind (wpAny_typeOf hTs ?_)
  rw [if_pos (by decide)]
  refine wpAny_bind (sliceApplied_rev2 hs ?_)
  show wpAny _ _ (if ((1 : Int) == 0 && (-1 : Int) == 1 && (2 : Nat) == 2) = true then _ else _) _ _ s
  rw [if_neg (by decide)]
  have e : ((List.range 2).filterMap fun (m : Nat) => (#[a, b] : Array Value)[((1 : Int) + (m : Int) * -1).toNat]?).toArray = #[b, a] := rfl
  rw [e]
  first
    | exact wpAny_bind (m := Builtin.Tuple.tupleExact _) (wpAny_newObj_type (wpAny_pure ⟨_, rfl, wpAny_pure h⟩) htake)
    | exact wpAny_bind (m := Builtin.Tuple.tupleExact _) (wpAny_newObj_type (wpAny_bind (wpAny_pure (wpAny_pure ⟨_, rfl, wpAny_pure h⟩))) htake)
    | exact wpAny_bind (wpAny_bind (m := Builtin.Tuple.tupleExact _) (wpAny_newObj_type (wpAny_pure (wpAny_pure ⟨_, rfl, wpAny_pure h⟩)) htake))
    | exact wpAny_bind (wpAny_bind (m := Builtin.Tuple.tupleExact _) (wpAny_newObj_type (wpAny_pure ⟨_, rfl, wpAny_pure h⟩) htake))
end
section
variable {X : Cx}
/-- t[::-1] of a pair -/
def tRev2 (K : PySem.W.Frag) (te : TE) : TE := fun σ H Q => te σ H fun x H1 => ∃ a u v, x = .ref a ∧ SqT K H1 a [u, v] ∧ ∀ p, H1 p = none → Q (.ref p) (upd H1 p (.tup [v, u]))
theorem pe_revT {e : Expr} {te : TE} {k : Nat} {p1 p2 p3 pos : Pos} (he : PE X e te) : PE X (.Subscript e (.Slice none none (some (.UnaryOp .USub (.Constant (.int 1) k p1) p2)) p3) pos) (tRev2 X.K te) := by
  refine ⟨fun pins s σ H Q I h => ?_⟩
  refine Subscript_ (thn (he.run pins s σ H _ I h) fun v s1 ⟨x, H1, I1, r1, q1⟩ => ?_)
  obtain ⟨a, u, z, ex, hx, q⟩ := q1
  subst ex
  cases r1
  have hst : PO X (some (.UnaryOp .USub (.Constant (.int 1) k p1) p2)) (tPart (tUn (rU fun i => .int (-i)) (tC (.int 1)))) := po_some (pe_un un_neg pe_int)
  refine wpAny_Slice (thn (po_none.run pins s1 σ H1 (fun o H2 => o = none ∧ H2 = H1) I1 ⟨rfl, rfl⟩) fun vl s2 ⟨l, H2, I2, pl, el, e2⟩ => ?_)
  subst el e2
  refine thn (po_none.run pins s2 σ H2 (fun o H3 => o = none ∧ H3 = H2) I2 ⟨rfl, rfl⟩) fun vu s3 ⟨u', H3, I3, pu, eu, e3⟩ => ?_
  subst eu e3
  refine thn (hst.run pins s3 σ H3 (fun o H4 => o = some (-1) ∧ H4 = H3) I3 ⟨1, rfl, -1, rfl, rfl, rfl⟩) fun vs s4 ⟨o, H4, I4, ps, eo, e4⟩ => ?_
  subst eo e4
  have I5 : Inv X pins σ H4 { s4 with heap := s4.heap.push { cls := .type "slice", data := .fields #[vl, vu, vs] } } := I4.kept (t' := s4.toks) fun b ob q => Heap.get?_push_of_some _ q
  obtain ⟨its, r, ht, hz⟩ := I5.tuple hx
  obtain ⟨w1, w2, rfl, rw1, rw2⟩ := vals2 r
  cases pl
  cases pu
  cases ps with
  | int _ tk =>
    show wpAny (model X.prog X.w) X.A (subscriptTail e (.Slice none none (some (.UnaryOp .USub (.Constant (.int 1) k p1) p2)) p3) (.ref a) (.ref s4.heap.objs.size)) (EP X pins σ Q) X.xe { s4 with heap := s4.heap.push { cls := .type "slice", data := .fields #[.none, .none, .int (-1) tk] } }
    refine tail_any (ops := [.ref a, .ref s4.heap.objs.size]) ht.typeIs (PyProof.Rows.slot_tuple_getitem.lookup) ?_ (by with_unfolding_all rfl)
    refine getItem_tuple_rev2 ht (Heap.IsSliceOf.new _ _ _ _) ?_
    refine ⟨.ref _, _, I5.laid (t' := s4.toks) (o := .tup [z, u]) (fun b ob q => Heap.get?_push_of_some _ q) (Nat.le_refl _) ?_, rfl, q _ (I5.hok.fresh (Nat.le_refl _))⟩
    exact ⟨by show 2 ≤ sizeLine; decide, [w2, w1], .cons rw2 (.cons rw1 .nil), IsTup.new _ _⟩
/-- list(text) -/
theorem call_list_str (hc : X.calm = true) : CallR X (.type "list") (fun xs H Q => ∃ z, xs = [.str z] ∧ z.length ≤ sizeLine ∧ ∀ l, H l = none → Q (.ref l) (upd H l (.lst (z.cps.toList.map fun c => .str ⟨#[c]⟩)))) := by
  intro pins s σ H xs us Q I r h
  obtain ⟨z, rfl, hz, q⟩ := h
  obtain ⟨u, rfl, rx⟩ := vals1 r
  obtain ⟨t, rfl⟩ := rx
  refine PySem.call_list_str (I.ok.hd hc) z t (fun h' tk acc c' kp e it => ?_) hz
  obtain ⟨h1, h2⟩ := it
  have hv : Vals (z.cps.toList.map fun c => V.str ⟨#[c]⟩) acc.toList := by
    refine vals_of_idx _ _ (by rw [List.length_map, Array.length_toList, Array.length_toList, h1]) fun j u hu => ?_
    rw [Array.getElem?_toList] at hu
    obtain ⟨c, tk', e1, rfl⟩ := h2 j u hu
    exact ⟨.str ⟨#[c]⟩, by rw [List.getElem?_map, Array.getElem?_toList, e1]; rfl, tk', rfl⟩
  refine ⟨.ref s.heap.objs.size, _, I.laid (t' := tk) (o := .lst (z.cps.toList.map fun c => V.str ⟨#[c]⟩)) kp (Nat.le_refl _) ?_, rfl, q _ (I.hok.fresh (Nat.le_refl _))⟩
  exact ⟨by rw [List.length_map, Array.length_toList]; exact hz, acc.toList, c', hv, by rw [Array.toArray_toList]; exact e⟩
end
section
variable {K : PySem.W.Frag} {B : Addr} {δ : List Sd} {P : D → Prop} {te : TE}
theorem we_rev2 (h : WE K B te δ fun d => ∃ a b, d = .tup [a, b] ∧ P (.tup [b, a])) : WE K B (tRev2 K te) δ P := fun G0 H0 σ G H Q s q =>
  h G0 H0 σ G H _ s fun x d G1 H1 g1 o1 hx ⟨a, b, e, p⟩ => by
    subst e
    cases hx with
    | tup hg t =>
      cases t with
      | cons h1 t =>
        cases t with
        | cons h2 t =>
          cases t
          exact ⟨_, _, _, rfl, SqT.of (o1.u _ _ hg), fun r hr => (q.on g1 o1).new o1 hr (.tup upd_same (.cons (h2.mono (same_upd (o1.fresh hr))) (.cons (h1.mono (same_upd (o1.fresh hr))) .nil))) p⟩
theorem dds_signs {G : Hp} : ∀ cs : List Nat, Dds K B G (cs.map fun c => V.str ⟨#[c]⟩) (cs.map fun c => D.str ⟨#[c]⟩)
  | [] => .nil
  | c :: r => .cons (.str _) (dds_signs r)
theorem rc_listS {z : Str} (l : z.length ≤ 1000) (p : P (.lst (Dl.signs z))) : RC K B (fun xs H Q => ∃ z, xs = [.str z] ∧ z.length ≤ sizeLine ∧ ∀ l, H l = none → Q (.ref l) (upd H l (.lst (z.cps.toList.map fun c => .str ⟨#[c]⟩)))) [.str z] P := fun _ _ _ _ o hs q => by
  cases hs with
  | cons h t =>
    cases t
    cases h
    exact ⟨z, rfl, sz1000 l, fun a ha => q.new o ha (.lst upd_same (dds_signs _)) p⟩
end
end Dl
namespace K01
open PySem PySem.Spec PyProof.Rows L2 Dl
/-! ### the text -/
def topS (i : Nat) : Stmt := PySem.Challenge.pw_stucklots_k01_words_judged.main.body.getD i (.Pass ⟨0, 0, 0, 0⟩)
theorem pe_gi {X : Cx} {x : Str} {pos : Pos} {i : Int} (hg : Gl X x) (h : ∃ t, X.mg x = some (.int i t)) (hdb : (x == ("__debug__" : Str)) = false := by decide) : PE X (.Name x pos) (tC (.int i)) := by
  obtain ⟨t, e⟩ := h
  exact pe_glob hg e ⟨t, rfl⟩ hdb
theorem pe_gs {X : Cx} {x : Str} {pos : Pos} {z : Str} (hg : Gl X x) (h : ∃ t, X.mg x = some (.str z t)) (hdb : (x == ("__debug__" : Str)) = false := by decide) : PE X (.Name x pos) (tC (.str z)) := by
  obtain ⟨t, e⟩ := h
  exact pe_glob hg e ⟨t, rfl⟩ hdb
/-- what the top's names are -/
structure Gn (mg : Str → Option Value) : Prop where
  g_isinstance : mg "isinstance" = none
  g_int : mg "int" = none
  g_bool : mg "bool" = none
  g_str : mg "str" = none
  g_tuple : mg "tuple" = none
  g_list : mg "list" = none
  g_dict : mg "dict" = none
  g_len : mg "len" = none
  g_abs : mg "abs" = none
  g_all : mg "all" = none
  g_range : mg "range" = none
  g_gcd : mg "gcd" = some (.builtin "math.gcd")
  g_LETTERS : ∃ t, mg "LETTERS" = some (.str "abcdefghijklmnopqrstuvwxyz" t)
  g_DIGITS : ∃ t, mg "DIGITS" = some (.str "0123456789" t)
  g_MOST_LETTERS : ∃ t, mg "MOST_LETTERS" = some (.int 6 t)
  g_MOST_DIGITS : ∃ t, mg "MOST_DIGITS" = some (.int 9 t)
  g_POINT_BOUND : ∃ t, mg "POINT_BOUND" = some (.int 200 t)
  g_DIRECTION_BOUND : ∃ t, mg "DIRECTION_BOUND" = some (.int 999 t)
/-! ### data -/
mutual
def sm : D → Bool
  | .str z => decide (z.length ≤ 1000)
  | .tup xs => decide (xs.length ≤ 1000) && sms xs
  | .lst xs => decide (xs.length ≤ 1000) && sms xs
  | .cls _ => false
  | .box => false
  | _ => true
def sms : List D → Bool
  | [] => true
  | x :: xs => sm x && sms xs
end
theorem sm_cls {d : D} (h : sm d = true) : d.isCls = false := by
  cases d <;> first | rfl | (exact Bool.noConfusion h)
theorem sms_mem : ∀ {xs : List D} {x : D}, sms xs = true → x ∈ xs → sm x = true
  | y :: ys, x, h, m => by
    have h' : (sm y && sms ys) = true := h
    rw [Bool.and_eq_true] at h'
    rcases List.mem_cons.mp m with e | m
    · rw [e]; exact h'.1
    · exact sms_mem h'.2 m
theorem sm_tup {xs : List D} (h : sm (.tup xs) = true) : xs.length ≤ 1000 ∧ sms xs = true := by
  have h' : (decide (xs.length ≤ 1000) && sms xs) = true := h
  rw [Bool.and_eq_true, decide_eq_true_eq] at h'
  exact h'
def isNum : D → Bool
  | .int _ => true
  | _ => false
local macro_rules | `(tactic| walk_at "dl") => `(tactic| first
  | (with_reducible refine ws_seq ?_) | (with_reducible refine ws_if ?_) | (with_reducible refine ws_ret ?_) | ((with_reducible refine ws_set ?_); (try dsimp only [List.set])) | ((with_reducible refine ws_par ?_)) | (with_reducible refine ws_drop ?_) | (with_reducible refine ws_next ?_)
  | ((with_reducible refine' we_var ?hv ?_); (case hv => exact rfl)) | (with_reducible refine we_int ?_) | (with_reducible refine we_str ?_) | (with_reducible refine we_bl ?_) | (with_reducible refine we_non ?_) | (with_reducible refine we_cls ?_)
  | (with_reducible refine we_op ?_) | (with_reducible refine we_un ?_) | (with_reducible refine we_andV ?_) | (with_reducible refine we_orV ?_) | (with_reducible refine we_notV ?_) | (with_reducible refine we_if ?_) | (with_reducible refine we_chain ?_)
  | (with_reducible refine we_tup ?_) | (with_reducible refine we_lst ?_) | (with_reducible refine we_cb ?_) | (with_reducible refine we_callF ?_) | (with_reducible refine we_call ?_) | (with_reducible refine we_sl ?_)
  | (with_reducible refine wt_test ?_) | (with_reducible refine wt_B ?_) | (with_reducible refine wt_and ?_) | (with_reducible refine wt_or ?_) | (with_reducible refine wt_not ?_) | (with_reducible refine wt_yes ?_)
  | (with_reducible refine wa_nil ?_) | (with_reducible refine wa_cons ?_) | (with_reducible refine wo_none ?_) | (with_reducible refine wo_some ?_)
  | (with_reducible refine ro_int0 ?_) | (with_reducible refine ro_bl0 ?_) | (with_reducible refine r1_int ?_) | (with_reducible refine ro_eqI ?_) | (with_reducible refine ro_neI ?_) | (with_reducible refine ro_eqB ?_) | (with_reducible refine ro_neB ?_) | (with_reducible refine ro_eqS ?_) | (with_reducible refine ro_neS ?_)
  | (with_reducible refine ro_inC ?_) | (with_reducible refine rc_abs ?_) | (with_reducible refine rc_int1 ?_) | (with_reducible refine rc_gcd ?_)
  | ((with_reducible refine' rc_int ?hc ?_); (case hc => first | exact rfl | assumption | exact sm_cls (by assumption))) | ((with_reducible refine' rc_bool ?hc ?_); (case hc => first | exact rfl | assumption | exact sm_cls (by assumption))) | ((with_reducible refine' rc_str ?hc ?_); (case hc => first | exact rfl | assumption | exact sm_cls (by assumption))) | ((with_reducible refine' rc_tuple ?hc ?_); (case hc => first | exact rfl | assumption | exact sm_cls (by assumption))) | ((with_reducible refine' rc_list ?hc ?_); (case hc => first | exact rfl | assumption | exact sm_cls (by assumption))) | ((with_reducible refine' rc_dict ?hc ?_); (case hc => first | exact rfl | assumption | exact sm_cls (by assumption))) | ((with_reducible refine' rc_lt ?hc ?_); (case hc => first | exact rfl | assumption | exact sm_cls (by assumption)))
  | ((with_reducible refine' rc_len ?he ?hl ?_); (case he => exact rfl); (case hl => first | omega | (simp; omega)))
  | (with_reducible refine rc_allf ?_)
  | (with_reducible refine' And.intro (show List.length _ ≤ 1000 from by exact Nat.le_of_ble_eq_true rfl) ?_)
  | (refine iteT ?_) | (refine iteF ?_) | (with_reducible refine' Exists.intro _ (And.intro rfl ?_)) | (with_reducible refine' Exists.intro _ (Exists.intro _ (And.intro rfl ?_))))
section
variable {P : Program} {w : World} {K : PySem.W.Frag} {mg : Str → Option Value} {base : Heap}
/-! ### is_any_number -/
abbrev SmP : List D → Prop := p1 fun d => sm d = true
abbrev bl1 (f : D → Bool) : List D → D := f1 fun d => .bl (f d)
abbrev s_is_any_number : Stmt := topS 9
abbrev N_is_any_number : List Str := ["value"]
theorem sc_is_any_number : FnScope N_is_any_number ["value"] (defScope s_is_any_number) := ⟨rfl, rfl, rfl, by decide +kernel, rfl, by decide +kernel, by decide +kernel⟩
theorem ok_is_any_number {k : Nat} (G : Gn mg) (F : Df K mg "is_any_number" s_is_any_number) : Cl P w K mg base (k + 1) "is_any_number" s_is_any_number ["value"] (SpD K SmP fun ds r => r = bl1 isNum ds) := by
  refine cl_of F sc_is_any_number (fun _ _ _ _ _ _ us hl => match us, hl with | [_], _ => rfl) p1_len fun f cdv A outer s H E hr => ⟨_, (pss_one (ps_ret (pe_and (pe_callB (show CallR _ (.builtin "isinstance") (rIsi K) from call_isi) (by rfl) G.g_isinstance (by decide +kernel) (pa_cons (pv 0) (pa_cons (pe_bltn (v := .ty "int") (u := .type "int") (by rfl) G.g_int (by decide +kernel) rfl) pa_nil))) (pe_one (pe_not (pe_callB (show CallR _ (.builtin "isinstance") (rIsi K) from call_isi) (by rfl) G.g_isinstance (by decide +kernel) (pa_cons (pv 0) (pa_cons (pe_bltn (v := .ty "bool") (u := .type "bool") (by rfl) G.g_bool (by decide +kernel) rfl) pa_nil)))))))), fun B ds hp => ?_⟩
  obtain ⟨d, rfl, hd⟩ := p1_ex hp
  show WS K B _ [.val d] _
  try dsimp only [cxOf, Cx.nox, Cx.blk]
  have hc := sm_cls hd
  cases d <;> first | (exact Bool.noConfusion hc) | (repeat walk_at "dl")
  all_goals rfl
/-! ### is_number -/
abbrev s_is_number : Stmt := topS 10
abbrev N_is_number : List Str := ["value", "least", "most"]
theorem sc_is_number : FnScope N_is_number ["value", "least", "most"] (defScope s_is_number) := ⟨rfl, rfl, rfl, by decide +kernel, rfl, by decide +kernel, by decide +kernel⟩
def isNumIn (d : D) (lo hi : Int) : Bool := match d with
  | .int i => decide (lo ≤ i) && decide (i ≤ hi)
  | _ => false
def nIn : D → D → D → D
  | d, .int lo, .int hi => .bl (isNumIn d lo hi)
  | _, _, _ => .non
abbrev ClB (P : Program) (w : World) (K : PySem.W.Frag) (mg : Str → Option Value) (base : Heap) (k : Nat) (x : Str) (st : Stmt) (v : Str) (f : D → Bool) := Cl P w K mg base k x st [v] (SpD K SmP fun ds r => r = bl1 f ds)
theorem ok_is_number {k : Nat} (G : Gn mg) (F : Df K mg "is_number" s_is_number) (C_is_any_number : ClB P w K mg base k "is_any_number" s_is_any_number "value" isNum) :
    Cl P w K mg base (k + 1) "is_number" s_is_number ["value", "least", "most"] (SpD K (p3 fun d lo hi => sm d = true ∧ (∃ i, lo = .int i) ∧ ∃ j, hi = .int j) fun ds r => r = f3 nIn ds) := by
  refine cl_of F sc_is_number (fun _ _ _ _ _ _ us hl => match us, hl with | [_, _, _], _ => rfl) p3_len fun f cdv A outer s H E hr => ⟨_, (pss_one (ps_ret (pe_and (pe_c C_is_any_number hr (by omega) (by rfl) (pa_cons (pv 0) pa_nil)) (pe_one (pe_chain op_le op_le (pv 1) (pv 0) (pv 2)))))), fun B ds hp => ?_⟩
  obtain ⟨d, _, _, rfl, hd, ⟨lo, rfl⟩, ⟨hi, rfl⟩⟩ := p3_ex hp
  show WS K B _ [.val d, .val (.int lo), .val (.int hi)] _
  try dsimp only [cxOf, Cx.nox, Cx.blk]
  repeat walk_at "dl"
  refine ⟨hd, ?_⟩
  cases d <;> repeat walk_at "dl"
  all_goals first | rfl | skip
  refine ite2 (fun h => ?_) (fun h => ?_)
  · repeat walk_at "dl"
    show D.bl _ = D.bl (_ && _)
    rw [h, Bool.true_and]
  · show D.bl _ = D.bl (_ && _)
    rw [Bool.eq_false_iff.mpr h, Bool.false_and]
/-! ### is_number_pair -/
abbrev s_is_number_pair : Stmt := topS 11
abbrev N_is_number_pair : List Str := ["value", "item"]
theorem sc_is_number_pair : FnScope N_is_number_pair ["value"] (defScope s_is_number_pair) := ⟨rfl, rfl, rfl, by decide +kernel, rfl, by decide +kernel, by decide +kernel⟩
def isNumPair : D → Bool
  | .tup xs => decide ((xs.length : Int) = 2) && xs.all isNum
  | _ => false
theorem ok_is_number_pair {k : Nat} (G : Gn mg) (F : Df K mg "is_number_pair" s_is_number_pair) (C_is_any_number : ClB P w K mg base k "is_any_number" s_is_any_number "value" isNum) : ClB P w K mg base (k + 1) "is_number_pair" s_is_number_pair "value" isNumPair := by
  refine cl_of F sc_is_number_pair (fun _ _ _ _ _ _ us hl => match us, hl with | [_], _ => rfl) p1_len fun f cdv A outer s H E hr => ⟨_, (pss_one (ps_ret (pe_and (pe_callB (show CallR _ (.builtin "isinstance") (rIsi K) from call_isi) (by rfl) G.g_isinstance (by decide +kernel) (pa_cons (pv 0) (pa_cons (pe_bltn (v := .ty "tuple") (u := .type "tuple") (by rfl) G.g_tuple (by decide +kernel) rfl) pa_nil))) (pe_and (pe_cmpR op_eq (pe_callB (show CallR _ (.builtin "len") (fun xs H Q => ∃ x n, xs = [x] ∧ LenV K x H n ∧ Q (.int n) H) from call_len) (by rfl) G.g_len (by decide +kernel) (pa_cons (pv 0) pa_nil)) pe_int (nomark _)) (pe_one (pe_callB (cr_all rfl) (by rfl) G.g_all (by decide +kernel) (pa_cons (pe_lc (own := [("item", 1)]) (g := gName 1) (tt := tYes) rfl sc_is_number_pair.nd (pi_tup (pv 0)) (blkOk_by (N := N_is_number_pair) (sc := defScope s_is_number_pair) (by decide +kernel)) (fun _ _ _ _ _ => pg_name (i := 1) sc_is_number_pair.nd rfl (Or.inl rfl)) (fun _ _ _ _ _ => pts_nil) (fun _ _ _ _ _ => (pe_c C_is_any_number hr (by omega) (by rfl) (pa_cons (pv 1) pa_nil)))) pa_nil))))))), fun B ds hp => ?_⟩
  obtain ⟨d, rfl, hd⟩ := p1_ex hp
  show WS K B _ [.val d, .no] _
  try dsimp only [cxOf, Cx.nox, Cx.blk]
  have hc := sm_cls hd
  cases d with
  | tup xs =>
    obtain ⟨hl, hs⟩ := sm_tup hd
    repeat walk_at "dl"
    refine ite2 (fun h => ?_) (fun h => ?_)
    · repeat walk_at "dl"
      refine we_lcmap (fun d => .bl (isNum d)) (wi_tup ?_)
      repeat walk_at "dl"
      refine ⟨by omega, fun d m => ?_, ?_⟩
      · repeat walk_at "dl"
        exact ⟨sms_mem hs m, rfl⟩
      · repeat walk_at "dl"
        show D.bl _ = D.bl (_ && _)
        rw [h, Bool.true_and]
    · show D.bl _ = D.bl (_ && _)
      rw [Bool.eq_false_iff.mpr h, Bool.false_and]
  | cls n => exact Bool.noConfusion hc
  | _ => (repeat walk_at "dl"); rfl
end
section
variable {P : Program} {w : World} {K : PySem.W.Frag} {mg : Str → Option Value} {base : Heap}
theorem and_t {a b : Bool} (h : a = true) : D.bl b = D.bl (a && b) := by rw [h, Bool.true_and]
theorem and_f {a b : Bool} (h : ¬ a = true) : D.bl false = D.bl (a && b) := by rw [Bool.eq_false_iff.mpr h, Bool.false_and]
/-! ### is_bounded_pair -/
abbrev s_is_bounded_pair : Stmt := topS 12
abbrev N_is_bounded_pair : List Str := ["value", "bound", "item"]
theorem sc_is_bounded_pair : FnScope N_is_bounded_pair ["value", "bound"] (defScope s_is_bounded_pair) := ⟨rfl, rfl, rfl, by decide +kernel, rfl, by decide +kernel, by decide +kernel⟩
def inB (b : Int) : D → Bool
  | .int i => decide (-b ≤ i) && decide (i ≤ b)
  | _ => false
def isBnd (b : Int) : D → Bool
  | .tup xs => isNumPair (.tup xs) && xs.all (inB b)
  | _ => false
def bnd : D → D → D
  | d, .int b => .bl (isBnd b d)
  | _, _ => .non
theorem num_ex {d : D} (z : isNum d = true) : ∃ i, d = .int i := by
  cases d <;> first | exact ⟨_, rfl⟩ | exact Bool.noConfusion z
theorem num_mem {xs : List D} (h : isNumPair (.tup xs) = true) {d : D} (m : d ∈ xs) : ∃ i, d = .int i := by
  have h' : (decide ((xs.length : Int) = 2) && xs.all isNum) = true := h
  rw [Bool.and_eq_true] at h'
  have z := List.all_eq_true.mp h'.2 d m
  cases d <;> first | exact ⟨_, rfl⟩ | exact Bool.noConfusion z
theorem ok_is_bounded_pair {k : Nat} (G : Gn mg) (F : Df K mg "is_bounded_pair" s_is_bounded_pair) (C_is_number_pair : ClB P w K mg base k "is_number_pair" s_is_number_pair "value" isNumPair) :
    Cl P w K mg base (k + 1) "is_bounded_pair" s_is_bounded_pair ["value", "bound"] (SpD K (p2 fun d b => sm d = true ∧ ∃ i, b = .int i) fun ds r => r = f2 bnd ds) := by
  refine cl_of F sc_is_bounded_pair (fun _ _ _ _ _ _ us hl => match us, hl with | [_, _], _ => rfl) p2_len fun f cdv A outer s H E hr => ⟨_, (pss_one (ps_ret (pe_and (pe_c C_is_number_pair hr (by omega) (by rfl) (pa_cons (pv 0) pa_nil)) (pe_one (pe_callB (cr_all rfl) (by rfl) G.g_all (by decide +kernel) (pa_cons (pe_lc (own := [("item", 2)]) (g := gName 2) (tt := tYes) rfl sc_is_bounded_pair.nd (pi_tup (pv 0)) (blkOk_by (N := N_is_bounded_pair) (sc := defScope s_is_bounded_pair) (by decide +kernel)) (fun _ _ _ _ _ => pg_name (i := 2) sc_is_bounded_pair.nd rfl (Or.inl rfl)) (fun _ _ _ _ _ => pts_nil) (fun _ _ _ _ _ => (pe_chain op_le op_le (pe_un un_neg (pv 1)) (pv 2) (pv 1)))) pa_nil)))))), fun B ds hp => ?_⟩
  obtain ⟨d, _, rfl, hd, ⟨b, rfl⟩⟩ := p2_ex hp
  show WS K B _ [.val d, .val (.int b), .no] _
  try dsimp only [cxOf, Cx.nox, Cx.blk]
  have hc := sm_cls hd
  cases d with
  | tup xs =>
    obtain ⟨hl, hs⟩ := sm_tup hd
    repeat walk_at "dl"
    refine ⟨hd, ?_⟩
    repeat walk_at "dl"
    refine ite2 (fun h => ?_) (fun h => ?_)
    · repeat walk_at "dl"
      refine we_lcmap (fun d => .bl (inB b d)) (wi_tup ?_)
      repeat walk_at "dl"
      refine ⟨by omega, fun d m => ?_, ?_⟩
      · obtain ⟨i, rfl⟩ := num_mem h m
        repeat walk_at "dl"
        refine ite2 (fun h => ?_) (fun h => ?_)
        · repeat walk_at "dl"
          exact and_t h
        · exact and_f h
      · repeat walk_at "dl"
        exact and_t h
    · exact and_f h
  | cls n => exact Bool.noConfusion hc
  | _ => (repeat walk_at "dl"); (refine ⟨hd, ?_⟩); (repeat walk_at "dl"); rfl
/-! ### is_point -/
abbrev s_is_point : Stmt := topS 13
abbrev N_is_point : List Str := ["value"]
theorem sc_is_point : FnScope N_is_point ["value"] (defScope s_is_point) := ⟨rfl, rfl, rfl, by decide +kernel, rfl, by decide +kernel, by decide +kernel⟩
abbrev ClN (P : Program) (w : World) (K : PySem.W.Frag) (mg : Str → Option Value) (base : Heap) (k : Nat) := Cl P w K mg base k "is_bounded_pair" s_is_bounded_pair ["value", "bound"] (SpD K (p2 fun d b => sm d = true ∧ ∃ i, b = .int i) fun ds r => r = f2 bnd ds)
theorem ok_is_point {k : Nat} (G : Gn mg) (F : Df K mg "is_point" s_is_point) (C_is_bounded_pair : ClN P w K mg base k) : ClB P w K mg base (k + 1) "is_point" s_is_point "value" (isBnd 200) := by
  refine cl_of F sc_is_point (fun _ _ _ _ _ _ us hl => match us, hl with | [_], _ => rfl) p1_len fun f cdv A outer s H E hr => ⟨_, (pss_one (ps_ret (pe_c C_is_bounded_pair hr (by omega) (by rfl) (pa_cons (pv 0) (pa_cons (pe_gi rfl G.g_POINT_BOUND) pa_nil))))), fun B ds hp => ?_⟩
  obtain ⟨d, rfl, hd⟩ := p1_ex hp
  show WS K B _ [.val d] _
  try dsimp only [cxOf, Cx.nox, Cx.blk]
  repeat walk_at "dl"
  exact ⟨⟨hd, _, rfl⟩, rfl⟩
/-! ### is_direction -/
abbrev s_is_direction : Stmt := topS 14
abbrev N_is_direction : List Str := ["value"]
theorem sc_is_direction : FnScope N_is_direction ["value"] (defScope s_is_direction) := ⟨rfl, rfl, rfl, by decide +kernel, rfl, by decide +kernel, by decide +kernel⟩
def gcdD : D → Nat
  | .tup [.int a, .int b] => Nat.gcd a.natAbs b.natAbs
  | _ => 0
def isDir (d : D) : Bool := isBnd 999 d && decide (((gcdD d : Nat) : Int) = 1)
theorem bnd_pair {b : Int} {d : D} (h : isBnd b d = true) : ∃ x y : Int, d = .tup [.int x, .int y] ∧ -b ≤ x ∧ x ≤ b ∧ -b ≤ y ∧ y ≤ b := by
  cases d with
  | tup xs =>
    have h' : ((decide ((xs.length : Int) = 2) && xs.all isNum) && xs.all (inB b)) = true := h
    rw [Bool.and_eq_true, Bool.and_eq_true, decide_eq_true_eq] at h'
    obtain ⟨⟨hl, hn⟩, hb⟩ := h'
    match xs, hl, hn, hb with
    | [x, y], _, hn, hb =>
      have n1 := List.all_eq_true.mp hn x (by simp)
      have n2 := List.all_eq_true.mp hn y (by simp)
      have b1 := List.all_eq_true.mp hb x (by simp)
      have b2 := List.all_eq_true.mp hb y (by simp)
      obtain ⟨i, rfl⟩ := num_ex n1
      obtain ⟨j, rfl⟩ := num_ex n2
      have b1' : (decide (-b ≤ i) && decide (i ≤ b)) = true := b1
      have b2' : (decide (-b ≤ j) && decide (j ≤ b)) = true := b2
      rw [Bool.and_eq_true, decide_eq_true_eq, decide_eq_true_eq] at b1' b2'
      exact ⟨i, j, rfl, b1'.1, b1'.2, b2'.1, b2'.2⟩
    | [], hl, _, _ => simp at hl
    | [_], hl, _, _ => simp at hl
    | _ :: _ :: _ :: r, hl, _, _ => simp at hl; omega
  | _ => exact Bool.noConfusion h
theorem ok_is_direction {k : Nat} (G : Gn mg) (F : Df K mg "is_direction" s_is_direction) (C_is_bounded_pair : ClN P w K mg base k) : ClB P w K mg base (k + 1) "is_direction" s_is_direction "value" isDir := by
  refine cl_of F sc_is_direction (fun _ _ _ _ _ _ us hl => match us, hl with | [_], _ => rfl) p1_len fun f cdv A outer s H E hr => ⟨_, (pss_one (ps_ret (pe_and (pe_c C_is_bounded_pair hr (by omega) (by rfl) (pa_cons (pv 0) (pa_cons (pe_gi rfl G.g_DIRECTION_BOUND) pa_nil))) (pe_one (pe_cmpR op_eq (pe_callBfun cr_gcd (by rfl) G.g_gcd (pa_cons (pe_ix (show IxR _ (rIxT K) from ix_tup) (pv 0) pe_int (fun _ _ => rfl)) (pa_cons (pe_ix (show IxR _ (rIxT K) from ix_tup) (pv 0) pe_int (fun _ _ => rfl)) pa_nil))) pe_int (nomark _)))))), fun B ds hp => ?_⟩
  obtain ⟨d, rfl, hd⟩ := p1_ex hp
  show WS K B _ [.val d] _
  try dsimp only [cxOf, Cx.nox, Cx.blk]
  repeat walk_at "dl"
  refine ⟨⟨hd, _, rfl⟩, ?_⟩
  repeat walk_at "dl"
  refine ite2 (fun h => ?_) (fun h => ?_)
  · obtain ⟨x, y, rfl, _⟩ := bnd_pair h
    repeat walk_at "dl"
    refine ro_ixT (d := .int x) rfl ?_
    repeat walk_at "dl"
    refine ro_ixT (d := .int y) rfl ?_
    repeat walk_at "dl"
    exact and_t h
  · exact and_f h
/-! ### is_way -/
abbrev s_is_way : Stmt := topS 15
abbrev N_is_way : List Str := ["value"]
theorem sc_is_way : FnScope N_is_way ["value"] (defScope s_is_way) := ⟨rfl, rfl, rfl, by decide +kernel, rfl, by decide +kernel, by decide +kernel⟩
def isWay : D → Bool
  | .tup [p, q] => isBnd 200 p && isDir q
  | _ => false
theorem two_of {xs : List D} (h : decide ((xs.length : Int) = 2) = true) : ∃ a b, xs = [a, b] := by
  rw [decide_eq_true_eq] at h
  match xs, h with
  | [a, b], _ => exact ⟨a, b, rfl⟩
  | [], h => simp at h
  | [_], h => simp at h
  | _ :: _ :: _ :: r, h => simp at h; omega
theorem not_two {xs : List D} (h : ¬ decide ((xs.length : Int) = 2) = true) : isWay (.tup xs) = false := by
  match xs, h with
  | [a, b], h => exact absurd rfl h
  | [], _ => rfl
  | [_], _ => rfl
  | _ :: _ :: _ :: r, _ => rfl
theorem ok_is_way {k : Nat} (G : Gn mg) (F : Df K mg "is_way" s_is_way) (C_is_point : ClB P w K mg base k "is_point" s_is_point "value" (isBnd 200)) (C_is_direction : ClB P w K mg base k "is_direction" s_is_direction "value" isDir) : ClB P w K mg base (k + 1) "is_way" s_is_way "value" isWay := by
  refine cl_of F sc_is_way (fun _ _ _ _ _ _ us hl => match us, hl with | [_], _ => rfl) p1_len fun f cdv A outer s H E hr => ⟨_, (pss_one (ps_ret (pe_and (pe_callB (show CallR _ (.builtin "isinstance") (rIsi K) from call_isi) (by rfl) G.g_isinstance (by decide +kernel) (pa_cons (pv 0) (pa_cons (pe_bltn (v := .ty "tuple") (u := .type "tuple") (by rfl) G.g_tuple (by decide +kernel) rfl) pa_nil))) (pe_and (pe_cmpR op_eq (pe_callB (show CallR _ (.builtin "len") (fun xs H Q => ∃ x n, xs = [x] ∧ LenV K x H n ∧ Q (.int n) H) from call_len) (by rfl) G.g_len (by decide +kernel) (pa_cons (pv 0) pa_nil)) pe_int (nomark _)) (pe_and (pe_c C_is_point hr (by omega) (by rfl) (pa_cons (pe_ix (show IxR _ (rIxT K) from ix_tup) (pv 0) pe_int (fun _ _ => rfl)) pa_nil)) (pe_one (pe_c C_is_direction hr (by omega) (by rfl) (pa_cons (pe_ix (show IxR _ (rIxT K) from ix_tup) (pv 0) pe_int (fun _ _ => rfl)) pa_nil)))))))), fun B ds hp => ?_⟩
  obtain ⟨d, rfl, hd⟩ := p1_ex hp
  show WS K B _ [.val d] _
  try dsimp only [cxOf, Cx.nox, Cx.blk]
  have hc := sm_cls hd
  cases d with
  | tup xs =>
    obtain ⟨hl, hs⟩ := sm_tup hd
    repeat walk_at "dl"
    refine ite2 (fun h => ?_) (fun h => ?_)
    · obtain ⟨a, b, rfl⟩ := two_of h
      repeat walk_at "dl"
      refine ro_ixT (d := a) rfl ?_
      repeat walk_at "dl"
      refine ⟨sms_mem hs (by simp), ?_⟩
      repeat walk_at "dl"
      refine ite2 (fun h => ?_) (fun h => ?_)
      · repeat walk_at "dl"
        refine ro_ixT (d := b) rfl ?_
        repeat walk_at "dl"
        exact ⟨sms_mem hs (by simp), and_t h⟩
      · exact and_f h
    · show D.bl _ = D.bl _
      rw [not_two h]
  | cls n => exact Bool.noConfusion hc
  | _ => (repeat walk_at "dl"); rfl
end
section
variable {P : Program} {w : World} {K : PySem.W.Frag} {mg : Str → Option Value} {base : Heap}
/-! ### is_name -/
abbrev s_is_name : Stmt := topS 8
abbrev N_is_name : List Str := ["value", "letter"]
theorem sc_is_name : FnScope N_is_name ["value"] (defScope s_is_name) := ⟨rfl, rfl, rfl, by decide +kernel, rfl, by decide +kernel, by decide +kernel⟩
def inT (t : Str) : D → Bool
  | .str z => match z.cps.toList with
    | [c] => decide (c ∈ t.cps.toList)
    | _ => false
  | _ => false
def isName : D → Bool
  | .str z => (decide ((1 : Int) ≤ z.length) && decide ((z.length : Int) ≤ 6)) && (Dl.signs z).all (inT "abcdefghijklmnopqrstuvwxyz")
  | _ => false
theorem sm_str {z : Str} (h : sm (.str z) = true) : z.length ≤ 1000 := of_decide_eq_true h
theorem sign_ex {z : Str} {d : D} (m : d ∈ Dl.signs z) : ∃ c, d = .str ⟨#[c]⟩ ∧ c ∈ z.cps.toList := by
  unfold Dl.signs at m
  obtain ⟨c, hc, e⟩ := List.mem_map.mp m
  exact ⟨c, e.symm, hc⟩
theorem signs_len (z : Str) : (Dl.signs z).length = z.length := by
  unfold Dl.signs
  rw [List.length_map, Array.length_toList]
  rfl
theorem ok_is_name {k : Nat} (G : Gn mg) (F : Df K mg "is_name" s_is_name) : ClB P w K mg base (k + 1) "is_name" s_is_name "value" isName := by
  refine cl_of F sc_is_name (fun _ _ _ _ _ _ us hl => match us, hl with | [_], _ => rfl) p1_len fun f cdv A outer s H E hr => ⟨_, (pss_cons (ps_if (PW.pt (pw_or (pt_not (pt_val (pe_callB (show CallR _ (.builtin "isinstance") (rIsi K) from call_isi) (by rfl) G.g_isinstance (by decide +kernel) (pa_cons (pv 0) (pa_cons (pe_bltn (v := .ty "str") (u := .type "str") (by rfl) G.g_str (by decide +kernel) rfl) pa_nil))))) (pw_or1 (pt_not (pt_chain op_le op_le pe_int (pe_callB (show CallR _ (.builtin "len") (fun xs H Q => ∃ x n, xs = [x] ∧ LenV K x H n ∧ Q (.int n) H) from call_len) (by rfl) G.g_len (by decide +kernel) (pa_cons (pv 0) pa_nil)) (pe_gi rfl G.g_MOST_LETTERS)))))) (pss_one (ps_ret pe_bl)) pss_nil)
      (pss_one (ps_ret (pe_callB (cr_all rfl) (by rfl) G.g_all (by decide +kernel) (pa_cons (pe_lc (own := [("letter", 1)]) (g := gName 1) (tt := tYes) rfl sc_is_name.nd (pi_str (pv 0)) (blkOk_by (N := N_is_name) (sc := defScope s_is_name) (by decide +kernel)) (fun _ _ _ _ _ => pg_name (i := 1) sc_is_name.nd rfl (Or.inl rfl)) (fun _ _ _ _ _ => pts_nil) (fun _ _ _ _ _ => (pe_cmpR op_in_sign (pv 1) (pe_gs rfl G.g_LETTERS) (by rfl)))) pa_nil))))), fun B ds hp => ?_⟩
  obtain ⟨d, rfl, hd⟩ := p1_ex hp
  show WS K B _ [.val d, .no] _
  try dsimp only [cxOf, Cx.nox, Cx.blk]
  have hc := sm_cls hd
  cases d with
  | str z =>
    have hl := sm_str hd
    repeat walk_at "dl"
    refine ite2 (fun h1 => ?_) (fun h1 => ?_)
    · repeat walk_at "dl"
      refine ite2 (fun h2 => ?_) (fun h2 => ?_)
      · repeat walk_at "dl"
        show D.bl false = D.bl ((_ && _) && _)
        rw [h1, Bool.true_and]
        rw [show decide ((z.length : Int) ≤ 6) = false by simpa using h2, Bool.false_and]
      · repeat walk_at "dl"
        refine we_lcmap (fun d => .bl (inT "abcdefghijklmnopqrstuvwxyz" d)) (wi_str ?_)
        repeat walk_at "dl"
        refine ⟨by rw [signs_len]; omega, fun d m => ?_, ?_⟩
        · obtain ⟨c, rfl, _⟩ := sign_ex m
          repeat walk_at "dl"
          rfl
        · repeat walk_at "dl"
          exact and_t (by rw [h1, Bool.true_and]; simpa using h2)
    · repeat walk_at "dl"
      show D.bl false = D.bl ((_ && _) && _)
      rw [Bool.eq_false_iff.mpr h1, Bool.false_and, Bool.false_and]
  | cls n => exact Bool.noConfusion hc
  | _ => (repeat walk_at "dl"); rfl
/-! ### _law_letters -/
abbrev s__law_letters : Stmt := topS 22
abbrev N__law_letters : List Str := []
theorem sc__law_letters : FnScope N__law_letters [] (defScope s__law_letters) := ⟨rfl, rfl, rfl, by decide +kernel, rfl, by decide +kernel, by decide +kernel⟩
abbrev ClL (P : Program) (w : World) (K : PySem.W.Frag) (mg : Str → Option Value) (base : Heap) (k : Nat) := Cl P w K mg base k "_law_letters" s__law_letters [] (SpD K (fun ds => ds = []) fun ds r => r = (fun _ => D.str "abcdefghijklmnopqrstuvwxyz") ds)
theorem ok__law_letters {k : Nat} (F : Df K mg "_law_letters" s__law_letters) : ClL P w K mg base (k + 1) := by
  refine cl_of F sc__law_letters (fun _ _ _ _ _ _ us hl => match us, hl with | [], _ => rfl) (fun ds h => by rw [h]; rfl) fun f cdv A outer s H E hr => ⟨_, (pss_one (ps_ret pe_str)), fun B ds hp => ?_⟩
  subst hp
  show WS K B _ [] _
  try dsimp only [cxOf, Cx.nox, Cx.blk]
  repeat walk_at "dl"
  rfl
/-! ### _law_is_tag -/
abbrev s__law_is_tag : Stmt := topS 31
abbrev N__law_is_tag : List Str := ["_law_x", "_law_sign"]
theorem sc__law_is_tag : FnScope N__law_is_tag ["_law_x"] (defScope s__law_is_tag) := ⟨rfl, rfl, rfl, by decide +kernel, rfl, by decide +kernel, by decide +kernel⟩
theorem ok__law_is_tag {k : Nat} (G : Gn mg) (F : Df K mg "_law_is_tag" s__law_is_tag) (C__law_letters : ClL P w K mg base k) : ClB P w K mg base (k + 1) "_law_is_tag" s__law_is_tag "_law_x" isName := by
  refine cl_of F sc__law_is_tag (fun _ _ _ _ _ _ us hl => match us, hl with | [_], _ => rfl) p1_len fun f cdv A outer s H E hr => ⟨_, (pss_one (ps_ret (pe_and (pe_callB (show CallR _ (.builtin "isinstance") (rIsi K) from call_isi) (by rfl) G.g_isinstance (by decide +kernel) (pa_cons (pv 0) (pa_cons (pe_bltn (v := .ty "str") (u := .type "str") (by rfl) G.g_str (by decide +kernel) rfl) pa_nil))) (pe_and (pe_cmpR op_le pe_int (pe_callB (show CallR _ (.builtin "len") (fun xs H Q => ∃ x n, xs = [x] ∧ LenV K x H n ∧ Q (.int n) H) from call_len) (by rfl) G.g_len (by decide +kernel) (pa_cons (pv 0) pa_nil)) (nomark _)) (pe_and (pe_cmpR op_le (pe_callB (show CallR _ (.builtin "len") (fun xs H Q => ∃ x n, xs = [x] ∧ LenV K x H n ∧ Q (.int n) H) from call_len) (by rfl) G.g_len (by decide +kernel) (pa_cons (pv 0) pa_nil)) pe_int (nomark _)) (pe_one (pe_callB (cr_all rfl) (by rfl) G.g_all (by decide +kernel) (pa_cons (pe_lc (own := [("_law_sign", 1)]) (g := gName 1) (tt := tYes) rfl sc__law_is_tag.nd (pi_str (pv 0)) (blkOk_by (N := N__law_is_tag) (sc := defScope s__law_is_tag) (by decide +kernel)) (fun _ _ _ _ _ => pg_name (i := 1) sc__law_is_tag.nd rfl (Or.inl rfl)) (fun _ _ _ _ _ => pts_nil) (fun _ _ _ _ _ => (pe_cmpR op_in_sign (pv 1) (pe_c0 C__law_letters hr (by omega) (by rfl)) (by rfl)))) pa_nil)))))))), fun B ds hp => ?_⟩
  obtain ⟨d, rfl, hd⟩ := p1_ex hp
  show WS K B _ [.val d, .no] _
  try dsimp only [cxOf, Cx.nox, Cx.blk]
  have hc := sm_cls hd
  cases d with
  | str z =>
    have hl := sm_str hd
    repeat walk_at "dl"
    refine ite2 (fun h1 => ?_) (fun h1 => ?_)
    · repeat walk_at "dl"
      refine ite2 (fun h2 => ?_) (fun h2 => ?_)
      · repeat walk_at "dl"
        refine we_lcmap (fun d => .bl (inT "abcdefghijklmnopqrstuvwxyz" d)) (wi_str ?_)
        repeat walk_at "dl"
        refine ⟨by rw [signs_len]; omega, fun d m => ?_, ?_⟩
        · obtain ⟨c, rfl, _⟩ := sign_ex m
          repeat walk_at "dl"
          refine ⟨rfl, ?_⟩
          repeat walk_at "dl"
          rfl
        · repeat walk_at "dl"
          show D.bl _ = D.bl ((_ && _) && _)
          rw [h1, h2, Bool.true_and, Bool.true_and]
      · show D.bl false = D.bl ((_ && _) && _)
        rw [h1, Bool.eq_false_iff.mpr h2, Bool.true_and, Bool.false_and]
    · show D.bl false = D.bl ((_ && _) && _)
      rw [Bool.eq_false_iff.mpr h1, Bool.false_and, Bool.false_and]
  | cls n => exact Bool.noConfusion hc
  | _ => (repeat walk_at "dl"); rfl
/-! ### _law_is_whole -/
abbrev s__law_is_whole : Stmt := topS 27
abbrev N__law_is_whole : List Str := ["_law_x"]
theorem sc__law_is_whole : FnScope N__law_is_whole ["_law_x"] (defScope s__law_is_whole) := ⟨rfl, rfl, rfl, by decide +kernel, rfl, by decide +kernel, by decide +kernel⟩
theorem ok__law_is_whole {k : Nat} (G : Gn mg) (F : Df K mg "_law_is_whole" s__law_is_whole) : ClB P w K mg base (k + 1) "_law_is_whole" s__law_is_whole "_law_x" isNum := by
  refine cl_of F sc__law_is_whole (fun _ _ _ _ _ _ us hl => match us, hl with | [_], _ => rfl) p1_len fun f cdv A outer s H E hr => ⟨_, (pss_one (ps_ret (pe_and (pe_callB (show CallR _ (.builtin "isinstance") (rIsi K) from call_isi) (by rfl) G.g_isinstance (by decide +kernel) (pa_cons (pv 0) (pa_cons (pe_bltn (v := .ty "int") (u := .type "int") (by rfl) G.g_int (by decide +kernel) rfl) pa_nil))) (pe_one (pe_not (pe_callB (show CallR _ (.builtin "isinstance") (rIsi K) from call_isi) (by rfl) G.g_isinstance (by decide +kernel) (pa_cons (pv 0) (pa_cons (pe_bltn (v := .ty "bool") (u := .type "bool") (by rfl) G.g_bool (by decide +kernel) rfl) pa_nil)))))))), fun B ds hp => ?_⟩
  obtain ⟨d, rfl, hd⟩ := p1_ex hp
  show WS K B _ [.val d] _
  try dsimp only [cxOf, Cx.nox, Cx.blk]
  have hc := sm_cls hd
  cases d <;> first | (exact Bool.noConfusion hc) | (repeat walk_at "dl")
  all_goals rfl
end
section
variable {P : Program} {w : World} {K : PySem.W.Frag} {mg : Str → Option Value} {base : Heap}
theorem abs_nat (i : Int) : (if i < 0 then -i else i) = (i.natAbs : Int) := by
  split <;> omega
/-! ### _law_gcd -/
abbrev s__law_gcd : Stmt := topS 25
abbrev N__law_gcd : List Str := ["_law_one_z", "_law_two_z", "_law_low", "_law_high"]
theorem sc__law_gcd : FnScope N__law_gcd ["_law_one_z", "_law_two_z"] (defScope s__law_gcd) := ⟨rfl, rfl, rfl, by decide +kernel, rfl, by decide +kernel, by decide +kernel⟩
def gcdF : D → D → D
  | .int i, .int j => .int ((Nat.gcd i.natAbs j.natAbs : Nat) : Int)
  | _, _ => .non
abbrev ClG (P : Program) (w : World) (K : PySem.W.Frag) (mg : Str → Option Value) (base : Heap) (k : Nat) := Cl P w K mg base k "_law_gcd" s__law_gcd ["_law_one_z", "_law_two_z"] (SpD K (p2 fun a b => (∃ i, a = .int i) ∧ ∃ j, b = .int j) fun ds r => r = f2 gcdF ds)
theorem ok__law_gcd {k : Nat} (G : Gn mg) (F : Df K mg "_law_gcd" s__law_gcd) : ClG P w K mg base (k + 1) := by
  refine cl_of F sc__law_gcd (fun _ _ _ _ _ _ us hl => match us, hl with | [_, _], _ => rfl) p2_len fun f cdv A outer s H E hr => ⟨_, (pss_cons (ps_par (i := 2) (j := 3) (by rfl) sc__law_gcd.nd rfl rfl (by decide) rfl rfl (pa_cons (pe_callB call_abs (by rfl) G.g_abs (by decide +kernel) (pa_cons (pv 0) pa_nil)) (pa_cons (pe_callB call_abs (by rfl) G.g_abs (by decide +kernel) (pa_cons (pv 1) pa_nil)) pa_nil)) (by rfl))
      (pss_cons (ps_while PassesOwn.never (pt_cmpR op_ne (pv 2) pe_int (nomark _)) (pss_one (ps_par (i := 2) (j := 3) (by rfl) sc__law_gcd.nd rfl rfl (by decide) rfl rfl (pa_cons (pe_op op_modN (pe_callTy call_int1 (by rfl) G.g_int (by decide +kernel) (pa_cons (pv 3) pa_nil)) (pe_callTy call_int1 (by rfl) G.g_int (by decide +kernel) (pa_cons (pv 2) pa_nil))) (pa_cons (pv 2) pa_nil)) (by rfl))))
      (pss_one (ps_ret (pv 3))))), fun B ds hp => ?_⟩
  obtain ⟨_, _, rfl, ⟨i, rfl⟩, ⟨j, rfl⟩⟩ := p2_ex hp
  show WS K B _ [.val (.int i), .val (.int j), .no, .no] _
  try dsimp only [cxOf, Cx.nox, Cx.blk]
  repeat walk_at "dl"
  rw [abs_nat i, abs_nat j]
  refine ws_while (fun m δ1 => ∃ l h : Nat, δ1 = [.val (.int i), .val (.int j), .val (.int l), .val (.int h)] ∧ Nat.gcd l h = Nat.gcd i.natAbs j.natAbs ∧ m = l) ⟨_, _, _, rfl, rfl, rfl⟩ ?_
  rintro m δ1 ⟨l, h, rfl, hg, rfl⟩
  repeat walk_at "dl"
  refine ite2 (fun h0 => ?_) (fun h0 => ?_)
  · have h1 : ¬ (m : Int) = 0 := by simpa using h0
    repeat walk_at "dl"
    refine ro_int h1 ?_
    repeat walk_at "dl"
    refine ⟨h % m, Nat.mod_lt _ (by omega), h % m, m, ?_, ?_, rfl⟩
    · have e : Int.fmod (h : Int) (m : Int) = ((h % m : Nat) : Int) := by
        rw [Int.fmod_eq_emod_of_nonneg _ (by omega)]
        rfl
      rw [e]
      rfl
    · rw [← hg]
      exact (Nat.gcd_rec m h).symm
  · have h1 : (m : Int) = 0 := by simpa using h0
    have h2 : m = 0 := by omega
    subst h2
    repeat walk_at "dl"
    show D.int _ = D.int _
    rw [← hg, Nat.gcd_zero_left]
/-! ### _law_is_spot -/
abbrev s__law_is_spot : Stmt := topS 28
abbrev N__law_is_spot : List Str := ["_law_x", "_law_c"]
theorem sc__law_is_spot : FnScope N__law_is_spot ["_law_x"] (defScope s__law_is_spot) := ⟨rfl, rfl, rfl, by decide +kernel, rfl, by decide +kernel, by decide +kernel⟩
theorem all_in {b : Int} : ∀ xs : List D, (xs.all isNum && xs.all (inB b)) = xs.all (inB b)
  | [] => rfl
  | x :: xs => by
    have ih := all_in (b := b) xs
    rw [List.all_cons, List.all_cons]
    cases hx : inB b x with
    | false => rw [Bool.false_and, Bool.and_false]
    | true =>
      have hn : isNum x = true := by
        cases x <;> first | rfl | exact Bool.noConfusion hx
      rw [hn, Bool.true_and, Bool.true_and]
      exact ih
theorem bnd_eq {b : Int} (xs : List D) : isBnd b (.tup xs) = (decide ((xs.length : Int) = 2) && xs.all (inB b)) := by
  show ((decide ((xs.length : Int) = 2) && xs.all isNum) && xs.all (inB b)) = _
  rw [Bool.and_assoc, all_in]
theorem ok__law_is_spot {k : Nat} (G : Gn mg) (F : Df K mg "_law_is_spot" s__law_is_spot) (C__law_is_whole : ClB P w K mg base k "_law_is_whole" s__law_is_whole "_law_x" isNum) : ClB P w K mg base (k + 1) "_law_is_spot" s__law_is_spot "_law_x" (isBnd 200) := by
  refine cl_of F sc__law_is_spot (fun _ _ _ _ _ _ us hl => match us, hl with | [_], _ => rfl) p1_len fun f cdv A outer s H E hr => ⟨_, (pss_one (ps_ret (pe_and (pe_callB (show CallR _ (.builtin "isinstance") (rIsi K) from call_isi) (by rfl) G.g_isinstance (by decide +kernel) (pa_cons (pv 0) (pa_cons (pe_bltn (v := .ty "tuple") (u := .type "tuple") (by rfl) G.g_tuple (by decide +kernel) rfl) pa_nil))) (pe_and (pe_cmpR op_eq (pe_callB (show CallR _ (.builtin "len") (fun xs H Q => ∃ x n, xs = [x] ∧ LenV K x H n ∧ Q (.int n) H) from call_len) (by rfl) G.g_len (by decide +kernel) (pa_cons (pv 0) pa_nil)) pe_int (nomark _)) (pe_one (pe_callB (cr_all rfl) (by rfl) G.g_all (by decide +kernel) (pa_cons (pe_lc (own := [("_law_c", 1)]) (g := gName 1) (tt := tYes) rfl sc__law_is_spot.nd (pi_tup (pv 0)) (blkOk_by (N := N__law_is_spot) (sc := defScope s__law_is_spot) (by decide +kernel)) (fun _ _ _ _ _ => pg_name (i := 1) sc__law_is_spot.nd rfl (Or.inl rfl)) (fun _ _ _ _ _ => pts_nil) (fun _ _ _ _ _ => (pe_and (pe_c C__law_is_whole hr (by omega) (by rfl) (pa_cons (pv 1) pa_nil)) (pe_and (pe_cmpR op_le (pe_un un_neg pe_int) (pv 1) (nomark _)) (pe_one (pe_cmpR op_le (pv 1) pe_int (nomark _))))))) pa_nil))))))), fun B ds hp => ?_⟩
  obtain ⟨d, rfl, hd⟩ := p1_ex hp
  show WS K B _ [.val d, .no] _
  try dsimp only [cxOf, Cx.nox, Cx.blk]
  have hc := sm_cls hd
  cases d with
  | tup xs =>
    obtain ⟨hl, hs⟩ := sm_tup hd
    repeat walk_at "dl"
    refine ite2 (fun h => ?_) (fun h => ?_)
    · repeat walk_at "dl"
      refine we_lcmap (fun d => .bl (inB 200 d)) (wi_tup ?_)
      repeat walk_at "dl"
      refine ⟨by omega, fun d m => ?_, ?_⟩
      · repeat walk_at "dl"
        refine ⟨sms_mem hs m, ?_⟩
        cases d <;> (repeat walk_at "dl")
        all_goals first | rfl | skip
        refine ite2 (fun h => ?_) (fun h => ?_)
        · repeat walk_at "dl"
          exact and_t h
        · exact and_f h
      · repeat walk_at "dl"
        show D.bl _ = D.bl (isBnd 200 (.tup xs))
        rw [bnd_eq]
        exact and_t h
    · show D.bl _ = D.bl (isBnd 200 (.tup xs))
      rw [bnd_eq]
      exact and_f h
  | cls n => exact Bool.noConfusion hc
  | _ => (repeat walk_at "dl"); rfl
/-! ### _law_is_dir -/
abbrev s__law_is_dir : Stmt := topS 29
abbrev N__law_is_dir : List Str := ["_law_x", "_law_c"]
theorem sc__law_is_dir : FnScope N__law_is_dir ["_law_x"] (defScope s__law_is_dir) := ⟨rfl, rfl, rfl, by decide +kernel, rfl, by decide +kernel, by decide +kernel⟩
theorem ok__law_is_dir {k : Nat} (G : Gn mg) (F : Df K mg "_law_is_dir" s__law_is_dir) (C__law_is_whole : ClB P w K mg base k "_law_is_whole" s__law_is_whole "_law_x" isNum) (C__law_gcd : ClG P w K mg base k) : ClB P w K mg base (k + 1) "_law_is_dir" s__law_is_dir "_law_x" isDir := by
  refine cl_of F sc__law_is_dir (fun _ _ _ _ _ _ us hl => match us, hl with | [_], _ => rfl) p1_len fun f cdv A outer s H E hr => ⟨_, (pss_one (ps_ret (pe_and (pe_callB (show CallR _ (.builtin "isinstance") (rIsi K) from call_isi) (by rfl) G.g_isinstance (by decide +kernel) (pa_cons (pv 0) (pa_cons (pe_bltn (v := .ty "tuple") (u := .type "tuple") (by rfl) G.g_tuple (by decide +kernel) rfl) pa_nil))) (pe_and (pe_cmpR op_eq (pe_callB (show CallR _ (.builtin "len") (fun xs H Q => ∃ x n, xs = [x] ∧ LenV K x H n ∧ Q (.int n) H) from call_len) (by rfl) G.g_len (by decide +kernel) (pa_cons (pv 0) pa_nil)) pe_int (nomark _)) (pe_and (pe_callB (cr_all rfl) (by rfl) G.g_all (by decide +kernel) (pa_cons (pe_lc (own := [("_law_c", 1)]) (g := gName 1) (tt := tYes) rfl sc__law_is_dir.nd (pi_tup (pv 0)) (blkOk_by (N := N__law_is_dir) (sc := defScope s__law_is_dir) (by decide +kernel)) (fun _ _ _ _ _ => pg_name (i := 1) sc__law_is_dir.nd rfl (Or.inl rfl)) (fun _ _ _ _ _ => pts_nil) (fun _ _ _ _ _ => (pe_and (pe_c C__law_is_whole hr (by omega) (by rfl) (pa_cons (pv 1) pa_nil)) (pe_and (pe_cmpR op_le (pe_un un_neg pe_int) (pv 1) (nomark _)) (pe_one (pe_cmpR op_le (pv 1) pe_int (nomark _))))))) pa_nil)) (pe_one (pe_cmpR op_eq (pe_c C__law_gcd hr (by omega) (by rfl) (pa_cons (pe_ix (show IxR _ (rIxT K) from ix_tup) (pv 0) pe_int (fun _ _ => rfl)) (pa_cons (pe_ix (show IxR _ (rIxT K) from ix_tup) (pv 0) pe_int (fun _ _ => rfl)) pa_nil))) pe_int (nomark _)))))))), fun B ds hp => ?_⟩
  obtain ⟨d, rfl, hd⟩ := p1_ex hp
  show WS K B _ [.val d, .no] _
  try dsimp only [cxOf, Cx.nox, Cx.blk]
  have hc := sm_cls hd
  cases d with
  | tup xs =>
    obtain ⟨hl, hs⟩ := sm_tup hd
    repeat walk_at "dl"
    refine ite2 (fun h => ?_) (fun h => ?_)
    · repeat walk_at "dl"
      refine we_lcmap (fun d => .bl (inB 999 d)) (wi_tup ?_)
      repeat walk_at "dl"
      refine ⟨by omega, fun d m => ?_, ?_⟩
      · repeat walk_at "dl"
        refine ⟨sms_mem hs m, ?_⟩
        cases d <;> (repeat walk_at "dl")
        all_goals first | rfl | skip
        refine ite2 (fun h => ?_) (fun h => ?_)
        · repeat walk_at "dl"
          exact and_t h
        · exact and_f h
      · repeat walk_at "dl"
        refine ite2 (fun h2 => ?_) (fun h2 => ?_)
        · have hb : isBnd 999 (.tup xs) = true := by rw [bnd_eq, h, h2]; rfl
          obtain ⟨x, y, e, _⟩ := bnd_pair hb
          cases e
          repeat walk_at "dl"
          refine ro_ixT (d := .int x) rfl ?_
          repeat walk_at "dl"
          refine ro_ixT (d := .int y) rfl ?_
          repeat walk_at "dl"
          refine ⟨⟨⟨_, rfl⟩, _, rfl⟩, ?_⟩
          show WE K B _ _ fun b => RO K B rEq (.int _) b _
          repeat walk_at "dl"
          exact and_t hb
        · have hb : ¬ isBnd 999 (.tup xs) = true := by rw [bnd_eq, h, Bool.true_and]; exact h2
          exact and_f hb
    · have hb : ¬ isBnd 999 (.tup xs) = true := by rw [bnd_eq, Bool.eq_false_iff.mpr h, Bool.false_and]; exact Bool.false_ne_true
      exact and_f hb
  | cls n => exact Bool.noConfusion hc
  | _ => (repeat walk_at "dl"); rfl
/-! ### _law_is_tool -/
abbrev s__law_is_tool : Stmt := topS 30
abbrev N__law_is_tool : List Str := ["_law_x"]
theorem sc__law_is_tool : FnScope N__law_is_tool ["_law_x"] (defScope s__law_is_tool) := ⟨rfl, rfl, rfl, by decide +kernel, rfl, by decide +kernel, by decide +kernel⟩
theorem ok__law_is_tool {k : Nat} (G : Gn mg) (F : Df K mg "_law_is_tool" s__law_is_tool) (C__law_is_spot : ClB P w K mg base k "_law_is_spot" s__law_is_spot "_law_x" (isBnd 200)) (C__law_is_dir : ClB P w K mg base k "_law_is_dir" s__law_is_dir "_law_x" isDir) : ClB P w K mg base (k + 1) "_law_is_tool" s__law_is_tool "_law_x" isWay := by
  refine cl_of F sc__law_is_tool (fun _ _ _ _ _ _ us hl => match us, hl with | [_], _ => rfl) p1_len fun f cdv A outer s H E hr => ⟨_, (pss_one (ps_ret (pe_and (pe_callB (show CallR _ (.builtin "isinstance") (rIsi K) from call_isi) (by rfl) G.g_isinstance (by decide +kernel) (pa_cons (pv 0) (pa_cons (pe_bltn (v := .ty "tuple") (u := .type "tuple") (by rfl) G.g_tuple (by decide +kernel) rfl) pa_nil))) (pe_and (pe_cmpR op_eq (pe_callB (show CallR _ (.builtin "len") (fun xs H Q => ∃ x n, xs = [x] ∧ LenV K x H n ∧ Q (.int n) H) from call_len) (by rfl) G.g_len (by decide +kernel) (pa_cons (pv 0) pa_nil)) pe_int (nomark _)) (pe_and (pe_c C__law_is_spot hr (by omega) (by rfl) (pa_cons (pe_ix (show IxR _ (rIxT K) from ix_tup) (pv 0) pe_int (fun _ _ => rfl)) pa_nil)) (pe_one (pe_c C__law_is_dir hr (by omega) (by rfl) (pa_cons (pe_ix (show IxR _ (rIxT K) from ix_tup) (pv 0) pe_int (fun _ _ => rfl)) pa_nil)))))))), fun B ds hp => ?_⟩
  obtain ⟨d, rfl, hd⟩ := p1_ex hp
  show WS K B _ [.val d] _
  try dsimp only [cxOf, Cx.nox, Cx.blk]
  have hc := sm_cls hd
  cases d with
  | tup xs =>
    obtain ⟨hl, hs⟩ := sm_tup hd
    repeat walk_at "dl"
    refine ite2 (fun h => ?_) (fun h => ?_)
    · obtain ⟨a, b, rfl⟩ := two_of h
      repeat walk_at "dl"
      refine ro_ixT (d := a) rfl ?_
      repeat walk_at "dl"
      refine ⟨sms_mem hs (by simp), ?_⟩
      repeat walk_at "dl"
      refine ite2 (fun h => ?_) (fun h => ?_)
      · repeat walk_at "dl"
        refine ro_ixT (d := b) rfl ?_
        repeat walk_at "dl"
        exact ⟨sms_mem hs (by simp), and_t h⟩
      · exact and_f h
    · show D.bl _ = D.bl _
      rw [not_two h]
  | cls n => exact Bool.noConfusion hc
  | _ => (repeat walk_at "dl"); rfl
end
section
variable {P : Program} {w : World} {K : PySem.W.Frag} {mg : Str → Option Value} {base : Heap}
theorem cl_raw {x : Str} {st : Stmt} {N ps : List Str} {k : Nat} {pre : List D → Prop} {post : List D → D → Prop} (F : Df K mg x st) (S : FnScope N ps (defScope st))
    (hb : ∀ (kV doc pm : Value) (an : Option Addr) (cdv ct : Value) (us : List Value), us.length = ps.length → bindArgs (PySem.W.fnOf x x (defArgs st) (defBody st) (defScope st) .none kV doc pm an cdv ct) ⟨us, []⟩ = pure (ps.zip us))
    (hl : ∀ ds, pre ds → ds.length = ps.length)
    (h : ∀ (f : Addr) (cdv : Value) (A : Around) (outer : List Env) (s : Shared) (H : Hp) (E : XK) (B : Addr) (G : Hp) (ds : List D) (vs : List V) (Q : VK), Room k (A.deeper (envOfC x (defScope st) s.heap.objs.size f cdv)) → Ok B G H → Dds K B G vs ds → pre ds → Ct K B G H (post ds) Q →
      ∃ t, PSs (cxOf CX0 P w K mg base N x (defScope st) f cdv A outer s H E).nox (defBody st) t ∧ t { nx := fun _ H' => Q .non H', rt := Q } (L2.start N vs) H) : Cl P w K mg base (k + 1) x st ps (SpD K pre post) := by
  obtain ⟨f, fd, F, hm⟩ := F.ex
  refine ⟨f, fd, F, F.ok S (fun vs H Q E hsp => ?_) (fun cdv A outer s H vs Q E hr hsp => ?_), hm, F.binds hb⟩
  · obtain ⟨B, G, ds, o, hs, p, q⟩ := hsp
    exact hs.length.trans (hl ds p)
  · obtain ⟨B, G, ds, o, hs, p, q⟩ := hsp
    exact h f cdv A outer s H E B G ds vs Q hr o hs p q
/-! ### _law_take -/
abbrev s__law_take : Stmt := topS 19
abbrev N__law_take : List Str := ["_law_box_here", "_law_many", "_law_step", "_law_cell", "_law_digit"]
theorem sc__law_take : FnScope N__law_take ["_law_box_here", "_law_many"] (defScope s__law_take) := ⟨rfl, rfl, rfl, by decide +kernel, rfl, by decide +kernel, by decide +kernel⟩
abbrev takePre : List D → Prop := p2 fun b m => b = .box ∧ ∃ n : Int, m = .int n ∧ 0 < n ∧ n ≤ 1000000000
def takePost : List D → D → Prop := fun ds r => ∃ n i : Int, ds = [.box, .int n] ∧ r = .int i ∧ 0 ≤ i ∧ i < n
abbrev ClT (P : Program) (w : World) (K : PySem.W.Frag) (mg : Str → Option Value) (base : Heap) (k : Nat) := Cl P w K mg base k "_law_take" s__law_take ["_law_box_here", "_law_many"] (SpD K takePre takePost)
theorem fm0 {i n : Int} (h : 0 < n) : 0 ≤ i.fmod n ∧ i.fmod n < n := ⟨Int.fmod_nonneg_of_pos i h, Int.fmod_lt_of_pos i h⟩
theorem fd0 {i n : Int} (hi : 0 ≤ i) (h : 0 < n) : 0 ≤ i.fdiv n := by
  rw [Int.fdiv_eq_ediv_of_nonneg _ (by omega)]
  exact Int.ediv_nonneg hi (by omega)
theorem ok__law_take {k : Nat} (G : Gn mg) (F : Df K mg "_law_take" s__law_take) : ClT P w K mg base (k + 1) := by
  refine cl_raw F sc__law_take (fun _ _ _ _ _ _ us hl => match us, hl with | [_, _], _ => rfl) p2_len fun f cdv A outer s H E B G0 ds vs Q hr ok hs hp q => ?_
  obtain ⟨_, _, rfl, rfl, n, rfl, hn0, hn1⟩ := p2_ex hp
  have ev : vs = [.ref B, .int n] := by
    cases hs with
    | cons h1 t =>
      cases t with
      | cons h2 t2 => cases t2; cases h1; cases h2; rfl
  subst ev
  -- the end
  have fin : ∀ (H1 : Hp) (c : Addr) (cells : List Int) (p r m cnt i : Int), (∀ a, a ≠ B → H1 a = H a) → H1 B = some (.lst [.ref c, .int p, .int r, .int m, .int cnt]) → G0 c = some (.lst (cells.map V.int)) → cells.length ≤ 63 → 0 ≤ p → 0 ≤ r → 0 ≤ m → m < 2147483587 → 0 ≤ cnt → 0 ≤ i → i < n → Q (.int i) H1 := by
    intro H1 c cells p r m cnt i hk hB hc hl hp hr hm hm2 hn hi hi2
    refine q (.int i) (.int i) G0 H1 ⟨Same.refl _, fun a o ne e => by rw [hk a ne]; exact e, fun _ _ g => g⟩ ⟨fun a o e => ?_, ok.b, c, cells, p, r, m, cnt, hB, hc, hl, hp, hr, hm, hm2, hn⟩ (.int i) ⟨n, i, rfl, rfl, hi, hi2⟩
    have ne : a ≠ B := fun z => by rw [z, ok.b] at e; cases e
    rw [hk a ne]
    exact ok.u a o e
  -- the lines behind the first if
  obtain ⟨T2, h2, w2⟩ : ∃ T2, PSs (cxOf CX0 P w K mg base N__law_take "_law_take" (defScope s__law_take) f cdv A outer s H E).nox ((defBody s__law_take).drop 1) T2 ∧
      ∀ (H1 : Hp) (c : Addr) (cells : List Int) (p r m cnt : Int) (y2 y3 y4 : Option V), (∀ a, a ≠ B → H1 a = H a) → H1 B = some (.lst [.ref c, .int p, .int r, .int m, .int cnt]) → G0 c = some (.lst (cells.map V.int)) → cells.length ≤ 63 → 0 ≤ p → 0 ≤ r → 0 ≤ m → m < 2147483587 → 0 ≤ cnt →
        T2 { nx := fun _ H' => Q .non H', rt := Q } [some (.ref B), some (.int n), y2, y3, y4] H1 := by
    refine ⟨_, (pss_cons (ps_if (pt_cmpR op_gt (pe_ix (show IxR _ (rIxL K) from ix_list) (pv 0) pe_int (fun _ _ => rfl)) pe_int (nomark _)) (pss_cons (ps_set (i := 4) sc__law_take.nd rfl (Or.inl rfl) (pe_op op_modN (pe_callTy call_int1 (by rfl) G.g_int (by decide +kernel) (pa_cons (pe_ix (show IxR _ (rIxL K) from ix_list) (pv 0) pe_int (fun _ _ => rfl)) pa_nil)) (pv 1)))
      (pss_cons (ps_asg (pe_op op_fdivN (pe_callTy call_int1 (by rfl) G.g_int (by decide +kernel) (pa_cons (pe_ix (show IxR _ (rIxL K) from ix_list) (pv 0) pe_int (fun _ _ => rfl)) pa_nil)) (pv 1)) (pg_sub (pv 0) pe_int set_list))
      (pss_one (ps_ret (pv 4))))) pss_nil)
      (pss_cons (ps_asg (pe_op op_add (pe_ix (show IxR _ (rIxL K) from ix_list) (pv 0) pe_int (fun _ _ => rfl)) pe_int) (pg_sub (pv 0) pe_int set_list))
      (pss_cons (ps_set (i := 2) sc__law_take.nd rfl (Or.inl rfl) (pe_op op_modN (pe_callTy call_int1 (by rfl) G.g_int (by decide +kernel) (pa_cons (pe_op op_add (pe_ix (show IxR _ (rIxL K) from ix_list) (pv 0) pe_int (fun _ _ => rfl)) (pe_op op_mul (pe_ix (show IxR _ (rIxL K) from ix_list) (pv 0) pe_int (fun _ _ => rfl)) pe_int)) pa_nil)) pe_int))
      (pss_cons (ps_asg (pe_op op_modN (pe_callTy call_int1 (by rfl) G.g_int (by decide +kernel) (pa_cons (pe_op op_add (pe_op op_add (pe_op op_pow (pv 2) pe_int) (pe_op op_mul pe_int (pv 2))) pe_int) pa_nil)) pe_int) (pg_sub (pv 0) pe_int set_list))
      (pss_one (ps_ret (pe_op op_modN (pe_callTy call_int1 (by rfl) G.g_int (by decide +kernel) (pa_cons (pe_op op_add (pe_op op_fdivN (pe_ix (show IxR _ (rIxL K) from ix_list) (pv 0) pe_int (fun _ _ => rfl)) pe_int) (pe_op op_mul (pe_op op_modN (pe_callTy call_int1 (by rfl) G.g_int (by decide +kernel) (pa_cons (pe_ix (show IxR _ (rIxL K) from ix_list) (pv 0) pe_int (fun _ _ => rfl)) pa_nil)) pe_int) pe_int)) pa_nil)) (pv 1)))))))), ?_⟩
    intro H1 c cells p r m cnt y2 y3 y4 hk hB hc hl hp hr hm hm2 hn
    refine ⟨_, rfl, B, _, _, _, rfl, rfl, SqL.of hB, rfl, _, _, rfl, rfl, _, rfl, ?_⟩
    refine ite2 (fun h => ?_) (fun h => ?_)
    · refine ⟨_, rfl, B, _, _, _, rfl, rfl, SqL.of hB, rfl, .inl ⟨_, rfl, _, rfl, _, _, rfl, rfl, (show n ≠ 0 by omega), ?_⟩⟩
      refine ⟨_, rfl, B, _, _, _, rfl, rfl, SqL.of hB, rfl, .inl ⟨_, rfl, _, rfl, _, _, rfl, rfl, (show n ≠ 0 ∧ n.natAbs < 1073741824 from ⟨by omega, by omega⟩), _, rfl, B, _, _, _, rfl, rfl, hB, rfl, ?_⟩⟩
      refine ⟨_, rfl, ?_⟩
      have f0 := fm0 (i := r) hn0
      exact fin _ c cells p (r.fdiv n) m cnt _ (fun a ne => by rw [upd_ne ne]; exact hk a ne) upd_same hc hl hp (fd0 hr hn0) hm hm2 hn f0.1 f0.2
    · -- box[4] = box[4] + 1
      refine ⟨_, rfl, B, _, _, _, rfl, rfl, SqL.of hB, rfl, _, _, rfl, rfl, _, rfl, B, _, _, _, rfl, rfl, hB, rfl, ?_⟩
      -- step
      refine ⟨_, rfl, B, _, _, _, rfl, rfl, SqL.of upd_same, rfl, _, rfl, B, _, _, _, rfl, rfl, SqL.of upd_same, rfl, _, _, rfl, rfl, .inr ⟨by decide, by decide⟩, _, _, rfl, rfl, .inl ⟨_, rfl, _, _, rfl, rfl, (by intro z; exact absurd z (by decide)), ?_⟩⟩
      have fs := fm0 (i := m + (cnt + 1) * 6007) (n := 2147483587) (by decide)
      -- box[3] = int(step ** 3 + 30011 * step + 977) % ..
      refine ⟨_, rfl, _, _, rfl, rfl, ⟨by decide, by decide, (show ((m + (cnt + 1) * 6007).fmod 2147483587).natAbs < 2 ^ 64 by omega)⟩, _, rfl, _, _, rfl, rfl, .inl ⟨by decide, by decide⟩, _, _, rfl, rfl, _, _, rfl, rfl, .inl ⟨_, rfl, _, _, rfl, rfl, (by intro z; exact absurd z (by decide)), _, rfl, B, _, _, _, rfl, rfl, upd_same, rfl, ?_⟩⟩
      have fm := fm0 (i := ((m + (cnt + 1) * 6007).fmod 2147483587) ^ (3 : Int).toNat + 30011 * ((m + (cnt + 1) * 6007).fmod 2147483587) + 977) (n := 2147483587) (by decide)
      -- the answer
      refine ⟨_, rfl, B, _, _, _, rfl, rfl, SqL.of upd_same, rfl, _, _, rfl, rfl, ⟨by decide, by decide⟩, _, rfl, B, _, _, _, rfl, rfl, SqL.of upd_same, rfl, .inl ⟨_, rfl, _, _, rfl, rfl, (by intro z; exact absurd z (by decide)), _, _, rfl, rfl, .inr ⟨by decide, by decide⟩, _, _, rfl, rfl, .inl ⟨_, rfl, _, rfl, _, _, rfl, rfl, (show n ≠ 0 by omega), ?_⟩⟩⟩
      refine fin _ c cells p r _ (cnt + 1) _ (fun a ne => by rw [upd_ne ne, upd_ne ne]; exact hk a ne) upd_same hc hl hp hr fm.1 fm.2 (by omega) (fm0 hn0).1 (fm0 hn0).2
  refine ⟨_, pss_cons (ps_if (PW.pt (pw_and (pt_cmpR op_eq (pe_ix (show IxR _ (rIxL K) from ix_list) (pv 0) pe_int (fun _ _ => rfl)) pe_int (nomark _)) (pw_and1 (pt_cmpR op_lt (pe_ix (show IxR _ (rIxL K) from ix_list) (pv 0) pe_int (fun _ _ => rfl)) (pe_callB (show CallR _ (.builtin "len") (fun xs H Q => ∃ x n, xs = [x] ∧ LenV K x H n ∧ Q (.int n) H) from call_len) (by rfl) G.g_len (by decide +kernel) (pa_cons (pe_ix (show IxR _ (rIxL K) from ix_list) (pv 0) pe_int (fun _ _ => rfl)) pa_nil)) (nomark _))))) (pss_cons (ps_set (i := 3) sc__law_take.nd rfl (Or.inl rfl) (pe_ix (show IxR _ (rIxL K) from ix_list) (pe_ix (show IxR _ (rIxL K) from ix_list) (pv 0) pe_int (fun _ _ => rfl)) (pe_ix (show IxR _ (rIxL K) from ix_list) (pv 0) pe_int (fun _ _ => rfl)) (fun _ _ => rfl)))
      (pss_cons (ps_asg (pe_op op_add (pe_ix (show IxR _ (rIxL K) from ix_list) (pv 0) pe_int (fun _ _ => rfl)) pe_int) (pg_sub (pv 0) pe_int set_list))
      (pss_cons (ps_asg (pe_op op_modN (pe_callTy call_int1 (by rfl) G.g_int (by decide +kernel) (pa_cons (pe_op op_add (pe_op op_add (pe_op op_mul (pe_ix (show IxR _ (rIxL K) from ix_list) (pv 0) pe_int (fun _ _ => rfl)) pe_int) (pe_op op_mul (pe_op op_modN (pe_callTy call_int1 (by rfl) G.g_int (by decide +kernel) (pa_cons (pv 3) pa_nil)) pe_int) pe_int)) pe_int) pa_nil)) pe_int) (pg_sub (pv 0) pe_int set_list))
      (pss_one (ps_if (pt_cmpR op_ge (pe_callB call_abs (by rfl) G.g_abs (by decide +kernel) (pa_cons (pv 3) pa_nil)) (pe_op op_pow pe_int pe_int) (nomark _)) (pss_one (ps_asg (pe_callB call_abs (by rfl) G.g_abs (by decide +kernel) (pa_cons (pv 3) pa_nil)) (pg_sub (pv 0) pe_int set_list))) pss_nil))))) pss_nil) h2, ?_⟩
  obtain ⟨c, cells, p, r, m, cnt, hB, hc, hl, hp, hr0, hm, hm2, hn⟩ := ok.x
  show (tSeq _ T2) _ [some (.ref B), some (.int n), none, none, none] H
  have go0 := w2 H c cells p r m cnt none none none (fun _ _ => rfl) hB hc hl hp hr0 hm hm2 hn
  refine ⟨_, rfl, B, _, _, _, rfl, rfl, SqL.of hB, rfl, rfl, _, rfl, ?_⟩
  refine ite2 (fun h => ?_) (fun h => iteF go0)
  have er : r = 0 := V.int.inj (of_decide_eq_true h)
  have hcH : SqL K H c (cells.map V.int) := SqL.of (ok.u _ _ hc)
  refine ⟨_, rfl, B, _, _, _, rfl, rfl, SqL.of hB, rfl, _, rfl, B, _, _, _, rfl, rfl, SqL.of hB, rfl, _, _, rfl, .inl ⟨_, hcH, rfl⟩, _, _, rfl, rfl, _, rfl, ?_⟩
  refine ite2 (fun h2 => ?_) (fun h2 => go0)
  have hp2 : p < ((cells.map V.int).length : Int) := of_decide_eq_true h2
  rw [List.length_map] at hp2
  obtain ⟨j, rfl⟩ : ∃ j : Nat, p = (j : Int) := ⟨p.toNat, by omega⟩
  have hj : j < cells.length := by omega
  have hat : atI (cells.map V.int) (j : Int) = some (.int cells[j]) := atI_nat (by rw [List.getElem?_map, List.getElem?_eq_getElem hj]; rfl)
  generalize cells[j] = cell at hat
  -- cell = box[0][box[1]]
  refine ⟨_, rfl, B, _, _, _, rfl, rfl, SqL.of hB, rfl, _, rfl, B, _, _, _, rfl, rfl, SqL.of hB, rfl, c, _, _, _, rfl, rfl, hcH, hat, ?_⟩
  -- box[1] = box[1] + 1
  refine ⟨_, rfl, B, _, _, _, rfl, rfl, SqL.of hB, rfl, _, _, rfl, rfl, _, rfl, B, _, _, _, rfl, rfl, hB, rfl, ?_⟩
  -- box[3] = ..
  refine ⟨_, rfl, B, _, _, _, rfl, rfl, SqL.of upd_same, rfl, _, _, rfl, rfl, .inr ⟨by decide, by decide⟩, _, rfl, .inl ⟨_, rfl, _, _, rfl, rfl, (by intro z; exact absurd z (by decide)), _, _, rfl, rfl, .inr ⟨by decide, by decide⟩, _, _, rfl, rfl, _, _, rfl, rfl, .inl ⟨_, rfl, _, _, rfl, rfl, (by intro z; exact absurd z (by decide)), _, rfl, B, _, _, _, rfl, rfl, upd_same, rfl, ?_⟩⟩⟩
  have fm := fm0 (i := m * 48271 + cell.fmod 2147483399 * 7 + 13) (n := 2147483587) (by decide)
  -- if abs(cell) >= 10 ** 18
  refine ⟨_, rfl, _, rfl, _, _, rfl, rfl, ⟨by decide, by decide, by decide⟩, _, _, rfl, rfl, _, rfl, ?_⟩
  refine ite2 (fun h3 => ?_) (fun h3 => ?_)
  · refine ⟨_, rfl, _, rfl, _, rfl, B, _, _, _, rfl, rfl, upd_same, rfl, ?_⟩
    exact w2 _ c cells (j + 1) (if cell < 0 then -cell else cell) _ cnt none (some (.int cell)) none (fun a ne => by rw [upd_ne ne, upd_ne ne, upd_ne ne]) upd_same hc hl (by omega) (by split <;> omega) fm.1 fm.2 hn
  · exact w2 _ c cells (j + 1) r _ cnt none (some (.int cell)) none (fun a ne => by rw [upd_ne ne, upd_ne ne]) upd_same hc hl (by omega) hr0 fm.1 fm.2 hn
end
section
variable {P : Program} {w : World} {K : PySem.W.Frag} {mg : Str → Option Value} {base : Heap}
/-! ### _law_pick -/
abbrev s__law_pick : Stmt := topS 20
abbrev N__law_pick : List Str := ["_law_box_here", "_law_some"]
theorem sc__law_pick : FnScope N__law_pick ["_law_box_here", "_law_some"] (defScope s__law_pick) := ⟨rfl, rfl, rfl, by decide +kernel, rfl, by decide +kernel, by decide +kernel⟩
abbrev pickPre : List D → Prop := p2 fun b l => b = .box ∧ ∃ xs, l = .lst xs ∧ 0 < xs.length ∧ xs.length ≤ 1000
def pickPost : List D → D → Prop := fun ds r => ∃ xs, ds = [.box, .lst xs] ∧ r ∈ xs
abbrev ClP (P : Program) (w : World) (K : PySem.W.Frag) (mg : Str → Option Value) (base : Heap) (k : Nat) := Cl P w K mg base k "_law_pick" s__law_pick ["_law_box_here", "_law_some"] (SpD K pickPre pickPost)
theorem ok__law_pick {k : Nat} (G : Gn mg) (F : Df K mg "_law_pick" s__law_pick) (C__law_take : ClT P w K mg base k) : ClP P w K mg base (k + 1) := by
  refine cl_of F sc__law_pick (fun _ _ _ _ _ _ us hl => match us, hl with | [_, _], _ => rfl) p2_len fun f cdv A outer s H E hr => ⟨_, (pss_one (ps_ret (pe_ix (show IxR _ (rIxL K) from ix_list) (pv 1) (pe_c C__law_take hr (by omega) (by rfl) (pa_cons (pv 0) (pa_cons (pe_callB (show CallR _ (.builtin "len") (fun xs H Q => ∃ x n, xs = [x] ∧ LenV K x H n ∧ Q (.int n) H) from call_len) (by rfl) G.g_len (by decide +kernel) (pa_cons (pv 1) pa_nil)) pa_nil))) (fun _ _ => rfl)))), fun B ds hp => ?_⟩
  obtain ⟨_, _, rfl, rfl, xs, rfl, h0, h1⟩ := p2_ex hp
  show WS K B _ [.val .box, .val (.lst xs)] _
  try dsimp only [cxOf, Cx.nox, Cx.blk]
  repeat walk_at "dl"
  refine ⟨⟨rfl, _, rfl, by omega, by omega⟩, ?_⟩
  rintro d ⟨n, i, e, rfl, hi0, hi1⟩
  cases e
  obtain ⟨j, rfl⟩ : ∃ j : Nat, i = (j : Int) := ⟨i.toNat, by omega⟩
  have hj : j < xs.length := by omega
  exact ro_ixL (atI_nat (List.getElem?_eq_getElem hj)) ⟨xs, rfl, List.getElem_mem hj⟩
/-! ### _law_same -/
def isNon : D → Bool | .non => true | _ => false
theorem ro_isN {B : Addr} {Pp : D → Prop} {a : D} (p : Pp (.bl (isNon a))) : RO K B (fun x y H Q => y = .non ∧ Q (.bl (decide (x = .non))) H) a .non Pp := fun _ _ x _ _ o hx hy q => by
  cases hy
  refine ⟨rfl, ?_⟩
  have e : decide (x = V.non) = isNon a := by cases hx <;> rfl
  rw [e]
  exact q.nil o (.bl _) p
theorem ro_eq5 {B : Addr} {Pp : D → Prop} {a b c d e : Bool} (p : Pp (.bl true)) : RO K B (rEqD K) (.lst [.bl a, .bl b, .bl c, .bl d, .bl e]) (.lst [.bl a, .bl b, .bl c, .bl d, .bl e]) Pp := fun G H x y _ o hx hy q => by
  have key : ∀ v, Dd K B G v (.lst [.bl a, .bl b, .bl c, .bl d, .bl e]) → Dp K H v (.list [.bool a, .bool b, .bool c, .bool d, .bool e]) := by
    intro v hv
    cases hv with
    | lst hg t =>
      cases t with
      | cons h1 t =>
        cases t with
        | cons h2 t =>
          cases t with
          | cons h3 t =>
            cases t with
            | cons h4 t =>
              cases t with
              | cons h5 t =>
                cases t; cases h1; cases h2; cases h3; cases h4; cases h5
                exact .lst (SqL.of (o.u _ _ hg)) (.cons (.bl a) (.cons (.bl b) (.cons (.bl c) (.cons (.bl d) (.cons (.bl e) .nil)))))
  have hsh : SeqAt.shaped (.list [.bool a, .bool b, .bool c, .bool d, .bool e]) = true := by
    cases a <;> cases b <;> cases c <;> cases d <;> cases e <;> decide +kernel
  refine ⟨_, _, key x hx, key y hy, hsh, hsh, ?_⟩
  have e : PyData.eqv (.list [.bool a, .bool b, .bool c, .bool d, .bool e]) (.list [.bool a, .bool b, .bool c, .bool d, .bool e]) = true := by
    cases a <;> cases b <;> cases c <;> cases d <;> cases e <;> decide +kernel
  rw [e]
  exact q.nil o (.bl true) p
abbrev s__law_same : Stmt := topS 21
abbrev N__law_same : List Str := ["_law_found", "_law_due", "_law_kinds", "_law_x", "_law_k"]
theorem sc__law_same : FnScope N__law_same ["_law_found", "_law_due"] (defScope s__law_same) := ⟨rfl, rfl, rfl, by decide +kernel, rfl, by decide +kernel, by decide +kernel⟩
/-- how deep, and of plain things alone -/
def plain : Nat → D → Bool
  | _, .non => true | _, .bl _ => true | _, .int _ => true | _, .str _ => true
  | n + 1, .lst xs => decide (xs.length ≤ 1000) && xs.all (plain n)
  | n + 1, .tup xs => decide (xs.length ≤ 1000) && xs.all (plain n)
  | _, _ => false
abbrev samePre (n : Nat) : List D → Prop := p2 fun a b => a = b ∧ plain n a = true
abbrev ClS (P : Program) (w : World) (K : PySem.W.Frag) (mg : Str → Option Value) (base : Heap) (k n : Nat) := Cl P w K mg base k "_law_same" s__law_same ["_law_found", "_law_due"] (SpD K (samePre n) fun ds r => r = (fun _ => D.bl true) ds)
theorem all_true : ∀ n : Nat, (upto 0 n).all (fun _ => true) = true := fun n => List.all_eq_true.mpr fun _ _ => rfl
theorem upto_mem {n : Nat} {d : D} (m : d ∈ upto 0 n) : ∃ j : Nat, d = .int j ∧ j < n := by
  unfold upto at m
  obtain ⟨j, hj, e⟩ := List.mem_map.mp m
  exact ⟨j, by rw [← e, Int.zero_add], List.mem_range.mp hj⟩
theorem upto_len {lo : Int} {n : Nat} : (upto lo n).length = n := by unfold upto; rw [List.length_map, List.length_range]
theorem same_body {k n : Nat} (G : Gn mg) (F : Df K mg "_law_same" s__law_same) (C__law_same : Cl P w K mg base k "_law_same" s__law_same ["_law_found", "_law_due"] (SpD K (p2 fun a b => a = b ∧ ∃ m, n = m + 1 ∧ plain m a = true) fun ds r => r = (fun _ => D.bl true) ds)) : ClS P w K mg base (k + 1) n := by
    refine cl_of F sc__law_same (fun _ _ _ _ _ _ us hl => match us, hl with | [_, _], _ => rfl) p2_len fun f cdv A outer s H E hr => ?_
    refine ⟨_, (pss_cons (ps_if (pt_val (pe_callB (show CallR _ (.builtin "isinstance") (rIsiT K) from call_isiT) (by rfl) G.g_isinstance (by decide +kernel) (pa_cons (pv 1) (pa_cons (pe_tup (pa_cons (pe_bltn (v := .ty "list") (u := .type "list") (by rfl) G.g_list (by decide +kernel) rfl) (pa_cons (pe_bltn (v := .ty "tuple") (u := .type "tuple") (by rfl) G.g_tuple (by decide +kernel) rfl) pa_nil))) pa_nil)))) (pss_cons (ps_if (PW.pt (pw_or (pt_cmpR op_ne (pe_callB (show CallR _ (.builtin "isinstance") (rIsi K) from call_isi) (by rfl) G.g_isinstance (by decide +kernel) (pa_cons (pv 0) (pa_cons (pe_bltn (v := .ty "list") (u := .type "list") (by rfl) G.g_list (by decide +kernel) rfl) pa_nil))) (pe_callB (show CallR _ (.builtin "isinstance") (rIsi K) from call_isi) (by rfl) G.g_isinstance (by decide +kernel) (pa_cons (pv 1) (pa_cons (pe_bltn (v := .ty "list") (u := .type "list") (by rfl) G.g_list (by decide +kernel) rfl) pa_nil))) (nomark _)) (pw_or1 (pt_cmpR op_ne (pe_callB (show CallR _ (.builtin "isinstance") (rIsi K) from call_isi) (by rfl) G.g_isinstance (by decide +kernel) (pa_cons (pv 0) (pa_cons (pe_bltn (v := .ty "tuple") (u := .type "tuple") (by rfl) G.g_tuple (by decide +kernel) rfl) pa_nil))) (pe_callB (show CallR _ (.builtin "isinstance") (rIsi K) from call_isi) (by rfl) G.g_isinstance (by decide +kernel) (pa_cons (pv 1) (pa_cons (pe_bltn (v := .ty "tuple") (u := .type "tuple") (by rfl) G.g_tuple (by decide +kernel) rfl) pa_nil))) (nomark _))))) (pss_one (ps_ret pe_bl)) pss_nil)
      (pss_one (ps_ret (pe_and (pe_cmpR op_eq (pe_callB (show CallR _ (.builtin "len") (fun xs H Q => ∃ x n, xs = [x] ∧ LenV K x H n ∧ Q (.int n) H) from call_len) (by rfl) G.g_len (by decide +kernel) (pa_cons (pv 0) pa_nil)) (pe_callB (show CallR _ (.builtin "len") (fun xs H Q => ∃ x n, xs = [x] ∧ LenV K x H n ∧ Q (.int n) H) from call_len) (by rfl) G.g_len (by decide +kernel) (pa_cons (pv 1) pa_nil)) (nomark _)) (pe_one (pe_callB (cr_all rfl) (by rfl) G.g_all (by decide +kernel) (pa_cons (pe_lc (own := [("_law_k", 4)]) (g := gName 4) (tt := tYes) rfl sc__law_same.nd (pi_range1 rfl G.g_range (pa_cons (pe_callB (show CallR _ (.builtin "len") (fun xs H Q => ∃ x n, xs = [x] ∧ LenV K x H n ∧ Q (.int n) H) from call_len) (by rfl) G.g_len (by decide +kernel) (pa_cons (pv 1) pa_nil)) pa_nil)) (blkOk_by (N := N__law_same) (sc := defScope s__law_same) (by decide +kernel)) (fun _ _ _ _ _ => pg_name (i := 4) sc__law_same.nd rfl (Or.inl rfl)) (fun _ _ _ _ _ => pts_nil) (fun _ _ _ _ _ => (pe_c C__law_same hr (by omega) (by rfl) (pa_cons (pe_ix (show IxR _ (rIx K) from ix_seq) (pv 0) (pv 4) (fun _ _ => rfl)) (pa_cons (pe_ix (show IxR _ (rIx K) from ix_seq) (pv 1) (pv 4) (fun _ _ => rfl)) pa_nil))))) pa_nil))))))) pss_nil)
      (pss_cons (ps_setLc (i := 2) (own := [("_law_x", 3)]) (g := gName 3) (tt := tYes) rfl sc__law_same.nd rfl rfl (sw_true rfl rfl rfl (by decide +kernel)) (pi_tup (pe_tup (pa_cons (pv 0) (pa_cons (pv 1) pa_nil)))) (blkOk_by (N := N__law_same) (sc := defScope s__law_same) (by decide +kernel)) (fun _ _ _ _ _ => pg_name (i := 3) sc__law_same.nd rfl (Or.inl rfl)) (fun _ _ _ _ _ => pts_nil) (fun _ _ _ _ _ => (pe_lst (pa_cons (pe_callB (show CallR _ (.builtin "isinstance") (rIsi K) from call_isi) (by rfl) G.g_isinstance (by decide +kernel) (pa_cons (pv 3) (pa_cons (pe_bltn (v := .ty "bool") (u := .type "bool") (by rfl) G.g_bool (by decide +kernel) rfl) pa_nil))) (pa_cons (pe_callB (show CallR _ (.builtin "isinstance") (rIsi K) from call_isi) (by rfl) G.g_isinstance (by decide +kernel) (pa_cons (pv 3) (pa_cons (pe_bltn (v := .ty "int") (u := .type "int") (by rfl) G.g_int (by decide +kernel) rfl) pa_nil))) (pa_cons (pe_callB (show CallR _ (.builtin "isinstance") (rIsi K) from call_isi) (by rfl) G.g_isinstance (by decide +kernel) (pa_cons (pv 3) (pa_cons (pe_bltn (v := .ty "str") (u := .type "str") (by rfl) G.g_str (by decide +kernel) rfl) pa_nil))) (pa_cons (pe_callB (show CallR _ (.builtin "isinstance") (rIsi K) from call_isi) (by rfl) G.g_isinstance (by decide +kernel) (pa_cons (pv 3) (pa_cons (pe_bltn (v := .ty "dict") (u := .type "dict") (by rfl) G.g_dict (by decide +kernel) rfl) pa_nil))) (pa_cons (pe_cmpR op_isN (pv 3) pe_non (nomark _)) pa_nil))))))))
      (pss_one (ps_ret (pe_and (pe_cmpR (op_eqD hr.units) (pe_ix (show IxR _ (rIxL K) from ix_list) (pv 2) pe_int (fun _ _ => rfl)) (pe_ix (show IxR _ (rIxL K) from ix_list) (pv 2) pe_int (fun _ _ => rfl)) (nomark _)) (pe_and (pe_not (pe_callB (show CallR _ (.builtin "isinstance") (rIsiT K) from call_isiT) (by rfl) G.g_isinstance (by decide +kernel) (pa_cons (pv 0) (pa_cons (pe_tup (pa_cons (pe_bltn (v := .ty "list") (u := .type "list") (by rfl) G.g_list (by decide +kernel) rfl) (pa_cons (pe_bltn (v := .ty "tuple") (u := .type "tuple") (by rfl) G.g_tuple (by decide +kernel) rfl) pa_nil))) pa_nil)))) (pe_one (pe_cmpR op_eq (pv 0) (pv 1) (nomark _))))))))), fun B ds hp => ?_⟩
    obtain ⟨d, _, rfl, rfl, hd⟩ := p2_ex hp
    show WS K B _ [.val d, .val d, .no, .no, .no] _
    try dsimp only [cxOf, Cx.nox, Cx.blk]
    cases d with
    | lst xs =>
      cases n with
      | zero => exact Bool.noConfusion hd
      | succ n =>
        have hd' : (decide (xs.length ≤ 1000) && xs.all (plain n)) = true := hd
        rw [Bool.and_eq_true, decide_eq_true_eq] at hd'
        obtain ⟨hl, ha⟩ := hd'
        repeat walk_at "dl"
        refine ite2 (fun _ => ?_) (fun h => absurd (decide_eq_true rfl) h)
        repeat walk_at "dl"
        refine we_lcmap (fun _ => .bl true) (wi_range1 ?_)
        repeat walk_at "dl"
        refine ⟨by omega, by omega, ?_, ?_, ?_⟩
        · rw [upto_len]; omega
        · intro d m
          obtain ⟨j, rfl, hj⟩ := upto_mem m
          have hj' : j < xs.length := by omega
          repeat walk_at "dl"
          refine ro_ixsL (atI_nat (List.getElem?_eq_getElem hj')) ?_
          repeat walk_at "dl"
          refine ro_ixsL (atI_nat (List.getElem?_eq_getElem hj')) ?_
          repeat walk_at "dl"
          exact ⟨⟨rfl, n, rfl, List.all_eq_true.mp ha _ (List.getElem_mem hj')⟩, rfl⟩
        · repeat walk_at "dl"
          show D.bl _ = D.bl true
          rw [all_true]
    | tup xs =>
      cases n with
      | zero => exact Bool.noConfusion hd
      | succ n =>
        have hd' : (decide (xs.length ≤ 1000) && xs.all (plain n)) = true := hd
        rw [Bool.and_eq_true, decide_eq_true_eq] at hd'
        obtain ⟨hl, ha⟩ := hd'
        repeat walk_at "dl"
        refine ite2 (fun _ => ?_) (fun h => absurd (decide_eq_true rfl) h)
        repeat walk_at "dl"
        refine we_lcmap (fun _ => .bl true) (wi_range1 ?_)
        repeat walk_at "dl"
        refine ⟨by omega, by omega, ?_, ?_, ?_⟩
        · rw [upto_len]; omega
        · intro d m
          obtain ⟨j, rfl, hj⟩ := upto_mem m
          have hj' : j < xs.length := by omega
          repeat walk_at "dl"
          refine ro_ixsT (atI_nat (List.getElem?_eq_getElem hj')) ?_
          repeat walk_at "dl"
          refine ro_ixsT (atI_nat (List.getElem?_eq_getElem hj')) ?_
          repeat walk_at "dl"
          exact ⟨⟨rfl, n, rfl, List.all_eq_true.mp ha _ (List.getElem_mem hj')⟩, rfl⟩
        · repeat walk_at "dl"
          show D.bl _ = D.bl true
          rw [all_true]
    | cls z => cases n <;> exact Bool.noConfusion hd
    | box => cases n <;> exact Bool.noConfusion hd
    | dic a b => cases n <;> exact Bool.noConfusion hd
    | non =>
      repeat walk_at "dl"
      refine we_lcmap (fun d => .lst [.bl (isBool d), .bl (Dl.isInt d), .bl (isStr d), .bl (isDic d), .bl (isNon d)]) (wi_tup ?_)
      repeat walk_at "dl"
      refine ⟨fun d m => ?_, ?_⟩
      · have hc : d.isCls = false := by
          rcases List.mem_cons.mp m with e | m
          · rw [e]; rfl
          · rw [List.mem_singleton.mp m]; rfl
        repeat walk_at "dl"
        refine ro_isN ?_
        repeat walk_at "dl"
        rfl
      · repeat walk_at "dl"
        refine ro_ixL (d := .lst [.bl _, .bl _, .bl _, .bl _, .bl _]) rfl ?_
        repeat walk_at "dl"
        refine ro_ixL (d := .lst [.bl _, .bl _, .bl _, .bl _, .bl _]) rfl ?_
        refine ro_eq5 ?_
        repeat walk_at "dl"
        first | (refine ro_eq rfl rfl rfl ?_) | skip
        show D.bl _ = D.bl true
        rw [decide_eq_true rfl]
    | bl b =>
      repeat walk_at "dl"
      refine we_lcmap (fun d => .lst [.bl (isBool d), .bl (Dl.isInt d), .bl (isStr d), .bl (isDic d), .bl (isNon d)]) (wi_tup ?_)
      repeat walk_at "dl"
      refine ⟨fun d m => ?_, ?_⟩
      · have hc : d.isCls = false := by
          rcases List.mem_cons.mp m with e | m
          · rw [e]; rfl
          · rw [List.mem_singleton.mp m]; rfl
        repeat walk_at "dl"
        refine ro_isN ?_
        repeat walk_at "dl"
        rfl
      · repeat walk_at "dl"
        refine ro_ixL (d := .lst [.bl _, .bl _, .bl _, .bl _, .bl _]) rfl ?_
        repeat walk_at "dl"
        refine ro_ixL (d := .lst [.bl _, .bl _, .bl _, .bl _, .bl _]) rfl ?_
        refine ro_eq5 ?_
        repeat walk_at "dl"
        first | (refine ro_eq rfl rfl rfl ?_) | skip
        show D.bl _ = D.bl true
        rw [decide_eq_true rfl]
    | int i =>
      repeat walk_at "dl"
      refine we_lcmap (fun d => .lst [.bl (isBool d), .bl (Dl.isInt d), .bl (isStr d), .bl (isDic d), .bl (isNon d)]) (wi_tup ?_)
      repeat walk_at "dl"
      refine ⟨fun d m => ?_, ?_⟩
      · have hc : d.isCls = false := by
          rcases List.mem_cons.mp m with e | m
          · rw [e]; rfl
          · rw [List.mem_singleton.mp m]; rfl
        repeat walk_at "dl"
        refine ro_isN ?_
        repeat walk_at "dl"
        rfl
      · repeat walk_at "dl"
        refine ro_ixL (d := .lst [.bl _, .bl _, .bl _, .bl _, .bl _]) rfl ?_
        repeat walk_at "dl"
        refine ro_ixL (d := .lst [.bl _, .bl _, .bl _, .bl _, .bl _]) rfl ?_
        refine ro_eq5 ?_
        repeat walk_at "dl"
        first | (refine ro_eq rfl rfl rfl ?_) | skip
        show D.bl _ = D.bl true
        rw [decide_eq_true rfl]
    | str z =>
      repeat walk_at "dl"
      refine we_lcmap (fun d => .lst [.bl (isBool d), .bl (Dl.isInt d), .bl (isStr d), .bl (isDic d), .bl (isNon d)]) (wi_tup ?_)
      repeat walk_at "dl"
      refine ⟨fun d m => ?_, ?_⟩
      · have hc : d.isCls = false := by
          rcases List.mem_cons.mp m with e | m
          · rw [e]; rfl
          · rw [List.mem_singleton.mp m]; rfl
        repeat walk_at "dl"
        refine ro_isN ?_
        repeat walk_at "dl"
        rfl
      · repeat walk_at "dl"
        refine ro_ixL (d := .lst [.bl _, .bl _, .bl _, .bl _, .bl _]) rfl ?_
        repeat walk_at "dl"
        refine ro_ixL (d := .lst [.bl _, .bl _, .bl _, .bl _, .bl _]) rfl ?_
        refine ro_eq5 ?_
        repeat walk_at "dl"
        first | (refine ro_eq rfl rfl rfl ?_) | skip
        show D.bl _ = D.bl true
        rw [decide_eq_true rfl]
theorem ok__law_same {k : Nat} (G : Gn mg) (F : Df K mg "_law_same" s__law_same) : ∀ n : Nat, ClS P w K mg base (k + n + 1) n := by
  intro n
  induction n with
  | zero =>
    refine same_body (k := k) G F ?_
    obtain ⟨f, fd, F, hm⟩ := F.ex
    have no : ∀ vs H Q E, ¬ SpD K (p2 fun a b => a = b ∧ ∃ m, 0 = m + 1 ∧ plain m a = true) (fun ds r => r = (fun _ => D.bl true) ds) vs H Q E := by
      rintro vs H Q E ⟨B, G1, ds, o, hs, hp, q⟩
      obtain ⟨a, b, rfl, e, m', hm, hpl⟩ := p2_ex hp
      exact absurd hm (by omega)
    exact ⟨f, fd, F, ⟨fun vs H Q E h => (no vs H Q E h).elim, fun A outer s H args us vs Q E _ _ _ _ h => (no vs H Q E h).elim⟩, hm, F.binds fun _ _ _ _ _ _ us hl => match us, hl with | [_, _], _ => rfl⟩
  | succ m ih =>
    refine same_body (k := k + m + 1) G F (ih.imp fun vs H Q E h => ?_)
    obtain ⟨B, G1, ds, o, hs, hp, q⟩ := h
    refine ⟨B, G1, ds, o, hs, ?_, q⟩
    obtain ⟨a, b, rfl, e, m', hm, hpl⟩ := p2_ex hp
    cases hm
    exact ⟨e, hpl⟩
end
section
variable {P : Program} {w : World} {K : PySem.W.Frag} {mg : Str → Option Value} {base : Heap}
/-! ### _law_word -/
abbrev s__law_word : Stmt := topS 23
abbrev N__law_word : List Str := ["_law_box_here", "_law_most_q", "_law_k"]
theorem sc__law_word : FnScope N__law_word ["_law_box_here", "_law_most_q"] (defScope s__law_word) := ⟨rfl, rfl, rfl, by decide +kernel, rfl, by decide +kernel, by decide +kernel⟩
abbrev wordPre : List D → Prop := p2 fun b m => b = .box ∧ ∃ n : Int, m = .int n ∧ 0 < n ∧ n ≤ 100
def wordPost : List D → D → Prop := fun _ r => ∃ z : Str, r = .str z ∧ z.length ≤ 200
abbrev ClW (P : Program) (w : World) (K : PySem.W.Frag) (mg : Str → Option Value) (base : Heap) (k : Nat) := Cl P w K mg base k "_law_word" s__law_word ["_law_box_here", "_law_most_q"] (SpD K wordPre wordPost)
theorem strs_of {m : Nat} : ∀ (acc : List D), (∀ d ∈ acc, ∃ z : Str, d = .str z ∧ z.length ≤ m) → ∃ ys : List Str, acc = ys.map D.str ∧ ∀ y ∈ ys, y.length ≤ m
  | [], _ => ⟨[], rfl, fun _ z => nomatch z⟩
  | d :: r, h => by
    obtain ⟨z, e, l⟩ := h d List.mem_cons_self
    obtain ⟨ys, e2, l2⟩ := strs_of r fun x hx => h x (List.mem_cons_of_mem _ hx)
    refine ⟨z :: ys, by rw [e, e2]; rfl, fun y hy => ?_⟩
    rcases List.mem_cons.mp hy with q | q
    · rw [q]; exact l
    · exact l2 y q
theorem join_len {ys : List Str} {m n : Nat} (h : ∀ y ∈ ys, y.length ≤ m) (l : ys.length ≤ n) : (ys.map (·.length)).sum + ys.length * ("" : Str).length ≤ n * m ∧ (Txt.join "" ys).length ≤ n * m := by
  have s := PySem.StrLaws.sumLen_le (B := m) ys h
  have s2 : ys.length * m ≤ n * m := Nat.mul_le_mul_right m l
  have e0 : ("" : Str).length = 0 := rfl
  refine ⟨by rw [e0]; omega, ?_⟩
  have e := PySem.size_glued "" ys
  show (Builtin.Str.glued "" ys).length ≤ _
  rw [e, e0]
  omega
theorem ok__law_word {k : Nat} (G : Gn mg) (F : Df K mg "_law_word" s__law_word) (C__law_take : ClT P w K mg base k) (C__law_letters : ClL P w K mg base k) : ClW P w K mg base (k + 1) := by
  refine cl_of F sc__law_word (fun _ _ _ _ _ _ us hl => match us, hl with | [_, _], _ => rfl) p2_len fun f cdv A outer s H E hr => ⟨_, (pss_one (ps_ret (pe_bm PySem.F.plainAttrs_str PySem.F.slot_str_join PySem.F.type_str_join mt_join pe_str (pa_cons (pe_lc (own := [("_law_k", 2)]) (g := gName 2) (tt := tYes) rfl sc__law_word.nd (pi_range1 rfl G.g_range (pa_cons (pe_op op_add pe_int (pe_c C__law_take hr (by omega) (by rfl) (pa_cons (pv 0) (pa_cons (pv 1) pa_nil)))) pa_nil)) (blkOk_by (N := N__law_word) (sc := defScope s__law_word) (by decide +kernel)) (fun _ _ _ _ _ => pg_name (i := 2) sc__law_word.nd rfl (Or.inl rfl)) (fun _ _ _ _ _ => pts_nil) (fun _ _ _ _ _ => (pe_ix ix_str (pe_c0 C__law_letters hr (by omega) (by rfl)) (pe_c C__law_take hr (by omega) (by rfl) (pa_cons (pv 0) (pa_cons pe_int pa_nil))) (fun _ _ => rfl)))) pa_nil)))), fun B ds hp => ?_⟩
  obtain ⟨_, _, rfl, rfl, n, rfl, h0, h1⟩ := p2_ex hp
  show WS K B _ [.val .box, .val (.int n), .no] _
  try dsimp only [cxOf, Cx.nox, Cx.blk]
  refine ws_ret (we_bm (fun _ _ _ _ o h => ty_str o h) ?_)
  repeat walk_at "dl"
  refine ⟨⟨_, rfl⟩, ?_⟩
  repeat walk_at "dl"
  refine we_lcall (fun d => ∃ z : Str, d = .str z ∧ z.length ≤ 1) (wi_range1 ?_)
  repeat walk_at "dl"
  refine ⟨⟨rfl, n, rfl, h0, by omega⟩, ?_⟩
  rintro d ⟨n', i, e, rfl, hi0, hi1⟩
  cases e
  repeat walk_at "dl"
  refine ⟨by omega, by omega, ?_, ?_, ?_⟩
  · rw [upto_len]; omega
  · intro d m
    repeat walk_at "dl"
    refine ⟨rfl, ?_⟩
    repeat walk_at "dl"
    refine ⟨⟨rfl, 26, rfl, by decide, by decide⟩, ?_⟩
    rintro d ⟨n'', j, e, rfl, hj0, hj1⟩
    cases e
    obtain ⟨q, rfl⟩ : ∃ q : Nat, j = (q : Int) := ⟨j.toNat, by omega⟩
    have hq : q < 26 := by omega
    have hq2 : q < (("abcdefghijklmnopqrstuvwxyz" : Str).cps.toList).length := hq
    exact ro_ixS (by decide) (atI_nat (List.getElem?_eq_getElem hq2)) ⟨_, rfl, Nat.le_refl 1⟩
  · intro acc el ha
    obtain ⟨ys, rfl, hy⟩ := strs_of acc ha
    rw [upto_len, List.length_map] at el
    repeat walk_at "dl"
    have jl := join_len (n := 200) hy (by omega)
    exact rm_join (by have := jl.1; omega) ⟨_, rfl, by have := jl.2; omega⟩
/-! ### dicts as displays -/
theorem we_dnew {B : Addr} {δ : List Sd} {Pp : D → Prop} (p : Pp (.dic [] [])) : WE K B tDNewK δ Pp := fun _ _ _ G H Q s q a ha => q.new s.ok ha (.dic (kvs := []) upd_same .nil) p
theorem we_disp1 {B : Addr} {δ : List Sd} {Pp : D → Prop} {z : Str} {i : Int} (p : Pp (.dic [.inr z] [.int i])) : WE K B (tDisp [(tC (.str z), tC (.int i))]) δ Pp := fun _ _ _ G H Q s q a ha => by
  refine ⟨upd_same, [(.inr z, .int i)], rfl, Nat.le_of_ble_eq_true rfl, ?_⟩
  have e : mergeK [] [((Sum.inr z : Key), V.int i)] = [(.inr z, .int i)] := rfl
  rw [e, upd_upd]
  exact q.new s.ok ha (.dic (kvs := [(.inr z, .int i)]) upd_same (.cons (.int i) .nil)) p
/-! ### _law_odd -/
abbrev s__law_odd : Stmt := topS 24
abbrev N__law_odd : List Str := ["_law_box_here"]
theorem sc__law_odd : FnScope N__law_odd ["_law_box_here"] (defScope s__law_odd) := ⟨rfl, rfl, rfl, by decide +kernel, rfl, by decide +kernel, by decide +kernel⟩
abbrev oddPre : List D → Prop := p1 fun b => b = .box
def oddPost : List D → D → Prop := fun _ r => sm r = true
abbrev ClO (P : Program) (w : World) (K : PySem.W.Frag) (mg : Str → Option Value) (base : Heap) (k : Nat) := Cl P w K mg base k "_law_odd" s__law_odd ["_law_box_here"] (SpD K oddPre oddPost)
theorem ok__law_odd {k : Nat} (G : Gn mg) (F : Df K mg "_law_odd" s__law_odd) (C__law_pick : ClP P w K mg base k) : ClO P w K mg base (k + 1) := by
  refine cl_of F sc__law_odd (fun _ _ _ _ _ _ us hl => match us, hl with | [_], _ => rfl) p1_len fun f cdv A outer s H E hr => ⟨_, (pss_one (ps_ret (pe_c C__law_pick hr (by omega) (by rfl) (pa_cons (pv 0) (pa_cons (pe_lst (pa_cons pe_non (pa_cons pe_bl (pa_cons pe_bl (pa_cons pe_int (pa_cons (pe_un un_neg pe_int) (pa_cons pe_int (pa_cons pe_str (pa_cons pe_str (pa_cons pe_str (pa_cons pe_str (pa_cons pe_str (pa_cons pe_str (pa_cons (pe_tup pa_nil) (pa_cons (pe_lst pa_nil) (pa_cons pe_dnewK (pa_cons (pe_tup (pa_cons pe_str pa_nil)) (pa_cons (pe_lst (pa_cons pe_str pa_nil)) (pa_cons (pe_disp (pps_cons pe_str pe_int pps_nil) (by rfl) (by rfl) (fun z => by cases z) (by decide)) (pa_cons (pe_tup (pa_cons pe_int (pa_cons pe_int pa_nil))) (pa_cons (pe_lst (pa_cons pe_int pa_nil)) (pa_cons (pe_tup (pa_cons pe_non pa_nil)) (pa_cons (pe_tup (pa_cons (pe_tup (pa_cons pe_int (pa_cons pe_int pa_nil))) (pa_cons (pe_tup (pa_cons pe_int (pa_cons pe_int pa_nil))) pa_nil))) pa_nil))))))))))))))))))))))) pa_nil))))), fun B ds hp => ?_⟩
  obtain ⟨_, rfl, rfl⟩ := p1_ex hp
  show WS K B _ [.val .box] _
  try dsimp only [cxOf, Cx.nox, Cx.blk]
  repeat (first | walk_at "dl" | refine we_dnew ?_ | refine we_disp1 ?_)
  refine ⟨⟨rfl, _, rfl, by decide, by decide⟩, ?_⟩
  rintro d ⟨xs, e, m⟩
  cases e
  have key : sms [D.non, .bl true, .bl false, .int 0, .int (-1), .int 5, .str "", .str "A", .str "ab1", .str "abcdefg", .str "a b", .str "a\n", .tup [], .lst [], .dic [] [], .tup [.str "a"], .lst [.str "a"], .dic [.inr "a"] [.int 1], .tup [.int 1, .int 2], .lst [.int 0], .tup [.non], .tup [.tup [.int 0, .int 0], .tup [.int 1, .int 0]]] = true := by decide +kernel
  exact sms_mem key m
end
section
variable {P : Program} {w : World} {K : PySem.W.Frag} {mg : Str → Option Value} {base : Heap}
abbrev boxPre : List D → Prop := p1 fun b => b = .box
/-! ### _law_dir -/
abbrev s__law_dir : Stmt := topS 26
abbrev N__law_dir : List Str := ["_law_box_here", "_law_near", "_law_way_z", "_law_size", "_law_by", "_law_u", "_law_v"]
theorem sc__law_dir : FnScope N__law_dir ["_law_box_here"] (defScope s__law_dir) := ⟨rfl, rfl, rfl, by decide +kernel, rfl, by decide +kernel, by decide +kernel⟩
def IsPair (r : D) : Prop := ∃ u v : Int, r = .tup [.int u, .int v]
def dirPost : List D → D → Prop := fun _ r => IsPair r
abbrev ClDir (P : Program) (w : World) (K : PySem.W.Frag) (mg : Str → Option Value) (base : Heap) (k : Nat) := Cl P w K mg base k "_law_dir" s__law_dir ["_law_box_here"] (SpD K boxPre dirPost)
theorem gcd_small {u v : Int} (hu : u.natAbs ≤ 999) (hv : v.natAbs ≤ 999) : Nat.gcd u.natAbs v.natAbs ≤ 999 := by
  by_cases h : u.natAbs = 0
  · rw [h, Nat.gcd_zero_left]; exact hv
  · exact Nat.le_trans (Nat.gcd_le_left _ (by omega)) hu
theorem pair_mem {xs : List D} (h : ∀ d ∈ xs, IsPair d) {d : D} (m : d ∈ xs) : IsPair d := h d m
theorem ok__law_dir {k : Nat} (G : Gn mg) (F : Df K mg "_law_dir" s__law_dir) (C__law_take : ClT P w K mg base k) (C__law_pick : ClP P w K mg base k) (C__law_gcd : ClG P w K mg base k) : ClDir P w K mg base (k + 1) := by
  refine cl_of F sc__law_dir (fun _ _ _ _ _ _ us hl => match us, hl with | [_], _ => rfl) p1_len fun f cdv A outer s H E hr => ⟨_, (pss_cons (ps_set (i := 1) sc__law_dir.nd rfl (Or.inl rfl) (pe_lst (pa_cons (pe_tup (pa_cons pe_int (pa_cons pe_int pa_nil))) (pa_cons (pe_tup (pa_cons pe_int (pa_cons pe_int pa_nil))) (pa_cons (pe_tup (pa_cons (pe_un un_neg pe_int) (pa_cons pe_int pa_nil))) (pa_cons (pe_tup (pa_cons pe_int (pa_cons (pe_un un_neg pe_int) pa_nil))) (pa_cons (pe_tup (pa_cons pe_int (pa_cons pe_int pa_nil))) (pa_cons (pe_tup (pa_cons (pe_un un_neg pe_int) (pa_cons pe_int pa_nil))) (pa_cons (pe_tup (pa_cons (pe_un un_neg pe_int) (pa_cons (pe_un un_neg pe_int) pa_nil))) (pa_cons (pe_tup (pa_cons pe_int (pa_cons (pe_un un_neg pe_int) pa_nil))) (pa_cons (pe_tup (pa_cons pe_int (pa_cons pe_int pa_nil))) (pa_cons (pe_tup (pa_cons (pe_un un_neg pe_int) (pa_cons pe_int pa_nil))) pa_nil))))))))))))
      (pss_cons (ps_set (i := 2) sc__law_dir.nd rfl (Or.inl rfl) (pe_c C__law_take hr (by omega) (by rfl) (pa_cons (pv 0) (pa_cons pe_int pa_nil))))
      (pss_cons (ps_if (pt_cmpR op_lt (pv 2) pe_int (nomark _)) (pss_one (ps_ret (pe_c C__law_pick hr (by omega) (by rfl) (pa_cons (pv 0) (pa_cons (pv 1) pa_nil))))) pss_nil)
      (pss_cons (ps_set (i := 3) sc__law_dir.nd rfl (Or.inl rfl) (pe_ifExp (pt_cmpR op_eq (pv 2) pe_int (nomark _)) pe_int pe_int))
      (pss_cons (ps_par (i := 5) (j := 6) (by rfl) sc__law_dir.nd rfl rfl (by decide) rfl rfl (pa_cons (pe_op op_sub (pe_c C__law_take hr (by omega) (by rfl) (pa_cons (pv 0) (pa_cons (pe_op op_add (pe_op op_mul pe_int (pv 3)) pe_int) pa_nil))) (pv 3)) (pa_cons (pe_op op_sub (pe_c C__law_take hr (by omega) (by rfl) (pa_cons (pv 0) (pa_cons (pe_op op_add (pe_op op_mul pe_int (pv 3)) pe_int) pa_nil))) (pv 3)) pa_nil)) (by rfl))
      (pss_cons (ps_set (i := 4) sc__law_dir.nd rfl (Or.inl rfl) (pe_c C__law_gcd hr (by omega) (by rfl) (pa_cons (pv 5) (pa_cons (pv 6) pa_nil))))
      (pss_one (ps_ret (pe_ifExp (pt_cmpR op_gt (pv 4) pe_int (nomark _)) (pe_tup (pa_cons (pe_op op_fdivN (pv 5) (pv 4)) (pa_cons (pe_op op_fdivN (pv 6) (pv 4)) pa_nil))) (pe_tup (pa_cons pe_int (pa_cons pe_int pa_nil)))))))))))), fun B ds hp => ?_⟩
  obtain ⟨_, rfl, rfl⟩ := p1_ex hp
  show WS K B _ [.val .box, .no, .no, .no, .no, .no, .no] _
  try dsimp only [cxOf, Cx.nox, Cx.blk]
  repeat walk_at "dl"
  refine ⟨⟨rfl, 4, rfl, by decide, by decide⟩, ?_⟩
  rintro d ⟨n', i, e, rfl, hi0, hi1⟩
  cases e
  try dsimp only [List.set]
  repeat walk_at "dl"
  refine ite2 (fun h => ?_) (fun h => ?_)
  · repeat walk_at "dl"
    refine ⟨⟨rfl, _, rfl, by decide, by decide⟩, ?_⟩
    rintro d ⟨xs, e, m⟩
    cases e
    refine pair_mem (fun d hd => ?_) m
    simp only [List.mem_cons, List.not_mem_nil, or_false] at hd
    rcases hd with rfl | rfl | rfl | rfl | rfl | rfl | rfl | rfl | rfl | rfl <;> exact ⟨_, _, rfl⟩
  · repeat walk_at "dl"
    refine ite2 (fun h2 => ?_) (fun h2 => ?_)
    all_goals repeat walk_at "dl"
    all_goals refine ro_int (.inl ⟨by decide, by decide⟩) ?_
    all_goals repeat walk_at "dl"
    all_goals refine ⟨⟨rfl, _, rfl, by decide, by decide⟩, ?_⟩
    all_goals rintro d ⟨n', a, e, rfl, ha0, ha1⟩
    all_goals cases e
    all_goals repeat walk_at "dl"
    all_goals refine ro_int (.inl ⟨by decide, by decide⟩) ?_
    all_goals repeat walk_at "dl"
    all_goals refine ⟨⟨rfl, _, rfl, by decide, by decide⟩, ?_⟩
    all_goals rintro d ⟨n', b, e, rfl, hb0, hb1⟩
    all_goals cases e
    all_goals repeat walk_at "dl"
    all_goals refine ⟨⟨⟨_, rfl⟩, _, rfl⟩, ?_⟩
    all_goals dsimp only [f2, gcdF, List.set]
    all_goals repeat walk_at "dl"
    all_goals (refine ite2 (fun h3 => ?_) (fun h3 => ?_))
    all_goals repeat walk_at "dl"
    all_goals first | exact ⟨_, _, rfl⟩ | skip
    all_goals have h4 := of_decide_eq_true h3
    all_goals (first
      | have hg := gcd_small (u := a - 9) (v := b - 9) (by omega) (by omega); refine ro_int ⟨by omega, by omega⟩ ?_
      | have hg := gcd_small (u := a - 999) (v := b - 999) (by omega) (by omega); refine ro_int ⟨by omega, by omega⟩ ?_)
    all_goals repeat walk_at "dl"
    all_goals refine ro_int ⟨by omega, by omega⟩ ?_
    all_goals repeat walk_at "dl"
    all_goals exact ⟨_, _, rfl⟩
/-! ### _law_tool -/
abbrev s__law_tool : Stmt := topS 32
abbrev N__law_tool : List Str := ["_law_box_here", "_law_far", "_law_spot"]
theorem sc__law_tool : FnScope N__law_tool ["_law_box_here"] (defScope s__law_tool) := ⟨rfl, rfl, rfl, by decide +kernel, rfl, by decide +kernel, by decide +kernel⟩
def IsTool (r : D) : Prop := ∃ a b u v : Int, r = .tup [.tup [.int a, .int b], .tup [.int u, .int v]]
def toolPost : List D → D → Prop := fun _ r => IsTool r
abbrev ClTool (P : Program) (w : World) (K : PySem.W.Frag) (mg : Str → Option Value) (base : Heap) (k : Nat) := Cl P w K mg base k "_law_tool" s__law_tool ["_law_box_here"] (SpD K boxPre toolPost)
theorem ok__law_tool {k : Nat} (G : Gn mg) (F : Df K mg "_law_tool" s__law_tool) (C__law_take : ClT P w K mg base k) (C__law_pick : ClP P w K mg base k) (C__law_dir : ClDir P w K mg base k) : ClTool P w K mg base (k + 1) := by
  refine cl_of F sc__law_tool (fun _ _ _ _ _ _ us hl => match us, hl with | [_], _ => rfl) p1_len fun f cdv A outer s H E hr => ⟨_, (pss_cons (ps_set (i := 1) sc__law_tool.nd rfl (Or.inl rfl) (pe_c C__law_pick hr (by omega) (by rfl) (pa_cons (pv 0) (pa_cons (pe_lst (pa_cons pe_int (pa_cons pe_int (pa_cons pe_int (pa_cons pe_int pa_nil))))) pa_nil))))
      (pss_cons (ps_set (i := 2) sc__law_tool.nd rfl (Or.inl rfl) (pe_tup (pa_cons (pe_op op_sub (pe_c C__law_take hr (by omega) (by rfl) (pa_cons (pv 0) (pa_cons (pe_op op_add (pe_op op_mul pe_int (pv 1)) pe_int) pa_nil))) (pv 1)) (pa_cons (pe_op op_sub (pe_c C__law_take hr (by omega) (by rfl) (pa_cons (pv 0) (pa_cons (pe_op op_add (pe_op op_mul pe_int (pv 1)) pe_int) pa_nil))) (pv 1)) pa_nil))))
      (pss_cons (ps_if (pt_cmpR op_eq (pe_c C__law_take hr (by omega) (by rfl) (pa_cons (pv 0) (pa_cons pe_int pa_nil))) pe_int (nomark _)) (pss_one (ps_set (i := 2) sc__law_tool.nd rfl (Or.inl rfl) (pe_c C__law_pick hr (by omega) (by rfl) (pa_cons (pv 0) (pa_cons (pe_lst (pa_cons (pe_tup (pa_cons pe_int (pa_cons (pe_un un_neg pe_int) pa_nil))) (pa_cons (pe_tup (pa_cons (pe_un un_neg pe_int) (pa_cons pe_int pa_nil))) (pa_cons (pe_tup (pa_cons pe_int (pa_cons pe_int pa_nil))) (pa_cons (pe_tup (pa_cons (pe_un un_neg pe_int) (pa_cons pe_int pa_nil))) pa_nil))))) pa_nil))))) pss_nil)
      (pss_one (ps_ret (pe_tup (pa_cons (pv 2) (pa_cons (pe_c C__law_dir hr (by omega) (by rfl) (pa_cons (pv 0) pa_nil)) pa_nil)))))))), fun B ds hp => ?_⟩
  obtain ⟨_, rfl, rfl⟩ := p1_ex hp
  show WS K B _ [.val .box, .no, .no] _
  try dsimp only [cxOf, Cx.nox, Cx.blk]
  repeat walk_at "dl"
  refine ⟨⟨rfl, _, rfl, by decide, by decide⟩, ?_⟩
  rintro d ⟨xs, e, m⟩
  cases e
  obtain ⟨z, rfl, hz0, hz1⟩ : ∃ z : Int, d = .int z ∧ 20 ≤ z ∧ z ≤ 200 := by
    simp only [List.mem_cons, List.not_mem_nil, or_false] at m
    rcases m with rfl | rfl | rfl | rfl <;> exact ⟨_, rfl, by decide, by decide⟩
  try dsimp only [List.set]
  repeat walk_at "dl"
  refine ro_int (.inl ⟨by decide, by decide⟩) ?_
  repeat walk_at "dl"
  refine ⟨⟨rfl, _, rfl, by omega, by omega⟩, ?_⟩
  rintro d ⟨n', a, e, rfl, ha0, ha1⟩
  cases e
  repeat walk_at "dl"
  refine ro_int (.inl ⟨by decide, by decide⟩) ?_
  repeat walk_at "dl"
  refine ⟨⟨rfl, _, rfl, by omega, by omega⟩, ?_⟩
  rintro d ⟨n', b, e, rfl, hb0, hb1⟩
  cases e
  repeat walk_at "dl"
  refine ⟨⟨rfl, _, rfl, by decide, by decide⟩, ?_⟩
  rintro d ⟨n', c, e, rfl, hc0, hc1⟩
  cases e
  repeat walk_at "dl"
  refine ite2 (fun h => ?_) (fun h => ?_)
  · repeat walk_at "dl"
    refine ⟨⟨rfl, _, rfl, by decide, by decide⟩, ?_⟩
    rintro d ⟨xs, e, m⟩
    cases e
    obtain ⟨x, y, rfl⟩ : IsPair d := by
      simp only [List.mem_cons, List.not_mem_nil, or_false] at m
      rcases m with rfl | rfl | rfl | rfl <;> exact ⟨_, _, rfl⟩
    repeat walk_at "dl"
    refine ⟨rfl, ?_⟩
    rintro d ⟨u, v, rfl⟩
    repeat walk_at "dl"
    exact ⟨_, _, _, _, rfl⟩
  · repeat walk_at "dl"
    refine ⟨rfl, ?_⟩
    rintro d ⟨u, v, rfl⟩
    repeat walk_at "dl"
    exact ⟨_, _, _, _, rfl⟩
end
section
variable {P : Program} {w : World} {K : PySem.W.Frag} {mg : Str → Option Value} {base : Heap}
/-! ### _law_bent_pair -/
abbrev s__law_bent_pair : Stmt := topS 34
abbrev N__law_bent_pair : List Str := ["_law_box_here", "_law_x", "_law_new", "_law_at_z", "_law_way_z"]
theorem sc__law_bent_pair : FnScope N__law_bent_pair ["_law_box_here", "_law_x"] (defScope s__law_bent_pair) := ⟨rfl, rfl, rfl, by decide +kernel, rfl, by decide +kernel, by decide +kernel⟩
def smPost : List D → D → Prop := fun _ r => sm r = true
abbrev bpPre : List D → Prop := p2 fun b x => b = .box ∧ IsPair x
abbrev ClBp (P : Program) (w : World) (K : PySem.W.Frag) (mg : Str → Option Value) (base : Heap) (k : Nat) := Cl P w K mg base k "_law_bent_pair" s__law_bent_pair ["_law_box_here", "_law_x"] (SpD K bpPre smPost)
theorem cutD_sm {xs : List D} {lo hi : Option Int} (h : xs.length ≤ 1000) (hs : sms xs = true) : (Dl.cutD xs lo hi).length ≤ 1000 ∧ sms (Dl.cutD xs lo hi) = true := by
  have key : ∀ ys : List D, (∀ y ∈ ys, sm y = true) → sms ys = true := by
    intro ys
    induction ys with
    | nil => intro _; rfl
    | cons y r ih =>
      intro hy
      show (sm y && sms r) = true
      rw [hy y List.mem_cons_self, ih fun z hz => hy z (List.mem_cons_of_mem _ hz)]
      rfl
  unfold Dl.cutD
  refine ⟨by rw [List.length_take, List.length_drop]; omega, key _ fun y hy => sms_mem hs (List.mem_of_mem_drop (List.mem_of_mem_take hy))⟩
theorem sms_app : ∀ {xs ys : List D}, sms xs = true → sms ys = true → sms (xs ++ ys) = true
  | [], _, _, h => h
  | x :: xs, ys, h1, h2 => by
    have h1' : (sm x && sms xs) = true := h1
    rw [Bool.and_eq_true] at h1'
    show (sm x && sms (xs ++ ys)) = true
    rw [h1'.1, sms_app h1'.2 h2]
    rfl
theorem sm_tup_mk {xs : List D} (h : xs.length ≤ 1000) (hs : sms xs = true) : sm (.tup xs) = true := by
  show (decide (xs.length ≤ 1000) && sms xs) = true
  rw [decide_eq_true h, hs]
  rfl
theorem ok__law_bent_pair {k : Nat} (G : Gn mg) (F : Df K mg "_law_bent_pair" s__law_bent_pair) (C__law_take : ClT P w K mg base k) (C__law_pick : ClP P w K mg base k) : ClBp P w K mg base (k + 1) := by
  refine cl_of F sc__law_bent_pair (fun _ _ _ _ _ _ us hl => match us, hl with | [_, _], _ => rfl) p2_len fun f cdv A outer s H E hr => ⟨_, (pss_cons (ps_par (i := 3) (j := 4) (by rfl) sc__law_bent_pair.nd rfl rfl (by decide) rfl rfl (pa_cons (pe_c C__law_take hr (by omega) (by rfl) (pa_cons (pv 0) (pa_cons pe_int pa_nil))) (pa_cons (pe_c C__law_take hr (by omega) (by rfl) (pa_cons (pv 0) (pa_cons pe_int pa_nil))) pa_nil)) (by rfl))
      (pss_cons (ps_if (pt_cmpR op_eq (pv 4) pe_int (nomark _)) (pss_one (ps_ret (pe_callTy call_list_of (by rfl) G.g_list (by decide +kernel) (pa_cons (pv 1) pa_nil)))) pss_nil)
      (pss_cons (ps_if (pt_cmpR op_eq (pv 4) pe_int (nomark _)) (pss_one (ps_ret (pe_op op_catA (pv 1) (pe_tup (pa_cons pe_int pa_nil))))) pss_nil)
      (pss_cons (ps_if (pt_cmpR op_eq (pv 4) pe_int (nomark _)) (pss_one (ps_ret (pe_slice sl_tupA (pv 1) po_none (po_some pe_int)))) pss_nil)
      (pss_cons (ps_if (pt_cmpR op_eq (pv 4) pe_int (nomark _)) (pss_one (ps_ret (pe_revT (pv 1)))) pss_nil)
      (pss_cons (ps_if (pt_cmpR op_eq (pv 4) pe_int (nomark _)) (pss_one (ps_ret (pe_tup (pa_cons (pe_op op_mul (pe_ix (show IxR _ (rIxT K) from ix_tup) (pv 1) pe_int (fun _ _ => rfl)) pe_int) (pa_cons (pe_op op_mul (pe_ix (show IxR _ (rIxT K) from ix_tup) (pv 1) pe_int (fun _ _ => rfl)) pe_int) pa_nil))))) pss_nil)
      (pss_cons (ps_set (i := 2) sc__law_bent_pair.nd rfl (Or.inl rfl) (pe_c C__law_pick hr (by omega) (by rfl) (pa_cons (pv 0) (pa_cons (pe_lst (pa_cons pe_non (pa_cons pe_bl (pa_cons pe_str (pa_cons pe_int (pa_cons pe_int (pa_cons (pe_un un_neg pe_int) (pa_cons (pe_un un_neg pe_int) (pa_cons pe_int (pa_cons pe_int (pa_cons (pe_un un_neg pe_int) (pa_cons (pe_un un_neg pe_int) (pa_cons pe_int (pa_cons (pe_tup (pa_cons pe_int pa_nil)) (pa_cons (pe_lst (pa_cons pe_int pa_nil)) (pa_cons (pe_op op_add (pe_ix (show IxR _ (rIxT K) from ix_tup) (pv 1) (pv 3) (fun _ _ => rfl)) pe_int) (pa_cons pe_int (pa_cons pe_bl pa_nil)))))))))))))))))) pa_nil))))
      (pss_one (ps_ret (pe_op op_catA (pe_op op_catA (pe_slice sl_tupA (pv 1) po_none (po_some (pv 3))) (pe_tup (pa_cons (pv 2) pa_nil))) (pe_slice sl_tupA (pv 1) (po_some (pe_op op_add (pv 3) pe_int)) po_none))))))))))), fun B ds hp => ?_⟩
  obtain ⟨_, _, rfl, rfl, x, y, rfl⟩ := p2_ex hp
  show WS K B _ [.val .box, .val (.tup [.int x, .int y]), .no, .no, .no] _
  try dsimp only [cxOf, Cx.nox, Cx.blk]
  repeat walk_at "dl"
  refine ⟨⟨rfl, _, rfl, by decide, by decide⟩, ?_⟩
  rintro d ⟨n', a, e, rfl, ha0, ha1⟩
  cases e
  repeat walk_at "dl"
  refine ⟨⟨rfl, _, rfl, by decide, by decide⟩, ?_⟩
  rintro d ⟨n', b, e, rfl, hb0, hb1⟩
  cases e
  repeat walk_at "dl"
  refine ite2 (fun h => ?_) (fun h => ?_)
  · repeat walk_at "dl"
    exact (rc_listOf (by show sm _ = true; rfl)).2
  repeat walk_at "dl"
  refine ite2 (fun h => ?_) (fun h => ?_)
  · repeat walk_at "dl"
    exact ro_catA (Nat.le_of_ble_eq_true rfl) (show sm _ = true from rfl)
  repeat walk_at "dl"
  refine ite2 (fun h => ?_) (fun h => ?_)
  · repeat walk_at "dl"
    exact rs_T (show sm _ = true from rfl)
  repeat walk_at "dl"
  refine ite2 (fun h => ?_) (fun h => ?_)
  · repeat walk_at "dl"
    refine we_rev2 ?_
    repeat walk_at "dl"
    exact (show sm _ = true from rfl)
  repeat walk_at "dl"
  refine ite2 (fun h => ?_) (fun h => ?_)
  · repeat walk_at "dl"
    refine ro_ixT (d := .int x) rfl ?_
    repeat walk_at "dl"
    refine ro_int (.inr ⟨by decide, by decide⟩) ?_
    repeat walk_at "dl"
    refine ro_ixT (d := .int y) rfl ?_
    repeat walk_at "dl"
    refine ro_int (.inr ⟨by decide, by decide⟩) ?_
    repeat walk_at "dl"
    exact (show sm _ = true from rfl)
  repeat walk_at "dl"
  obtain ⟨q, hq⟩ : ∃ q : Int, atI [D.int x, .int y] a = some (.int q) := by
    have : a = 0 ∨ a = 1 := by omega
    rcases this with rfl | rfl
    · exact ⟨x, rfl⟩
    · exact ⟨y, rfl⟩
  refine ro_ixT hq ?_
  repeat walk_at "dl"
  refine ⟨⟨rfl, _, rfl, Nat.le_of_ble_eq_true rfl, Nat.le_of_ble_eq_true rfl⟩, ?_⟩
  rintro d ⟨xs, e, m⟩
  cases e
  have hd : sm d = true := by
    refine sms_mem (xs := _) ?_ m
    rfl
  have h2 : sms [D.int x, .int y] = true := rfl
  repeat walk_at "dl"
  refine rs_T ?_
  repeat walk_at "dl"
  obtain ⟨l1, s1⟩ := cutD_sm (xs := [D.int x, .int y]) (lo := none) (hi := some a) (Nat.le_of_ble_eq_true rfl) h2
  obtain ⟨l2, s2⟩ := cutD_sm (xs := [D.int x, .int y]) (lo := some (a + 1)) (hi := none) (Nat.le_of_ble_eq_true rfl) h2
  have l1' : (Dl.cutD [D.int x, .int y] none (some a)).length ≤ 2 := by unfold Dl.cutD; rw [List.length_take, List.length_drop]; simp; omega
  have l2' : (Dl.cutD [D.int x, .int y] (some (a + 1)) none).length ≤ 2 := by unfold Dl.cutD; rw [List.length_take, List.length_drop]; simp; omega
  have s3 : sms [d] = true := by show (sm d && true) = true; rw [hd]; rfl
  refine ro_catA (by simp only [List.length_cons, List.length_nil]; omega) ?_
  repeat walk_at "dl"
  refine rs_T ?_
  refine ro_catA (by simp only [List.length_append, List.length_cons, List.length_nil]; omega) ?_
  exact sm_tup_mk (by simp only [List.length_append, List.length_cons, List.length_nil]; omega) (sms_app (sms_app s1 s3) s2)
end
section
variable {P : Program} {w : World} {K : PySem.W.Frag} {mg : Str → Option Value} {base : Heap}
def Good (d : D) : Prop := (∃ z : Str, d = .str z ∧ z.length ≤ 200) ∨ IsPair d ∨ IsTool d
theorem cutS_len (z : Str) (lo hi : Option Int) : (cutS z lo hi).length ≤ z.length := by
  show ((z.cps.toList.drop (HT.sIx z.length 0 lo)).take (HT.sIx z.length z.length hi - HT.sIx z.length 0 lo)).toArray.size ≤ z.cps.size
  rw [List.size_toArray, List.length_take, List.length_drop, Array.length_toList]
  omega
theorem rm_upper {B : Addr} {Pp : D → Prop} {a : Str} (l : a.length ≤ 300) (p : Pp (.str (Txt.upper a))) : RM K B (fun x xs H Q => ∃ a, x = .str a ∧ xs = [] ∧ a.length ≤ 5592405 ∧ Q (.str (Txt.upper a)) H) (.str a) [] Pp := fun _ _ _ _ _ o hx hs q => by
  cases hx
  cases hs
  exact ⟨a, rfl, rfl, by omega, q.nil o (.str _) p⟩
theorem sm_str_mk {z : Str} (h : z.length ≤ 1000) : sm (.str z) = true := decide_eq_true h
theorem sm_str1 {z : Str} (h : z.length ≤ 1000) : sm (.tup [.str z]) = true ∧ sm (.lst [.str z]) = true := by
  constructor
  · show (decide (1 ≤ 1000) && (sm (.str z) && true)) = true
    rw [sm_str_mk h]; rfl
  · show (decide (1 ≤ 1000) && (sm (.str z) && true)) = true
    rw [sm_str_mk h]; rfl
theorem app_len (a b : Str) : (a ++ b).length = a.length + b.length := Str.length_append a b
/-! ### _law_bent -/
abbrev s__law_bent : Stmt := topS 35
abbrev N__law_bent : List Str := ["_law_box_here", "_law_x", "_law_at_z", "_law_sign"]
theorem sc__law_bent : FnScope N__law_bent ["_law_box_here", "_law_x"] (defScope s__law_bent) := ⟨rfl, rfl, rfl, by decide +kernel, rfl, by decide +kernel, by decide +kernel⟩
abbrev bentPre : List D → Prop := p2 fun b x => b = .box ∧ Good x
abbrev ClBe (P : Program) (w : World) (K : PySem.W.Frag) (mg : Str → Option Value) (base : Heap) (k : Nat) := Cl P w K mg base k "_law_bent" s__law_bent ["_law_box_here", "_law_x"] (SpD K bentPre smPost)
theorem ok__law_bent {k : Nat} (G : Gn mg) (F : Df K mg "_law_bent" s__law_bent) (C__law_take : ClT P w K mg base k) (C__law_pick : ClP P w K mg base k) (C__law_bent_pair : ClBp P w K mg base k) : ClBe P w K mg base (k + 1) := by
  refine cl_of F sc__law_bent (fun _ _ _ _ _ _ us hl => match us, hl with | [_, _], _ => rfl) p2_len fun f cdv A outer s H E hr => ⟨_, (pss_cons (ps_if (pt_val (pe_callB (show CallR _ (.builtin "isinstance") (rIsi K) from call_isi) (by rfl) G.g_isinstance (by decide +kernel) (pa_cons (pv 1) (pa_cons (pe_bltn (v := .ty "str") (u := .type "str") (by rfl) G.g_str (by decide +kernel) rfl) pa_nil)))) (pss_cons (ps_set (i := 2) sc__law_bent.nd rfl (Or.inl rfl) (pe_c C__law_take hr (by omega) (by rfl) (pa_cons (pv 0) (pa_cons (pe_op op_add (pe_callB (show CallR _ (.builtin "len") (fun xs H Q => ∃ x n, xs = [x] ∧ LenV K x H n ∧ Q (.int n) H) from call_len) (by rfl) G.g_len (by decide +kernel) (pa_cons (pv 1) pa_nil)) pe_int) pa_nil))))
      (pss_cons (ps_set (i := 3) sc__law_bent.nd rfl (Or.inl rfl) (pe_c C__law_pick hr (by omega) (by rfl) (pa_cons (pv 0) (pa_cons (pe_lst (pa_cons pe_str (pa_cons pe_str (pa_cons pe_str (pa_cons pe_str (pa_cons pe_str (pa_cons pe_str (pa_cons pe_str (pa_cons pe_str (pa_cons pe_str (pa_cons pe_str pa_nil))))))))))) pa_nil))))
      (pss_one (ps_ret (pe_c C__law_pick hr (by omega) (by rfl) (pa_cons (pv 0) (pa_cons (pe_lst (pa_cons (pe_op op_add_str (pe_op op_add_str (pe_slice sl_str (pv 1) po_none (po_some (pv 2))) (pv 3)) (pe_slice sl_str (pv 1) (po_some (pe_op op_add (pv 2) (pe_c C__law_take hr (by omega) (by rfl) (pa_cons (pv 0) (pa_cons pe_int pa_nil))))) po_none)) (pa_cons (pe_tup (pa_cons (pv 1) pa_nil)) (pa_cons (pe_lst (pa_cons (pv 1) pa_nil)) (pa_cons (pe_op op_add_str (pv 1) (pv 1)) (pa_cons (pe_bm0 PySem.F.plainAttrs_str PySem.F.slot_str_upper PySem.F.type_str_upper mt_upper (pv 1) ) pa_nil)))))) pa_nil))))))) pss_nil)
      (pss_cons (ps_if (pt_val (pe_callB (show CallR _ (.builtin "isinstance") (rIsi K) from call_isi) (by rfl) G.g_isinstance (by decide +kernel) (pa_cons (pe_ix (show IxR _ (rIxT K) from ix_tup) (pv 1) pe_int (fun _ _ => rfl)) (pa_cons (pe_bltn (v := .ty "tuple") (u := .type "tuple") (by rfl) G.g_tuple (by decide +kernel) rfl) pa_nil)))) (pss_cons (ps_if (pt_cmpR op_eq (pe_c C__law_take hr (by omega) (by rfl) (pa_cons (pv 0) (pa_cons pe_int pa_nil))) pe_int (nomark _)) (pss_one (ps_ret (pe_c C__law_pick hr (by omega) (by rfl) (pa_cons (pv 0) (pa_cons (pe_lst (pa_cons (pe_callTy call_list_of (by rfl) G.g_list (by decide +kernel) (pa_cons (pv 1) pa_nil)) (pa_cons (pe_op op_catA (pv 1) (pe_tup (pa_cons (pe_ix (show IxR _ (rIxT K) from ix_tup) (pv 1) pe_int (fun _ _ => rfl)) pa_nil))) (pa_cons (pe_slice sl_tupA (pv 1) po_none (po_some pe_int)) (pa_cons (pe_tup (pa_cons (pe_ix (show IxR _ (rIxT K) from ix_tup) (pv 1) pe_int (fun _ _ => rfl)) (pa_cons (pe_ix (show IxR _ (rIxT K) from ix_tup) (pv 1) pe_int (fun _ _ => rfl)) pa_nil))) (pa_cons (pe_op op_catA (pe_ix (show IxR _ (rIxT K) from ix_tup) (pv 1) pe_int (fun _ _ => rfl)) (pe_ix (show IxR _ (rIxT K) from ix_tup) (pv 1) pe_int (fun _ _ => rfl))) pa_nil)))))) pa_nil))))) pss_nil)
      (pss_one (ps_ret (pe_ifExp (pt_cmpR op_eq (pe_c C__law_take hr (by omega) (by rfl) (pa_cons (pv 0) (pa_cons pe_int pa_nil))) pe_int (nomark _)) (pe_tup (pa_cons (pe_c C__law_bent_pair hr (by omega) (by rfl) (pa_cons (pv 0) (pa_cons (pe_ix (show IxR _ (rIxT K) from ix_tup) (pv 1) pe_int (fun _ _ => rfl)) pa_nil))) (pa_cons (pe_ix (show IxR _ (rIxT K) from ix_tup) (pv 1) pe_int (fun _ _ => rfl)) pa_nil))) (pe_tup (pa_cons (pe_ix (show IxR _ (rIxT K) from ix_tup) (pv 1) pe_int (fun _ _ => rfl)) (pa_cons (pe_c C__law_bent_pair hr (by omega) (by rfl) (pa_cons (pv 0) (pa_cons (pe_ix (show IxR _ (rIxT K) from ix_tup) (pv 1) pe_int (fun _ _ => rfl)) pa_nil))) pa_nil))))))) pss_nil)
      (pss_one (ps_ret (pe_c C__law_bent_pair hr (by omega) (by rfl) (pa_cons (pv 0) (pa_cons (pv 1) pa_nil))))))), fun B ds hp => ?_⟩
  obtain ⟨_, d, rfl, rfl, hd⟩ := p2_ex hp
  show WS K B _ [.val .box, .val d, .no, .no] _
  try dsimp only [cxOf, Cx.nox, Cx.blk]
  rcases hd with ⟨z, rfl, hz⟩ | ⟨u, v, rfl⟩ | ⟨a, b, u, v, rfl⟩
  · repeat walk_at "dl"
    refine ⟨⟨rfl, _, rfl, by omega, by omega⟩, ?_⟩
    rintro d ⟨n', i, e, rfl, hi0, hi1⟩
    cases e
    repeat walk_at "dl"
    refine ⟨⟨rfl, _, rfl, by decide, by decide⟩, ?_⟩
    rintro d ⟨xs, e, m⟩
    cases e
    obtain ⟨y, rfl, hy⟩ : ∃ y : Str, d = .str y ∧ y.length ≤ 2 := by
      simp only [List.mem_cons, List.not_mem_nil, or_false] at m
      rcases m with rfl | rfl | rfl | rfl | rfl | rfl | rfl | rfl | rfl | rfl <;> exact ⟨_, rfl, by decide +kernel⟩
    repeat walk_at "dl"
    refine rs_S (by omega) ?_
    have c1 := cutS_len z none (some i)
    repeat walk_at "dl"
    refine ro_addS (by omega) ?_
    repeat walk_at "dl"
    refine ⟨⟨rfl, _, rfl, by decide, by decide⟩, ?_⟩
    rintro d ⟨n', j, e, rfl, hj0, hj1⟩
    cases e
    repeat walk_at "dl"
    refine rs_S (by omega) ?_
    have c2 := cutS_len z (some (i + j)) none
    have c3 := app_len (cutS z none (some i)) y
    refine ro_addS (by omega) ?_
    have c4 := app_len (cutS z none (some i) ++ y) (cutS z (some (i + j)) none)
    repeat walk_at "dl"
    refine ro_addS (by omega) ?_
    have c5 := app_len z z
    repeat walk_at "dl"
    refine we_bm0 (fun _ _ _ _ o h => ty_str o h) ?_
    repeat walk_at "dl"
    refine ⟨⟨_, rfl⟩, rm_upper (by omega) ?_⟩
    have c6 := len_upper z
    repeat walk_at "dl"
    refine ⟨⟨rfl, _, rfl, Nat.le_of_ble_eq_true rfl, Nat.le_of_ble_eq_true rfl⟩, ?_⟩
    rintro d ⟨xs, e, m⟩
    cases e
    simp only [List.mem_cons, List.not_mem_nil, or_false] at m
    rcases m with rfl | rfl | rfl | rfl | rfl
    · exact sm_str_mk (by omega)
    · exact (sm_str1 (by omega)).1
    · exact (sm_str1 (by omega)).2
    · exact sm_str_mk (by omega)
    · exact sm_str_mk (by omega)
  · repeat walk_at "dl"
    refine ro_ixT (d := .int u) rfl ?_
    repeat walk_at "dl"
    exact ⟨⟨rfl, _, _, rfl⟩, fun d h => h⟩
  · repeat walk_at "dl"
    refine ro_ixT (d := .tup [.int a, .int b]) rfl ?_
    repeat walk_at "dl"
    refine ⟨⟨rfl, _, rfl, by decide, by decide⟩, ?_⟩
    rintro d ⟨n', i, e, rfl, hi0, hi1⟩
    cases e
    repeat walk_at "dl"
    refine ite2 (fun h => ?_) (fun h => ?_)
    · repeat walk_at "dl"
      refine (rc_listOf ?_).2
      repeat walk_at "dl"
      refine ro_ixT (d := .tup [.int a, .int b]) rfl ?_
      repeat walk_at "dl"
      refine ro_catA (Nat.le_of_ble_eq_true rfl) ?_
      repeat walk_at "dl"
      refine rs_T ?_
      repeat walk_at "dl"
      refine ro_ixT (d := .tup [.int a, .int b]) rfl ?_
      repeat walk_at "dl"
      refine ro_ixT (d := .tup [.int a, .int b]) rfl ?_
      repeat walk_at "dl"
      refine ro_ixT (d := .tup [.int a, .int b]) rfl ?_
      repeat walk_at "dl"
      refine ro_ixT (d := .tup [.int u, .int v]) rfl ?_
      refine ro_catA (Nat.le_of_ble_eq_true rfl) ?_
      repeat walk_at "dl"
      refine ⟨⟨rfl, _, rfl, Nat.le_of_ble_eq_true rfl, Nat.le_of_ble_eq_true rfl⟩, ?_⟩
      rintro d ⟨xs, e, m⟩
      cases e
      exact sms_mem (xs := _) rfl m
    · repeat walk_at "dl"
      refine ⟨⟨rfl, _, rfl, by decide, by decide⟩, ?_⟩
      rintro d ⟨n', j, e, rfl, hj0, hj1⟩
      cases e
      repeat walk_at "dl"
      refine ite2 (fun h => ?_) (fun h => ?_)
      · repeat walk_at "dl"
        refine ro_ixT (d := .tup [.int a, .int b]) rfl ?_
        repeat walk_at "dl"
        refine ⟨⟨rfl, _, _, rfl⟩, fun d (h : sm d = true) => ?_⟩
        repeat walk_at "dl"
        refine ro_ixT (d := .tup [.int u, .int v]) rfl ?_
        repeat walk_at "dl"
        show (decide (2 ≤ 1000) && (sm d && (sm (.tup [.int u, .int v]) && true))) = true
        rw [h]; rfl
      · repeat walk_at "dl"
        refine ro_ixT (d := .tup [.int a, .int b]) rfl ?_
        repeat walk_at "dl"
        refine ro_ixT (d := .tup [.int u, .int v]) rfl ?_
        repeat walk_at "dl"
        refine ⟨⟨rfl, _, _, rfl⟩, fun d (h : sm d = true) => ?_⟩
        repeat walk_at "dl"
        show (decide (2 ≤ 1000) && (sm (.tup [.int a, .int b]) && (sm d && true))) = true
        rw [h]; rfl
end
section
variable {P : Program} {w : World} {K : PySem.W.Frag} {mg : Str → Option Value} {base : Heap}
/-! ### numbers as texts -/
def bodyL : List Nat → List Nat
  | 45 :: r => r
  | l => l
theorem ext_l {a b : Str} (h : a.cps.toList = b.cps.toList) : a = b := Str.ext' (Array.toList_inj.mp h)
theorem len_l (z : Str) : z.length = z.cps.toList.length := (Array.length_toList).symm
theorem dash_l : ("-" : Str).cps.toList = [45] := rfl
theorem rp_list (z : Str) : (Txt.removeprefix z "-").cps.toList = bodyL z.cps.toList := by
  unfold Txt.removeprefix
  rw [PySem.StrLaws.subAt_eq, dash_l]
  have e1 : ("-" : Str).length = 1 := rfl
  rw [e1, List.drop_zero]
  cases hz : z.cps.toList with
  | nil =>
    rw [if_neg (by simp)]
    show z.cps.toList = _
    rw [hz]; rfl
  | cons c r =>
    by_cases hc : c = 45
    · subst hc
      rw [if_pos (by simp)]
      have hl : z.length = r.length + 1 := by rw [len_l, hz]; rfl
      show (if (z.length - 1 == z.length) = true then z else _).cps.toList = r
      rw [if_neg (by rw [hl]; simp), PySem.StrLaws.strSub_toList, hz, hl]
      show r.take (r.length + 1 - 1) = r
      simp
    · rw [if_neg (by simp [hc])]
      show z.cps.toList = bodyL (c :: r)
      rw [hz]
      unfold bodyL
      split
      · rename_i h; cases h; exact absurd rfl hc
      · rfl
def body (z : Str) : Str := ⟨(bodyL z.cps.toList).toArray⟩
theorem rp_body (z : Str) : Txt.removeprefix z "-" = body z := ext_l (rp_list z)
theorem sx (n d : Nat) : HT.sIx n d (some 1) = min 1 n := HT.sIx_nat n d 1
theorem cut1_body {z : Str} (h : cutS z none (some 1) = "-") : cutS z (some 1) none = body z := by
  apply ext_l
  have h1 : (cutS z none (some 1)).cps.toList = [45] := by rw [h]; rfl
  show ((z.cps.toList.drop (HT.sIx z.length 0 (some 1))).take (HT.sIx z.length z.length none - HT.sIx z.length 0 (some 1))) = bodyL z.cps.toList
  have h2 : ((z.cps.toList.drop (HT.sIx z.length 0 none)).take (HT.sIx z.length z.length (some 1) - HT.sIx z.length 0 none)) = [45] := h1
  rw [HT.sIx_none, sx] at h2
  rw [HT.sIx_none, sx]
  rw [len_l] at *
  cases hz : z.cps.toList with
  | nil => rw [hz] at h2; simp at h2
  | cons c r =>
    rw [hz] at h2
    have e : min 1 (c :: r).length = 1 := by rw [List.length_cons]; omega
    rw [e] at h2 ⊢
    have hc : c = 45 := by simpa using h2
    subst hc
    show List.take ((45 :: r).length - 1) r = r
    simp
theorem cut1_not {z : Str} (h : ¬ cutS z none (some 1) = "-") : z = body z := by
  apply ext_l
  show z.cps.toList = bodyL z.cps.toList
  cases hz : z.cps.toList with
  | nil => rfl
  | cons c r =>
    by_cases hc : c = 45
    · subst hc
      exfalso
      apply h
      apply ext_l
      show ((z.cps.toList.drop (HT.sIx z.length 0 none)).take (HT.sIx z.length z.length (some 1) - HT.sIx z.length 0 none)) = [45]
      rw [HT.sIx_none, sx, len_l, hz]
      have e : min 1 (45 :: r).length = 1 := by rw [List.length_cons]; omega
      rw [e]
      rfl
    · unfold bodyL
      split
      · rename_i h; cases h; exact absurd rfl hc
      · rfl
def okB (y : Str) : Bool := (decide ((1 : Int) ≤ y.length) && decide ((y.length : Int) ≤ 9)) && (Dl.signs y).all (inT "0123456789")
def hdS (y : Str) : Str := ⟨#[y.cps.toList.headD 0]⟩
def numOf (z : Str) : D := match PySem.intText? z with
  | some n => .int n
  | none => .non
def numIn : D → D
  | .str z => if okB (body z) = true then (if (decide (hdS (body z) = "0") && !decide (z = "0")) = true then .non else numOf z) else .non
  | _ => .non
theorem numIn_no {z : Str} (h : okB (body z) = false) : D.non = numIn (.str z) := by
  show D.non = (if okB (body z) = true then _ else _)
  rw [h]
  rfl
theorem digits_of {y : Str} (h : (Dl.signs y).all (inT "0123456789") = true) : PySem.NumText.AllDigits y.cps.toList := by
  intro c hc
  have m : D.str ⟨#[c]⟩ ∈ Dl.signs y := List.mem_map.mpr ⟨c, hc, rfl⟩
  have z : decide (c ∈ ("0123456789" : Str).cps.toList) = true := List.all_eq_true.mp h _ m
  have z2 : c ∈ [48, 49, 50, 51, 52, 53, 54, 55, 56, 57] := of_decide_eq_true z
  simp only [List.mem_cons, List.not_mem_nil, or_false] at z2
  omega
theorem int_ok {z : Str} (h : okB (body z) = true) : ∃ n, PySem.intText? z = some n ∧ z.length ≤ 640 := by
  unfold okB at h
  rw [Bool.and_eq_true, Bool.and_eq_true, decide_eq_true_eq, decide_eq_true_eq] at h
  obtain ⟨⟨h1, h2⟩, h3⟩ := h
  have hd := digits_of h3
  have hb : (body z).cps.toList = bodyL z.cps.toList := rfl
  have hl : (body z).length = (bodyL z.cps.toList).length := by rw [len_l, hb]
  rw [hl] at h1 h2
  rw [hb] at hd
  have zl := len_l z
  cases hz : z.cps.toList with
  | nil => rw [hz] at h1; simp [bodyL] at h1
  | cons c r =>
    by_cases hc : c = 45
    · subst hc
      rw [hz] at hd h1 h2
      have hd' : PySem.NumText.AllDigits r := hd
      have h1' : (1 : Int) ≤ (r.length : Nat) := h1
      have h2' : ((r.length : Nat) : Int) ≤ 9 := h2
      have hl2 : z.length = r.length + 1 := by rw [zl, hz]; rfl
      exact ⟨_, PySem.intText_neg hz hd' (fun e => by rw [e] at h1'; simp at h1') (by omega), by omega⟩
    · have e : bodyL (c :: r) = c :: r := by
        unfold bodyL
        split
        · rename_i h; cases h; exact absurd rfl hc
        · rfl
      rw [hz, e] at hd h1 h2
      have hl2 : z.length = r.length + 1 := by rw [zl, hz]; rfl
      rw [List.length_cons] at h1 h2
      exact ⟨_, PySem.intText_digits (by rw [hz]; exact hd) (by rw [hz]; exact fun e => nomatch e) (by omega), by omega⟩
theorem hd_at {y : Str} (h : (1 : Int) ≤ y.length) : atI y.cps.toList 0 = some (y.cps.toList.headD 0) := by
  rw [len_l] at h
  cases hy : y.cps.toList with
  | nil => rw [hy] at h; simp at h
  | cons c r => exact atI_nat (j := 0) rfl
theorem body_len (z : Str) : (body z).length ≤ z.length := by
  rw [len_l, len_l]
  show (bodyL z.cps.toList).length ≤ _
  unfold bodyL
  split
  · rename_i e; rw [e]; simp
  · omega
theorem rm_rp {B : Addr} {Pp : D → Prop} {a b : Str} (l : a.length ≤ 1000) (p : Pp (.str (Txt.removeprefix a b))) : RM K B (fun x xs H Q => ∃ a b, x = .str a ∧ xs = [.str b] ∧ a.length ≤ sizeLine ∧ Q (.str (Txt.removeprefix a b)) H) (.str a) [.str b] Pp := fun _ _ _ _ _ o hx hs q => by
  cases hx
  cases hs with
  | cons h t => cases t; cases h; exact ⟨a, b, rfl, rfl, sz1000 l, q.nil o (.str _) p⟩
/-! ### number_in -/
abbrev s_number_in : Stmt := topS 16
abbrev N_number_in : List Str := ["text", "digits", "digit"]
theorem sc_number_in : FnScope N_number_in ["text"] (defScope s_number_in) := ⟨rfl, rfl, rfl, by decide +kernel, rfl, by decide +kernel, by decide +kernel⟩
abbrev ClNi (P : Program) (w : World) (K : PySem.W.Frag) (mg : Str → Option Value) (base : Heap) (k : Nat) := Cl P w K mg base k "number_in" s_number_in ["text"] (SpD K SmP fun ds r => r = f1 numIn ds)
theorem ok_number_in {k : Nat} (G : Gn mg) (F : Df K mg "number_in" s_number_in) : ClNi P w K mg base (k + 1) := by
  refine cl_of F sc_number_in (fun _ _ _ _ _ _ us hl => match us, hl with | [_], _ => rfl) p1_len fun f cdv A outer s H E hr => ⟨_, (pss_cons (ps_if (pt_not (pt_val (pe_callB (show CallR _ (.builtin "isinstance") (rIsi K) from call_isi) (by rfl) G.g_isinstance (by decide +kernel) (pa_cons (pv 0) (pa_cons (pe_bltn (v := .ty "str") (u := .type "str") (by rfl) G.g_str (by decide +kernel) rfl) pa_nil))))) (pss_one (ps_ret pe_non)) pss_nil)
      (pss_cons (ps_set (i := 1) sc_number_in.nd rfl (Or.inl rfl) (pe_bm PySem.F.plainAttrs_str PySem.F.slot_str_removeprefix PySem.F.type_str_removeprefix mt_removeprefix (pv 0) (pa_cons pe_str pa_nil)))
      (pss_cons (ps_if (PW.pt (pw_or (pt_not (pt_chain op_le op_le pe_int (pe_callB (show CallR _ (.builtin "len") (fun xs H Q => ∃ x n, xs = [x] ∧ LenV K x H n ∧ Q (.int n) H) from call_len) (by rfl) G.g_len (by decide +kernel) (pa_cons (pv 1) pa_nil)) (pe_gi rfl G.g_MOST_DIGITS))) (pw_or1 (pt_not (pt_val (pe_callB (cr_all rfl) (by rfl) G.g_all (by decide +kernel) (pa_cons (pe_lc (own := [("digit", 2)]) (g := gName 2) (tt := tYes) rfl sc_number_in.nd (pi_str (pv 1)) (blkOk_by (N := N_number_in) (sc := defScope s_number_in) (by decide +kernel)) (fun _ _ _ _ _ => pg_name (i := 2) sc_number_in.nd rfl (Or.inl rfl)) (fun _ _ _ _ _ => pts_nil) (fun _ _ _ _ _ => (pe_cmpR op_in_sign (pv 2) (pe_gs rfl G.g_DIGITS) (by rfl)))) pa_nil))))))) (pss_one (ps_ret pe_non)) pss_nil)
      (pss_cons (ps_if (PW.pt (pw_and (pt_cmpR op_eq (pe_ix ix_str (pv 1) pe_int (fun _ _ => rfl)) pe_str (nomark _)) (pw_and1 (pt_cmpR op_ne (pv 0) pe_str (nomark _))))) (pss_one (ps_ret pe_non)) pss_nil)
      (pss_one (ps_ret (pe_callTy call_int_str (by rfl) G.g_int (by decide +kernel) (pa_cons (pv 0) pa_nil)))))))), fun B ds hp => ?_⟩
  obtain ⟨d, rfl, hd⟩ := p1_ex hp
  show WS K B _ [.val d, .no, .no] _
  try dsimp only [cxOf, Cx.nox, Cx.blk]
  have hc := sm_cls hd
  cases d with
  | str z =>
    have hl := sm_str hd
    have hb := body_len z
    repeat walk_at "dl"
    refine we_bm (fun _ _ _ _ o h => ty_str o h) ?_
    repeat walk_at "dl"
    refine ⟨⟨_, rfl⟩, ?_⟩
    repeat walk_at "dl"
    refine rm_rp hl ?_
    rw [rp_body]
    try dsimp only [List.set]
    repeat walk_at "dl"
    refine ite2 (fun h1 => ?_) (fun h1 => ?_)
    · repeat walk_at "dl"
      refine ite2 (fun h2 => ?_) (fun h2 => ?_)
      · repeat walk_at "dl"
        have h2' : decide (((body z).length : Int) ≤ 9) = false := by simpa using h2
        exact numIn_no (by unfold okB; rw [h2', Bool.and_false, Bool.false_and])
      · have h2' : decide (((body z).length : Int) ≤ 9) = true := by simpa using h2
        repeat walk_at "dl"
        refine we_lcmap (fun d => .bl (inT "0123456789" d)) (wi_str ?_)
        repeat walk_at "dl"
        refine ⟨by rw [signs_len]; omega, fun d m => ?_, ?_⟩
        · obtain ⟨c, rfl, _⟩ := sign_ex m
          repeat walk_at "dl"
          rfl
        · repeat walk_at "dl"
          refine ite2 (fun h3 => ?_) (fun h3 => ?_)
          · repeat walk_at "dl"
            have h3' : (Dl.signs (body z)).all (inT "0123456789") = false := by simpa using h3
            exact numIn_no (by unfold okB; rw [h3', Bool.and_false])
          · have h3' : (Dl.signs (body z)).all (inT "0123456789") = true := by
              cases e : (Dl.signs (body z)).all (inT "0123456789") with
              | true => rfl
              | false => rw [e] at h3; exact absurd rfl h3
            have ok : okB (body z) = true := by unfold okB; rw [h1, h2', h3']; rfl
            obtain ⟨n, hn, hl640⟩ := int_ok ok
            have fin : numIn (.str z) = if (decide (hdS (body z) = "0") && !decide (z = "0")) = true then .non else .int n := by
              show (if okB (body z) = true then _ else _) = _
              rw [if_pos ok]
              unfold numOf
              rw [hn]
            repeat walk_at "dl"
            refine ro_ixS (by omega) (hd_at (of_decide_eq_true h1)) ?_
            repeat walk_at "dl"
            refine ite2 (fun h4 => ?_) (fun h4 => ?_)
            · have h4' : decide (hdS (body z) = "0") = true := h4
              repeat walk_at "dl"
              refine ite2 (fun h5 => ?_) (fun h5 => ?_)
              · repeat walk_at "dl"
                show D.non = numIn (.str z)
                rw [fin, h4', h5]; rfl
              · repeat walk_at "dl"
                refine rc_intS hn hl640 ?_
                show D.int n = numIn (.str z)
                rw [fin, h4', Bool.eq_false_iff.mpr h5]; rfl
            · have h4' : decide (hdS (body z) = "0") = false := Bool.eq_false_iff.mpr h4
              repeat walk_at "dl"
              refine rc_intS hn hl640 ?_
              show D.int n = numIn (.str z)
              rw [fin, h4']; rfl
    · repeat walk_at "dl"
      exact numIn_no (by unfold okB; rw [Bool.eq_false_iff.mpr h1, Bool.false_and, Bool.false_and])
  | cls n => exact Bool.noConfusion hc
  | _ => (repeat walk_at "dl"); rfl
end
section
variable {P : Program} {w : World} {K : PySem.W.Frag} {mg : Str → Option Value} {base : Heap}
/-! ### _law_number_in -/
abbrev s__law_number_in : Stmt := topS 33
abbrev N__law_number_in : List Str := ["_law_word_here", "_law_body_z", "_law_sign"]
theorem sc__law_number_in : FnScope N__law_number_in ["_law_word_here"] (defScope s__law_number_in) := ⟨rfl, rfl, rfl, by decide +kernel, rfl, by decide +kernel, by decide +kernel⟩
abbrev strPre : List D → Prop := p1 fun d => ∃ z : Str, d = .str z ∧ z.length ≤ 1000
abbrev ClLn (P : Program) (w : World) (K : PySem.W.Frag) (mg : Str → Option Value) (base : Heap) (k : Nat) := Cl P w K mg base k "_law_number_in" s__law_number_in ["_law_word_here"] (SpD K strPre fun ds r => r = f1 numIn ds)
theorem empty_len {y : Str} (h : decide (y = ("" : Str)) = true) : decide ((1 : Int) ≤ y.length) = false := by
  rw [of_decide_eq_true h]
  rfl
theorem not_empty {y : Str} (h : ¬ decide (y = ("" : Str)) = true) : decide ((1 : Int) ≤ y.length) = true := by
  apply decide_eq_true
  cases hy : y.cps.toList with
  | nil =>
    exfalso
    apply h
    apply decide_eq_true
    exact ext_l (by rw [hy]; rfl)
  | cons c r => rw [len_l, hy, List.length_cons]; omega
theorem ok__law_number_in {k : Nat} (G : Gn mg) (F : Df K mg "_law_number_in" s__law_number_in) : ClLn P w K mg base (k + 1) := by
  refine cl_of F sc__law_number_in (fun _ _ _ _ _ _ us hl => match us, hl with | [_], _ => rfl) p1_len fun f cdv A outer s H E hr => ?_
  -- behind the first line
  obtain ⟨T2, h2, w2⟩ : ∃ T2, PSs (cxOf CX0 P w K mg base N__law_number_in "_law_number_in" (defScope s__law_number_in) f cdv A outer s H E).nox ((defBody s__law_number_in).drop 1) T2 ∧ ∀ B (z : Str), z.length ≤ 1000 → WS K B T2 [.val (.str z), .val (.str (body z)), .no] { nx := fun _ => D.non = f1 numIn [.str z], rt := fun r => r = f1 numIn [.str z] } := by
    refine ⟨_, (pss_cons (ps_if (PW.pt (pw_or (pt_cmpR op_eq (pv 1) pe_str (nomark _)) (pw_or (pt_cmpR op_gt (pe_callB (show CallR _ (.builtin "len") (fun xs H Q => ∃ x n, xs = [x] ∧ LenV K x H n ∧ Q (.int n) H) from call_len) (by rfl) G.g_len (by decide +kernel) (pa_cons (pv 1) pa_nil)) pe_int (nomark _)) (pw_or1 (pt_not (pt_val (pe_callB (cr_all rfl) (by rfl) G.g_all (by decide +kernel) (pa_cons (pe_lc (own := [("_law_sign", 2)]) (g := gName 2) (tt := tYes) rfl sc__law_number_in.nd (pi_str (pv 1)) (blkOk_by (N := N__law_number_in) (sc := defScope s__law_number_in) (by decide +kernel)) (fun _ _ _ _ _ => pg_name (i := 2) sc__law_number_in.nd rfl (Or.inl rfl)) (fun _ _ _ _ _ => pts_nil) (fun _ _ _ _ _ => (pe_cmpR op_in_sign (pv 2) pe_str (by rfl)))) pa_nil)))))))) (pss_one (ps_ret pe_non)) pss_nil)
      (pss_cons (ps_if (PW.pt (pw_and (pt_cmpR op_eq (pe_ix ix_str (pv 1) pe_int (fun _ _ => rfl)) pe_str (nomark _)) (pw_and1 (pt_cmpR op_ne (pv 0) pe_str (nomark _))))) (pss_one (ps_ret pe_non)) pss_nil)
      (pss_one (ps_ret (pe_callTy call_int_str (by rfl) G.g_int (by decide +kernel) (pa_cons (pv 0) pa_nil)))))), fun B z hl => ?_⟩
    try dsimp only [cxOf, Cx.nox, Cx.blk]
    have hb := body_len z
    repeat walk_at "dl"
    refine ite2 (fun h1 => ?_) (fun h1 => ?_)
    · repeat walk_at "dl"
      exact numIn_no (by unfold okB; rw [empty_len h1, Bool.false_and, Bool.false_and])
    · have h1' := not_empty h1
      repeat walk_at "dl"
      refine ite2 (fun h2 => ?_) (fun h2 => ?_)
      · repeat walk_at "dl"
        have h2' : decide (((body z).length : Int) ≤ 9) = false := by
          have := of_decide_eq_true h2
          exact decide_eq_false (by omega)
        exact numIn_no (by unfold okB; rw [h2', Bool.and_false, Bool.false_and])
      · have h2' : decide (((body z).length : Int) ≤ 9) = true := by
          have : ¬ (9 : Int) < (body z).length := fun q => h2 (decide_eq_true q)
          exact decide_eq_true (by omega)
        repeat walk_at "dl"
        refine we_lcmap (fun d => .bl (inT "0123456789" d)) (wi_str ?_)
        repeat walk_at "dl"
        refine ⟨by rw [signs_len]; omega, fun d m => ?_, ?_⟩
        · obtain ⟨c, rfl, _⟩ := sign_ex m
          repeat walk_at "dl"
          rfl
        · repeat walk_at "dl"
          refine ite2 (fun h3 => ?_) (fun h3 => ?_)
          · repeat walk_at "dl"
            have h3' : (Dl.signs (body z)).all (inT "0123456789") = false := by simpa using h3
            exact numIn_no (by unfold okB; rw [h3', Bool.and_false])
          · have h3' : (Dl.signs (body z)).all (inT "0123456789") = true := by
              cases e : (Dl.signs (body z)).all (inT "0123456789") with
              | true => rfl
              | false => rw [e] at h3; exact absurd rfl h3
            have ok : okB (body z) = true := by unfold okB; rw [h1', h2', h3']; rfl
            obtain ⟨n, hn, hl640⟩ := int_ok ok
            have fin : numIn (.str z) = if (decide (hdS (body z) = "0") && !decide (z = "0")) = true then .non else .int n := by
              show (if okB (body z) = true then _ else _) = _
              rw [if_pos ok]
              unfold numOf
              rw [hn]
            repeat walk_at "dl"
            refine ro_ixS (by omega) (hd_at (of_decide_eq_true h1')) ?_
            repeat walk_at "dl"
            refine ite2 (fun h4 => ?_) (fun h4 => ?_)
            · have h4' : decide (hdS (body z) = "0") = true := h4
              repeat walk_at "dl"
              refine ite2 (fun h5 => ?_) (fun h5 => ?_)
              · repeat walk_at "dl"
                show D.non = numIn (.str z)
                rw [fin, h4', h5]; rfl
              · repeat walk_at "dl"
                refine rc_intS hn hl640 ?_
                show D.int n = numIn (.str z)
                rw [fin, h4', Bool.eq_false_iff.mpr h5]; rfl
            · have h4' : decide (hdS (body z) = "0") = false := Bool.eq_false_iff.mpr h4
              repeat walk_at "dl"
              refine rc_intS hn hl640 ?_
              show D.int n = numIn (.str z)
              rw [fin, h4']; rfl
  refine ⟨_, pss_cons (ps_set (i := 1) sc__law_number_in.nd rfl (Or.inl rfl) (pe_ifExp (pt_cmpR op_eq (pe_slice sl_str (pv 0) po_none (po_some pe_int)) pe_str (nomark _)) (pe_slice sl_str (pv 0) (po_some pe_int) po_none) (pv 0))) h2, fun B ds hp => ?_⟩
  obtain ⟨_, rfl, z, rfl, hl⟩ := p1_ex hp
  show WS K B _ [.val (.str z), .no, .no] _
  try dsimp only [cxOf, Cx.nox, Cx.blk]
  refine ws_seq ?_
  repeat walk_at "dl"
  refine rs_S (by omega) ?_
  repeat walk_at "dl"
  refine ite2 (fun h => ?_) (fun h => ?_)
  · repeat walk_at "dl"
    refine rs_S (by omega) ?_
    rw [cut1_body (of_decide_eq_true h)]
    exact w2 B z hl
  · repeat walk_at "dl"
    have e := cut1_not (z := z) (fun q => h (decide_eq_true q))
    have w3 := w2 B z hl
    rw [← e] at w3
    exact w3
/-! ### _law_near_number -/
abbrev s__law_near_number : Stmt := topS 36
abbrev N__law_near_number : List Str := ["_law_box_here", "_law_figures", "_law_word_here", "_law_at_z", "_law_bent_here", "_law_k"]
theorem sc__law_near_number : FnScope N__law_near_number ["_law_box_here"] (defScope s__law_near_number) := ⟨rfl, rfl, rfl, by decide +kernel, rfl, by decide +kernel, by decide +kernel⟩
def strPost : List D → D → Prop := fun _ r => ∃ z : Str, r = .str z ∧ z.length ≤ 1000
abbrev ClNn (P : Program) (w : World) (K : PySem.W.Frag) (mg : Str → Option Value) (base : Heap) (k : Nat) := Cl P w K mg base k "_law_near_number" s__law_near_number ["_law_box_here"] (SpD K boxPre strPost)
theorem rm_lstrip {B : Addr} {Pp : D → Prop} {a b : Str} (l : a.length ≤ 1000) (p : Pp (.str (Txt.lstripChars a b))) : RM K B (fun x xs H Q => ∃ a b, x = .str a ∧ xs = [.str b] ∧ a.length ≤ sizeLine ∧ Q (.str (Txt.lstripChars a b)) H) (.str a) [.str b] Pp := fun _ _ _ _ _ o hx hs q => by
  cases hx
  cases hs with
  | cons h t => cases t; cases h; exact ⟨a, b, rfl, rfl, sz1000 l, q.nil o (.str _) p⟩
theorem ok__law_near_number {k : Nat} (G : Gn mg) (F : Df K mg "_law_near_number" s__law_near_number) (C__law_take : ClT P w K mg base k) (C__law_pick : ClP P w K mg base k) : ClNn P w K mg base (k + 1) := by
  refine cl_of F sc__law_near_number (fun _ _ _ _ _ _ us hl => match us, hl with | [_], _ => rfl) p1_len fun f cdv A outer s H E hr => ⟨_, (pss_cons (ps_set (i := 1) sc__law_near_number.nd rfl (Or.inl rfl) (pe_bm PySem.F.plainAttrs_str PySem.F.slot_str_join PySem.F.type_str_join mt_join pe_str (pa_cons (pe_lc (own := [("_law_k", 5)]) (g := gName 5) (tt := tYes) rfl sc__law_near_number.nd (pi_range1 rfl G.g_range (pa_cons (pe_op op_add pe_int (pe_c C__law_take hr (by omega) (by rfl) (pa_cons (pv 0) (pa_cons pe_int pa_nil)))) pa_nil)) (blkOk_by (N := N__law_near_number) (sc := defScope s__law_near_number) (by decide +kernel)) (fun _ _ _ _ _ => pg_name (i := 5) sc__law_near_number.nd rfl (Or.inl rfl)) (fun _ _ _ _ _ => pts_nil) (fun _ _ _ _ _ => (pe_c C__law_pick hr (by omega) (by rfl) (pa_cons (pv 0) (pa_cons (pe_callTy (Dl.call_list_str rfl) (by rfl) G.g_list (by decide +kernel) (pa_cons pe_str pa_nil)) pa_nil))))) pa_nil)))
      (pss_cons (ps_set (i := 2) sc__law_near_number.nd rfl (Or.inl rfl) (pe_op op_add_str (pe_c C__law_pick hr (by omega) (by rfl) (pa_cons (pv 0) (pa_cons (pe_lst (pa_cons pe_str (pa_cons pe_str (pa_cons pe_str (pa_cons pe_str (pa_cons pe_str (pa_cons pe_str (pa_cons pe_str pa_nil)))))))) pa_nil))) (pv 1)))
      (pss_cons (ps_set (i := 3) sc__law_near_number.nd rfl (Or.inl rfl) (pe_c C__law_take hr (by omega) (by rfl) (pa_cons (pv 0) (pa_cons (pe_op op_add (pe_callB (show CallR _ (.builtin "len") (fun xs H Q => ∃ x n, xs = [x] ∧ LenV K x H n ∧ Q (.int n) H) from call_len) (by rfl) G.g_len (by decide +kernel) (pa_cons (pv 2) pa_nil)) pe_int) pa_nil))))
      (pss_cons (ps_set (i := 4) sc__law_near_number.nd rfl (Or.inl rfl) (pe_op op_add_str (pe_op op_add_str (pe_slice sl_str (pv 2) po_none (po_some (pv 3))) (pe_c C__law_pick hr (by omega) (by rfl) (pa_cons (pv 0) (pa_cons (pe_lst (pa_cons pe_str (pa_cons pe_str (pa_cons pe_str (pa_cons pe_str (pa_cons pe_str (pa_cons pe_str (pa_cons pe_str (pa_cons pe_str pa_nil))))))))) pa_nil)))) (pe_slice sl_str (pv 2) (po_some (pv 3)) po_none)))
      (pss_one (ps_ret (pe_c C__law_pick hr (by omega) (by rfl) (pa_cons (pv 0) (pa_cons (pe_lst (pa_cons (pv 2) (pa_cons (pv 2) (pa_cons (pv 4) (pa_cons (pe_bm PySem.F.plainAttrs_str PySem.F.slot_str_lstrip PySem.F.type_str_lstrip mt_lstripChars (pv 2) (pa_cons pe_str pa_nil)) (pa_cons pe_str (pa_cons pe_str (pa_cons pe_str (pa_cons pe_str (pa_cons pe_str (pa_cons pe_str (pa_cons pe_str (pa_cons pe_str (pa_cons pe_str (pa_cons (pe_op op_add_str pe_str (pv 2)) pa_nil))))))))))))))) pa_nil))))))))), fun B ds hp => ?_⟩
  obtain ⟨_, rfl, rfl⟩ := p1_ex hp
  show WS K B _ [.val .box, .no, .no, .no, .no, .no] _
  try dsimp only [cxOf, Cx.nox, Cx.blk]
  refine ws_seq ?_
  refine ws_set (we_bm (fun _ _ _ _ o h => ty_str o h) ?_)
  repeat walk_at "dl"
  refine ⟨⟨_, rfl⟩, ?_⟩
  repeat walk_at "dl"
  refine we_lcall (fun d => ∃ z : Str, d = .str z ∧ z.length ≤ 1) (wi_range1 ?_)
  repeat walk_at "dl"
  refine ⟨⟨rfl, _, rfl, by decide, by decide⟩, ?_⟩
  rintro d ⟨n', i, e, rfl, hi0, hi1⟩
  cases e
  repeat walk_at "dl"
  refine ⟨by omega, by omega, ?_, ?_, ?_⟩
  · rw [upto_len]; omega
  · intro d m
    repeat walk_at "dl"
    refine rc_listS (by decide) ?_
    repeat walk_at "dl"
    refine ⟨⟨rfl, _, rfl, by decide, by decide⟩, ?_⟩
    rintro d ⟨xs, e, m⟩
    cases e
    obtain ⟨c, rfl, _⟩ := sign_ex m
    exact ⟨_, rfl, Nat.le_refl 1⟩
  · intro acc el ha
    obtain ⟨ys, rfl, hy⟩ := strs_of acc ha
    rw [upto_len, List.length_map] at el
    repeat walk_at "dl"
    have jl := join_len (n := 20) hy (by omega)
    refine rm_join (by have := jl.1; omega) ?_
    generalize Txt.join "" ys = fg at jl
    have hf := jl.2
    try dsimp only [List.set]
    repeat walk_at "dl"
    refine ⟨⟨rfl, _, rfl, by decide, by decide⟩, ?_⟩
    rintro d ⟨xs, e, m⟩
    cases e
    obtain ⟨pf, rfl, hpf⟩ : ∃ y : Str, d = .str y ∧ y.length ≤ 2 := by
      simp only [List.mem_cons, List.not_mem_nil, or_false] at m
      rcases m with rfl | rfl | rfl | rfl | rfl | rfl | rfl <;> exact ⟨_, rfl, by decide +kernel⟩
    repeat walk_at "dl"
    refine ro_addS (by omega) ?_
    have c1 := app_len pf fg
    generalize pf ++ fg = wd at c1
    repeat walk_at "dl"
    refine ⟨⟨rfl, _, rfl, by omega, by omega⟩, ?_⟩
    rintro d ⟨n', j, e, rfl, hj0, hj1⟩
    cases e
    repeat walk_at "dl"
    refine rs_S (by omega) ?_
    have c2 := cutS_len wd none (some j)
    repeat walk_at "dl"
    refine ⟨⟨rfl, _, rfl, by decide, by decide⟩, ?_⟩
    rintro d ⟨xs, e, m⟩
    cases e
    obtain ⟨sg, rfl, hsg⟩ : ∃ y : Str, d = .str y ∧ y.length ≤ 2 := by
      simp only [List.mem_cons, List.not_mem_nil, or_false] at m
      rcases m with rfl | rfl | rfl | rfl | rfl | rfl | rfl | rfl <;> exact ⟨_, rfl, by decide +kernel⟩
    refine ro_addS (by omega) ?_
    have c3 := app_len (cutS wd none (some j)) sg
    generalize cutS wd none (some j) ++ sg = ws at c3
    repeat walk_at "dl"
    refine rs_S (by omega) ?_
    have c4 := cutS_len wd (some j) none
    refine ro_addS (by omega) ?_
    have c5 := app_len ws (cutS wd (some j) none)
    generalize ws ++ cutS wd (some j) none = be at c5
    repeat walk_at "dl"
    refine we_bm (fun _ _ _ _ o h => ty_str o h) ?_
    repeat walk_at "dl"
    refine ⟨⟨_, rfl⟩, ?_⟩
    repeat walk_at "dl"
    refine rm_lstrip (by omega) ?_
    have c6 := len_lstripChars wd "0"
    generalize Txt.lstripChars wd "0" = ls at c6
    repeat walk_at "dl"
    have z1 : ("0" : Str).length = 1 := rfl
    refine ro_addS (by omega) ?_
    have c7 := app_len "0" wd
    generalize ("0" : Str) ++ wd = zw at c7
    repeat walk_at "dl"
    refine ⟨⟨rfl, _, rfl, Nat.le_of_ble_eq_true rfl, Nat.le_of_ble_eq_true rfl⟩, ?_⟩
    rintro d ⟨xs, e, m⟩
    cases e
    simp only [List.mem_cons, List.not_mem_nil, or_false] at m
    rcases m with rfl | rfl | rfl | rfl | rfl | rfl | rfl | rfl | rfl | rfl | rfl | rfl | rfl | rfl
    all_goals first | exact ⟨_, rfl, by omega⟩ | exact ⟨_, rfl, by decide +kernel⟩
end
section
variable {P : Program} {w : World} {K : PySem.W.Frag} {mg : Str → Option Value} {base : Heap}
/-! ### _law_box -/
abbrev s__law_box : Stmt := topS 18
abbrev N__law_box : List Str := ["_law_script", "_law_own", "_law_mixed", "_law_cell"]
theorem sc__law_box : FnScope N__law_box ["_law_script", "_law_own"] (defScope s__law_box) := ⟨rfl, rfl, rfl, by decide +kernel, rfl, by decide +kernel, by decide +kernel⟩
def spBox (K : PySem.W.Frag) : Sp := fun vs H Q _ => ∃ (a : Addr) (ns : List Int) (own : Int), vs = [.ref a, .int own] ∧ SqL K H a (ns.map V.int) ∧ ns.length ≤ 63 ∧ 0 ≤ own ∧ own < 2147483587 ∧ ∀ B G H', Same H H' → Ok B G H' → Q (.ref B) H'
theorem cut63 {ns : List Int} (h : ns.length ≤ 63) : cutV (ns.map V.int) none (some 63) = ns.map V.int := by
  unfold cutV
  rw [HT.sIx_none]
  have e : HT.sIx (ns.map V.int).length (ns.map V.int).length (some 63) = (ns.map V.int).length := by
    rw [show HT.sIx (ns.map V.int).length (ns.map V.int).length (some 63) = min 63 (ns.map V.int).length from HT.sIx_nat _ _ 63, List.length_map]
    omega
  rw [e, List.drop_zero, Nat.sub_zero]
  exact List.take_length
theorem ok__law_box {f : Addr} {fd : FuncData} {k : Nat} (G : Gn mg) (F : Fun K "_law_box" "_law_box" s__law_box f fd) : FnOk P w K mg base CX0 (k + 1) f fd ["_law_script", "_law_own"] (spBox K) := by
  refine F.ok sc__law_box (fun vs H Q E h => ?_) (fun cdv A outer s H vs Q E hr h => ?_)
  · obtain ⟨a, ns, own, rfl, _⟩ := h
    rfl
  · obtain ⟨a, ns, own, rfl, hS, hl, h0, h1, q⟩ := h
    refine ⟨_, (pss_cons (ps_set (i := 2) sc__law_box.nd rfl (Or.inl rfl) (pv 1))
      (pss_cons (ps_for PassesOwn.never rfl (pi_list (pe_slice sl_list (pv 0) po_none (po_some pe_int))) (pg_name (i := 3) sc__law_box.nd rfl (Or.inl rfl)) (pss_one (ps_set (i := 2) sc__law_box.nd rfl (Or.inl rfl) (pe_op op_modN (pe_callTy call_int1 (by rfl) G.g_int (by decide +kernel) (pa_cons (pe_op op_add (pe_op op_add (pe_op op_mul (pv 2) pe_int) (pe_op op_modN (pe_callTy call_int1 (by rfl) G.g_int (by decide +kernel) (pa_cons (pv 3) pa_nil)) pe_int)) pe_int) pa_nil)) pe_int))))
      (pss_one (ps_ret (pe_lst (pa_cons (pe_lc (own := [("_law_cell", 3)]) (g := gName 3) (tt := tYes) rfl sc__law_box.nd (pi_list (pe_slice sl_list (pv 0) po_none (po_some pe_int))) (blkOk_by (N := N__law_box) (sc := defScope s__law_box) (by decide +kernel)) (fun _ _ _ _ _ => pg_name (i := 3) sc__law_box.nd rfl (Or.inl rfl)) (fun _ _ _ _ _ => pts_nil) (fun _ _ _ _ _ => (pe_callTy call_int1 (by rfl) G.g_int (by decide +kernel) (pa_cons (pv 3) pa_nil)))) (pa_cons pe_int (pa_cons pe_int (pa_cons (pv 2) (pa_cons pe_int pa_nil)))))))))), ?_⟩
    -- mixed = own
    refine ⟨_, rfl, ?_⟩
    -- the loop over script[:63]
    refine ⟨_, rfl, _, rfl, a, _, rfl, hS, fun p np => ?_⟩
    refine ⟨p, rfl, ⟨_, SqL.of upd_same⟩, ?_⟩
    rw [cut63 hl]
    have s1 : Same H (upd H p (.lst (ns.map V.int))) := same_upd np
    refine for_list (xs := ns.map V.int) (fun i σ H1 => ∃ (m : Int) (y : Option V), σ = [some (.ref a), some (.int own), some (.int m), y] ∧ 0 ≤ m ∧ m < 2147483587 ∧ H1 = upd H p (.lst (ns.map V.int))) ⟨own, none, rfl, h0, h1, rfl⟩ ?_ ?_ ?_
    · rintro i σ H1 _ ⟨m, y, rfl, hm, hm2, rfl⟩
      exact SqL.of upd_same
    · rintro i x σ H1 hx ⟨m, y, rfl, hm, hm2, rfl⟩
      obtain ⟨u, rfl⟩ : ∃ u, x = V.int u := by
        rw [List.getElem?_map] at hx
        cases e : ns[i]? with
        | none => rw [e] at hx; cases hx
        | some u => rw [e] at hx; exact ⟨u, (Option.some.inj hx).symm⟩
      refine ⟨_, rfl, _, _, rfl, rfl, .inr ⟨by decide, by decide⟩, _, rfl, .inl ⟨_, rfl, _, _, rfl, rfl, (by intro z; exact absurd z (by decide)), _, _, rfl, rfl, _, _, rfl, rfl, .inl ⟨_, rfl, _, _, rfl, rfl, (by intro z; exact absurd z (by decide)), ?_⟩⟩⟩
      have fm := fm0 (i := m * 40503 + u.fmod 2147483423 + 11) (n := 2147483587) (by decide)
      exact ⟨_, _, rfl, fm.1, fm.2, rfl⟩
    · rintro σ H1 ⟨m, y, rfl, hm, hm2, rfl⟩
      -- [int(cell) for cell in script[:63]]
      refine ⟨_, rfl, _, rfl, a, _, rfl, s1.seq hS, fun p2 np2 => ?_⟩
      rw [cut63 hl]
      have s2 : Same (upd H p (.lst (ns.map V.int))) (upd (upd H p (.lst (ns.map V.int))) p2 (.lst (ns.map V.int))) := same_upd np2
      generalize hH2 : upd (upd H p (.lst (ns.map V.int))) p2 (.lst (ns.map V.int)) = H2 at s2
      have hp2 : H2 p2 = some (.lst (ns.map V.int)) := by rw [← hH2, upd_same]
      refine ⟨p2, rfl, ⟨_, SqL.of hp2⟩, fun c nc => ?_⟩
      have ne2 : p2 ≠ c := ne_of_none hp2 nc
      refine lc_list (K := K) (a := p2) (xs := ns.map V.int) (fun i H3 => H3 = upd H2 c (.lst ((ns.take i).map V.int))) rfl ?_ ?_ ?_
      · rintro i H3 _ rfl
        exact SqL.of (by rw [upd_ne ne2]; exact hp2)
      · rintro i x H3 hx rfl
        obtain ⟨u, rfl, eu⟩ : ∃ u, x = V.int u ∧ ns[i]? = some u := by
          rw [List.getElem?_map] at hx
          cases e : ns[i]? with
          | none => rw [e] at hx; cases hx
          | some u => rw [e] at hx; exact ⟨u, (Option.some.inj hx).symm, rfl⟩
        refine ⟨rfl, ?_⟩
        dsimp only [tYes]
        rw [if_pos rfl]
        refine ⟨_, rfl, .inl ⟨_, rfl, _, upd_same, ?_, ?_⟩⟩
        · rw [List.length_map, List.length_take]
          exact Nat.lt_of_le_of_lt (by omega : min i ns.length ≤ 1000) (by decide)
        · rw [upd_upd, List.take_add_one, eu, List.map_append]
          rfl
      · rintro H3 rfl
        -- the list of the box
        refine ⟨_, rfl, by show 5 ≤ sizeLine; decide, fun B nB => ?_⟩
        have et : ns.take (ns.map V.int).length = ns := by rw [List.length_map]; exact List.take_length
        rw [et] at nB ⊢
        have hc : (upd H2 c (.lst (ns.map V.int))) c = some (.lst (ns.map V.int)) := upd_same
        have s3 : Same H2 (upd H2 c (.lst (ns.map V.int))) := same_upd nc
        have s4 : Same (upd H2 c (.lst (ns.map V.int))) (upd (upd H2 c (.lst (ns.map V.int))) B (.lst [.ref c, .int 0, .int 0, .int m, .int 0])) := same_upd nB
        have neB : c ≠ B := ne_of_none hc nB
        refine q B (fun x => if x = c then some (.lst (ns.map V.int)) else none) _ (((s1.trans s2).trans s3).trans s4) ⟨fun x o e => ?_, ?_, c, ns, 0, 0, m, 0, upd_same, ?_, hl, Int.le_refl 0, Int.le_refl 0, hm, hm2, Int.le_refl 0⟩
        · by_cases ex : x = c
          · subst ex
            rw [if_pos rfl] at e
            exact s4 _ _ (e ▸ hc)
          · rw [if_neg ex] at e
            cases e
        · show (if B = c then _ else none) = none
          rw [if_neg (Ne.symm neB)]
        · show (if c = c then _ else none) = _
          rw [if_pos rfl]
end
section
variable {P : Program} {w : World} {K : PySem.W.Frag} {mg : Str → Option Value} {base : Heap}
/-! ### the law -/
abbrev s_law : Stmt := topS 37
abbrev N_law : List Str := ["_law_script", "_law_box_here", "_law_turn", "_law_spot", "_law_good", "_law_x", "_law_due", "_law_low", "_law_high", "_law_word_here"]
theorem sc_law : FnScope N_law ["_law_script"] (defScope s_law) := ⟨rfl, rfl, rfl, by decide +kernel, rfl, by decide +kernel, by decide +kernel⟩
abbrev CkB (P : Program) (w : World) (K : PySem.W.Frag) (mg : Str → Option Value) (base : Heap) (k : Nat) (x : Str) (f : D → Bool) := Ck P w K mg base k x ["value"] (SpD K SmP fun ds r => r = bl1 f ds) (fun zs => zs)
theorem we_ck1 {B : Addr} {δ : List Sd} {Pp : D → Prop} {pre : List D → Prop} {F : List D → D} {tk : TA} (h : WA K B tk δ fun ds => ds.length = 1 ∧ pre ds ∧ Pp (F ds)) : WE K B (tCk 1 (SpD K pre fun ds r => r = F ds) (fun zs => zs) tk) δ Pp :=
  we_ck (gD := fun ds => ds) (fun _ _ _ h => h) fun G0 H0 σ G H Q s q => h G0 H0 σ G H Q s fun vs ds G1 H1 g o hs ⟨a, b, c⟩ => q vs ds G1 H1 g o hs ⟨a, b, fun _ e => e ▸ c⟩
theorem we_ck3 {B : Addr} {δ : List Sd} {Pp : D → Prop} {pre : List D → Prop} {F : List D → D} {tk : TA} (h : WA K B tk δ fun ds => ds.length = 3 ∧ pre ds.reverse ∧ Pp (F ds.reverse)) : WE K B (tCk 3 (SpD K pre fun ds r => r = F ds) (fun zs => zs.reverse) tk) δ Pp :=
  we_ck (gD := fun ds => ds.reverse) (fun _ _ _ h => h.rev) fun G0 H0 σ G H Q s q => h G0 H0 σ G H Q s fun vs ds G1 H1 g o hs ⟨a, b, c⟩ => q vs ds G1 H1 g o hs ⟨a, b, fun _ e => e ▸ c⟩
abbrev ClNum (P : Program) (w : World) (K : PySem.W.Frag) (mg : Str → Option Value) (base : Heap) (k : Nat) := Cl P w K mg base k "is_number" s_is_number ["value", "least", "most"] (SpD K (p3 fun d lo hi => sm d = true ∧ (∃ i, lo = .int i) ∧ ∃ j, hi = .int j) fun ds r => r = f3 nIn ds)
theorem good_sm {d : D} (h : Good d) : sm d = true := by
  rcases h with ⟨z, rfl, hz⟩ | ⟨u, v, rfl⟩ | ⟨a, b, u, v, rfl⟩
  · exact sm_str_mk (by omega)
  · rfl
  · rfl
def loopBody : Stmt → List Stmt
  | .For _ _ b _ _ => b
  | _ => []
def spLaw (K : PySem.W.Frag) : Sp := fun vs H Q _ => ∃ (a : Addr) (ns : List Int), vs = [.ref a] ∧ SqL K H a (ns.map V.int) ∧ ns.length ≤ 63 ∧ ∀ H', Q (.bl true) H'
theorem num_plain (d : D) : plain 0 (numIn d) = true := by
  cases d with
  | str z =>
    show plain 0 (if _ then (if _ then _ else numOf z) else _) = true
    split
    · split
      · rfl
      · unfold numOf; split <;> rfl
    · rfl
  | _ => rfl
theorem ok_law {f : Addr} {fd : FuncData} {k : Nat} (G : Gn mg) (F : Fun K "law" "law" s_law f fd)
    (C__law_box : Cl P w K mg base k "_law_box" s__law_box ["_law_script", "_law_own"] (spBox K)) (C__law_take : ClT P w K mg base k) (C__law_pick : ClP P w K mg base k) (C__law_word : ClW P w K mg base k) (C__law_dir : ClDir P w K mg base k) (C__law_tool : ClTool P w K mg base k)
    (C__law_bent : ClBe P w K mg base k) (C__law_odd : ClO P w K mg base k) (C__law_is_tag : ClB P w K mg base k "_law_is_tag" s__law_is_tag "_law_x" isName) (C__law_is_spot : ClB P w K mg base k "_law_is_spot" s__law_is_spot "_law_x" (isBnd 200)) (C__law_is_dir : ClB P w K mg base k "_law_is_dir" s__law_is_dir "_law_x" isDir)
    (C__law_is_tool : ClB P w K mg base k "_law_is_tool" s__law_is_tool "_law_x" isWay) (C__law_is_whole : ClB P w K mg base k "_law_is_whole" s__law_is_whole "_law_x" isNum) (C__law_same : ClS P w K mg base k 1) (C__law_near_number : ClNn P w K mg base k) (C__law_number_in : ClLn P w K mg base k)
    (C_is_name : ClB P w K mg base k "is_name" s_is_name "value" isName) (C_is_point : ClB P w K mg base k "is_point" s_is_point "value" (isBnd 200)) (C_is_direction : ClB P w K mg base k "is_direction" s_is_direction "value" isDir) (C_is_way : ClB P w K mg base k "is_way" s_is_way "value" isWay) (C_is_number : ClNum P w K mg base k) (C_number_in : ClNi P w K mg base k)
    (K_is_name : CkB P w K mg base k "is_name" isName) (K_is_point : CkB P w K mg base k "is_point" (isBnd 200)) (K_is_direction : CkB P w K mg base k "is_direction" isDir) (K_is_way : CkB P w K mg base k "is_way" isWay)
    (K_is_number : Ck P w K mg base k "is_number" ["most", "least", "value"] (SpD K (p3 fun d lo hi => sm d = true ∧ (∃ i, lo = .int i) ∧ ∃ j, hi = .int j) fun ds r => r = f3 nIn ds) (fun zs => zs.reverse))
    (K_number_in : Ck P w K mg base k "number_in" ["text"] (SpD K SmP fun ds r => r = f1 numIn ds) (fun zs => zs)) :
    FnOk P w K mg base CX0 (k + 1) f fd ["_law_script"] (spLaw K) := by
  refine F.ok sc_law (fun vs H Q E h => ?_) (fun cdv A outer s H vs Q E hr h => ?_)
  · obtain ⟨a, ns, rfl, _⟩ := h
    rfl
  obtain ⟨a, ns, rfl, hS, hl, q⟩ := h
  obtain ⟨TC, hC, wC⟩ : ∃ TC, PSs (cxOf CX0 P w K mg base N_law "law" (defScope s_law) f cdv A outer s H E).nox ((loopBody ((defBody s_law).getD 1 (.Pass ⟨0, 0, 0, 0⟩))).drop 11) TC ∧ ∀ (B : Addr) (O : Out) (y2 y3 y4 y5 y6 y7 y8 y9 : Sd), (∀ z2 z3 z4 z5 z6 z7 z8 z9, O.nx [.no, .val .box, z2, z3, z4, z5, z6, z7, z8, z9]) → WS K B TC [.no, .val .box, y2, y3, y4, y5, y6, y7, y8, y9] O := by
    refine ⟨_, (pss_cons (ps_set (i := 9) sc_law.nd rfl (Or.inl rfl) (pe_c C__law_pick hr (by omega) (by rfl) (pa_cons (pv 1) (pa_cons (pe_op op_cat (pe_op op_rep (pe_lst (pa_cons (pe_c C__law_near_number hr (by omega) (by rfl) (pa_cons (pv 1) pa_nil)) pa_nil)) pe_int) (pe_lst (pa_cons (pe_c C__law_odd hr (by omega) (by rfl) (pa_cons (pv 1) pa_nil)) pa_nil))) pa_nil))))
      (pss_cons (ps_set (i := 6) sc_law.nd rfl (Or.inl rfl) (pe_ifExp (pt_val (pe_callB (show CallR _ (.builtin "isinstance") (rIsi K) from call_isi) (by rfl) G.g_isinstance (by decide +kernel) (pa_cons (pv 9) (pa_cons (pe_bltn (v := .ty "str") (u := .type "str") (by rfl) G.g_str (by decide +kernel) rfl) pa_nil)))) (pe_c C__law_number_in hr (by omega) (by rfl) (pa_cons (pv 9) pa_nil)) pe_non))
      (pss_one (ps_if (pt_not (pt_val (pe_c C__law_same hr (by omega) (by rfl) (pa_cons (pe_lst (pa_cons (pe_c C_number_in hr (by omega) (by rfl) (pa_cons (pv 9) pa_nil)) (pa_cons (pe_ck K_number_in hr (by omega) (by rfl) (pk_cons (pv 9) pk_nil)) pa_nil))) (pa_cons (pe_lst (pa_cons (pv 6) (pa_cons (pv 6) pa_nil))) pa_nil))))) (pss_one (ps_ret pe_bl)) pss_nil)))), fun B O y2 y3 y4 y5 y6 y7 y8 y9 hO => ?_⟩
    try dsimp only [cxOf, Cx.nox, Cx.blk]
    · try dsimp only [List.set]
      repeat walk_at "dl"
      refine ⟨rfl, ?_⟩
      rintro _ ⟨nz, rfl, hnz⟩
      repeat walk_at "dl"
      refine ro_rep (by decide) (by decide) (Nat.le_of_ble_eq_true rfl) ?_
      repeat walk_at "dl"
      refine ⟨rfl, ?_⟩
      rintro od2 (hod2 : sm od2 = true)
      repeat walk_at "dl"
      refine ro_cat (Nat.le_of_ble_eq_true rfl) ?_
      repeat walk_at "dl"
      refine ⟨⟨rfl, _, rfl, Nat.le_of_ble_eq_true rfl, Nat.le_of_ble_eq_true rfl⟩, ?_⟩
      rintro wh ⟨xs, e, m⟩
      cases e
      have hwh : sm wh = true := by
        have m' : wh ∈ [D.str nz, .str nz, .str nz, .str nz, .str nz, .str nz, od2] := m
        simp only [List.mem_cons, List.not_mem_nil, or_false] at m'
        rcases m' with rfl | rfl | rfl | rfl | rfl | rfl | rfl
        all_goals first | exact sm_str_mk hnz | exact hod2
      clear m
      try dsimp only [List.set]
      refine ws_seq (ws_set (WE.mono (P := fun r => r = numIn wh) ?_ fun r e => ?_))
      · have hcw := sm_cls hwh
        cases wh with
        | str zz =>
          repeat walk_at "dl"
          exact ⟨⟨zz, rfl, sm_str hwh⟩, rfl⟩
        | cls n => exact Bool.noConfusion hcw
        | _ => (repeat walk_at "dl"); rfl
      subst e
      try dsimp only [List.set]
      repeat walk_at "dl"
      refine ⟨hwh, ?_⟩
      repeat walk_at "dl"
      refine we_ck1 ?_
      repeat walk_at "dl"
      refine ⟨rfl, hwh, ?_⟩
      repeat walk_at "dl"
      refine ⟨⟨rfl, ?_⟩, ?_⟩
      · show (decide (2 ≤ 1000) && (plain 0 (numIn wh) && (plain 0 (numIn wh) && true))) = true
        rw [num_plain]; rfl
      repeat walk_at "dl"
      exact hO _ _ _ _ _ _ _ _
  obtain ⟨TB, hB, wB⟩ : ∃ TB, PSs (cxOf CX0 P w K mg base N_law "law" (defScope s_law) f cdv A outer s H E).nox ((loopBody ((defBody s_law).getD 1 (.Pass ⟨0, 0, 0, 0⟩))).drop 6) TB ∧ ∀ (B : Addr) (O : Out) (y2 y3 y4 y5 y6 y7 y8 y9 : Sd), (∀ z2 z3 z4 z5 z6 z7 z8 z9, O.nx [.no, .val .box, z2, z3, z4, z5, z6, z7, z8, z9]) → WS K B TB [.no, .val .box, y2, y3, y4, y5, y6, y7, y8, y9] O := by
    refine ⟨_, (pss_cons (ps_set (i := 7) sc_law.nd rfl (Or.inl rfl) (pe_c C__law_pick hr (by omega) (by rfl) (pa_cons (pv 1) (pa_cons (pe_lst (pa_cons pe_int (pa_cons pe_int (pa_cons (pe_un un_neg pe_int) (pa_cons (pe_un un_neg pe_int) (pa_cons (pe_op op_sub pe_int (pe_c C__law_take hr (by omega) (by rfl) (pa_cons (pv 1) (pa_cons (pe_op op_pow pe_int pe_int) pa_nil)))) (pa_cons pe_int pa_nil))))))) pa_nil))))
      (pss_cons (ps_set (i := 8) sc_law.nd rfl (Or.inl rfl) (pe_op op_add (pv 7) (pe_c C__law_pick hr (by omega) (by rfl) (pa_cons (pv 1) (pa_cons (pe_lst (pa_cons pe_int (pa_cons pe_int (pa_cons (pe_c C__law_take hr (by omega) (by rfl) (pa_cons (pv 1) (pa_cons pe_int pa_nil))) pa_nil)))) pa_nil)))))
      (pss_cons (ps_set (i := 5) sc_law.nd rfl (Or.inl rfl) (pe_c C__law_pick hr (by omega) (by rfl) (pa_cons (pv 1) (pa_cons (pe_lst (pa_cons (pv 7) (pa_cons (pv 8) (pa_cons (pe_op op_sub (pv 7) pe_int) (pa_cons (pe_op op_add (pv 8) pe_int) (pa_cons pe_bl (pa_cons pe_bl (pa_cons pe_non (pa_cons pe_str (pa_cons (pe_tup (pa_cons (pv 7) pa_nil)) (pa_cons (pe_lst (pa_cons (pv 8) pa_nil)) (pa_cons (pe_op op_add (pv 7) (pe_c C__law_take hr (by omega) (by rfl) (pa_cons (pv 1) (pa_cons pe_int pa_nil)))) pa_nil)))))))))))) pa_nil))))
      (pss_cons (ps_set (i := 6) sc_law.nd rfl (Or.inl rfl) (pe_and (pe_c C__law_is_whole hr (by omega) (by rfl) (pa_cons (pv 5) pa_nil)) (pe_and (pe_cmpR op_le (pv 7) (pv 5) (nomark _)) (pe_one (pe_cmpR op_le (pv 5) (pv 8) (nomark _))))))
      (pss_cons (ps_if (pt_not (pt_val (pe_c C__law_same hr (by omega) (by rfl) (pa_cons (pe_lst (pa_cons (pe_c C_is_number hr (by omega) (by rfl) (pa_cons (pv 5) (pa_cons (pv 7) (pa_cons (pv 8) pa_nil)))) (pa_cons (pe_ck K_is_number hr (by omega) (by rfl) (pk_cons (pv 8) (pk_cons (pv 7) (pk_cons (pv 5) pk_nil)))) pa_nil))) (pa_cons (pe_lst (pa_cons (pv 6) (pa_cons (pv 6) pa_nil))) pa_nil))))) (pss_one (ps_ret pe_bl)) pss_nil)
      hC))))), fun B O y2 y3 y4 y5 y6 y7 y8 y9 hO => ?_⟩
    try dsimp only [cxOf, Cx.nox, Cx.blk]
    · try dsimp only [List.set]
      repeat walk_at "dl"
      refine ro_int ⟨by decide, by decide, by decide⟩ ?_
      repeat walk_at "dl"
      refine ⟨⟨rfl, _, rfl, by decide, by decide⟩, ?_⟩
      rintro _ ⟨_, l, e, rfl, hl0, hl1⟩
      cases e
      repeat walk_at "dl"
      refine ⟨⟨rfl, _, rfl, Nat.le_of_ble_eq_true rfl, Nat.le_of_ble_eq_true rfl⟩, ?_⟩
      rintro lw ⟨xs, e, m⟩
      cases e
      obtain ⟨lo, rfl⟩ : ∃ i : Int, lw = .int i := by
        simp only [List.mem_cons, List.not_mem_nil, or_false] at m
        rcases m with rfl | rfl | rfl | rfl | rfl | rfl <;> exact ⟨_, rfl⟩
      clear m
      repeat walk_at "dl"
      refine ⟨⟨rfl, _, rfl, by decide, by decide⟩, ?_⟩
      rintro _ ⟨_, l2, e, rfl, hl20, hl21⟩
      cases e
      repeat walk_at "dl"
      refine ⟨⟨rfl, _, rfl, Nat.le_of_ble_eq_true rfl, Nat.le_of_ble_eq_true rfl⟩, ?_⟩
      rintro hw ⟨xs, e, m⟩
      cases e
      obtain ⟨hh, rfl⟩ : ∃ i : Int, hw = .int i := by
        simp only [List.mem_cons, List.not_mem_nil, or_false] at m
        rcases m with rfl | rfl | rfl <;> exact ⟨_, rfl⟩
      clear m
      repeat walk_at "dl"
      refine ⟨⟨rfl, _, rfl, by decide, by decide⟩, ?_⟩
      rintro _ ⟨_, l3, e, rfl, hl30, hl31⟩
      cases e
      repeat walk_at "dl"
      refine ⟨⟨rfl, _, rfl, Nat.le_of_ble_eq_true rfl, Nat.le_of_ble_eq_true rfl⟩, ?_⟩
      rintro x2 ⟨xs, e, m⟩
      cases e
      have hx2 : sm x2 = true := by
        simp only [List.mem_cons, List.not_mem_nil, or_false] at m
        rcases m with rfl | rfl | rfl | rfl | rfl | rfl | rfl | rfl | rfl | rfl | rfl
        all_goals rfl
      clear m
      try dsimp only [List.set]
      refine ws_seq (ws_set (WE.mono (P := fun r => r = .bl (isNumIn x2 lo (lo + hh))) ?_ fun r e => ?_))
      · repeat walk_at "dl"
        refine ⟨hx2, isNum x2, rfl, ?_⟩
        refine ite2 (fun hn => ?_) (fun hn => ?_)
        · obtain ⟨xi, rfl⟩ := num_ex hn
          repeat walk_at "dl"
          refine ite2 (fun h5 => ?_) (fun h5 => ?_)
          · repeat walk_at "dl"
            exact and_t h5
          · exact and_f h5
        · cases x2 <;> first | rfl | exact absurd rfl hn
      subst e
      try dsimp only [List.set]
      repeat walk_at "dl"
      refine ⟨⟨hx2, ⟨_, rfl⟩, _, rfl⟩, ?_⟩
      repeat walk_at "dl"
      refine we_ck3 ?_
      repeat walk_at "dl"
      refine ⟨rfl, ⟨hx2, ⟨_, rfl⟩, _, rfl⟩, ?_⟩
      repeat walk_at "dl"
      refine ⟨⟨rfl, rfl⟩, ?_⟩
      repeat walk_at "dl"
      exact wC B O _ _ _ _ _ _ _ _ hO
  obtain ⟨TA, hA, wA⟩ : ∃ TA, PSs (cxOf CX0 P w K mg base N_law "law" (defScope s_law) f cdv A outer s H E).nox ((loopBody ((defBody s_law).getD 1 (.Pass ⟨0, 0, 0, 0⟩))).drop 0) TA ∧ ∀ (B : Addr) (O : Out) (y2 y3 y4 y5 y6 y7 y8 y9 : Sd), (∀ z2 z3 z4 z5 z6 z7 z8 z9, O.nx [.no, .val .box, z2, z3, z4, z5, z6, z7, z8, z9]) → WS K B TA [.no, .val .box, y2, y3, y4, y5, y6, y7, y8, y9] O := by
    refine ⟨_, (pss_cons (ps_set (i := 3) sc_law.nd rfl (Or.inl rfl) (pe_tup (pa_cons (pe_op op_sub (pe_c C__law_take hr (by omega) (by rfl) (pa_cons (pv 1) (pa_cons pe_int pa_nil))) pe_int) (pa_cons (pe_op op_sub (pe_c C__law_take hr (by omega) (by rfl) (pa_cons (pv 1) (pa_cons pe_int pa_nil))) pe_int) pa_nil))))
      (pss_cons (ps_set (i := 4) sc_law.nd rfl (Or.inl rfl) (pe_c C__law_pick hr (by omega) (by rfl) (pa_cons (pv 1) (pa_cons (pe_lst (pa_cons (pe_c C__law_word hr (by omega) (by rfl) (pa_cons (pv 1) (pa_cons pe_int pa_nil))) (pa_cons (pv 3) (pa_cons (pe_c C__law_dir hr (by omega) (by rfl) (pa_cons (pv 1) pa_nil)) (pa_cons (pe_c C__law_tool hr (by omega) (by rfl) (pa_cons (pv 1) pa_nil)) (pa_cons (pe_c C__law_pick hr (by omega) (by rfl) (pa_cons (pv 1) (pa_cons (pe_lst (pa_cons (pe_tup (pa_cons pe_int (pa_cons (pe_un un_neg pe_int) pa_nil))) (pa_cons (pe_tup (pa_cons (pe_un un_neg pe_int) (pa_cons pe_int pa_nil))) pa_nil))) pa_nil))) pa_nil)))))) pa_nil))))
      (pss_cons (ps_set (i := 5) sc_law.nd rfl (Or.inl rfl) (pe_c C__law_pick hr (by omega) (by rfl) (pa_cons (pv 1) (pa_cons (pe_lst (pa_cons (pv 4) (pa_cons (pe_c C__law_bent hr (by omega) (by rfl) (pa_cons (pv 1) (pa_cons (pv 4) pa_nil))) (pa_cons (pe_c C__law_bent hr (by omega) (by rfl) (pa_cons (pv 1) (pa_cons (pv 4) pa_nil))) (pa_cons (pe_c C__law_odd hr (by omega) (by rfl) (pa_cons (pv 1) pa_nil)) pa_nil))))) pa_nil))))
      (pss_cons (ps_set (i := 6) sc_law.nd rfl (Or.inl rfl) (pe_lst (pa_cons (pe_c C__law_is_tag hr (by omega) (by rfl) (pa_cons (pv 5) pa_nil)) (pa_cons (pe_c C__law_is_spot hr (by omega) (by rfl) (pa_cons (pv 5) pa_nil)) (pa_cons (pe_c C__law_is_dir hr (by omega) (by rfl) (pa_cons (pv 5) pa_nil)) (pa_cons (pe_c C__law_is_tool hr (by omega) (by rfl) (pa_cons (pv 5) pa_nil)) pa_nil))))))
      (pss_cons (ps_if (pt_not (pt_val (pe_c C__law_same hr (by omega) (by rfl) (pa_cons (pe_lst (pa_cons (pe_c C_is_name hr (by omega) (by rfl) (pa_cons (pv 5) pa_nil)) (pa_cons (pe_c C_is_point hr (by omega) (by rfl) (pa_cons (pv 5) pa_nil)) (pa_cons (pe_c C_is_direction hr (by omega) (by rfl) (pa_cons (pv 5) pa_nil)) (pa_cons (pe_c C_is_way hr (by omega) (by rfl) (pa_cons (pv 5) pa_nil)) pa_nil))))) (pa_cons (pv 6) pa_nil))))) (pss_one (ps_ret pe_bl)) pss_nil)
      (pss_cons (ps_if (pt_not (pt_val (pe_c C__law_same hr (by omega) (by rfl) (pa_cons (pe_lst (pa_cons (pe_ck K_is_name hr (by omega) (by rfl) (pk_cons (pv 5) pk_nil)) (pa_cons (pe_ck K_is_point hr (by omega) (by rfl) (pk_cons (pv 5) pk_nil)) (pa_cons (pe_ck K_is_direction hr (by omega) (by rfl) (pk_cons (pv 5) pk_nil)) (pa_cons (pe_ck K_is_way hr (by omega) (by rfl) (pk_cons (pv 5) pk_nil)) pa_nil))))) (pa_cons (pv 6) pa_nil))))) (pss_one (ps_ret pe_bl)) pss_nil)
      hB)))))), fun B O y2 y3 y4 y5 y6 y7 y8 y9 hO => ?_⟩
    try dsimp only [cxOf, Cx.nox, Cx.blk]
    · try dsimp only [List.set]
      repeat walk_at "dl"
      refine ⟨⟨rfl, _, rfl, by decide, by decide⟩, ?_⟩
      rintro _ ⟨_, i, e, rfl, hi0, hi1⟩
      cases e
      repeat walk_at "dl"
      refine ⟨⟨rfl, _, rfl, by decide, by decide⟩, ?_⟩
      rintro _ ⟨_, j, e, rfl, hj0, hj1⟩
      cases e
      repeat walk_at "dl"
      refine ⟨⟨rfl, _, rfl, by decide, by decide⟩, ?_⟩
      rintro _ ⟨z, rfl, hz⟩
      repeat walk_at "dl"
      refine ⟨rfl, ?_⟩
      rintro _ ⟨u, v, rfl⟩
      repeat walk_at "dl"
      refine ⟨rfl, ?_⟩
      rintro _ ⟨ta, tb, tc, td, rfl⟩
      repeat walk_at "dl"
      refine ⟨⟨rfl, _, rfl, by decide, by decide⟩, ?_⟩
      rintro pp ⟨xs, e, m⟩
      cases e
      obtain ⟨p1, p2, rfl⟩ : IsPair pp := by
        simp only [List.mem_cons, List.not_mem_nil, or_false] at m
        rcases m with rfl | rfl <;> exact ⟨_, _, rfl⟩
      repeat walk_at "dl"
      refine ⟨⟨rfl, _, rfl, Nat.le_of_ble_eq_true rfl, Nat.le_of_ble_eq_true rfl⟩, ?_⟩
      rintro g ⟨xs, e, m⟩
      cases e
      have hg : Good g := by
        simp only [List.mem_cons, List.not_mem_nil, or_false] at m
        rcases m with rfl | rfl | rfl | rfl | rfl
        · exact .inl ⟨_, rfl, hz⟩
        · exact .inr (.inl ⟨_, _, rfl⟩)
        · exact .inr (.inl ⟨_, _, rfl⟩)
        · exact .inr (.inr ⟨_, _, _, _, rfl⟩)
        · exact .inr (.inl ⟨_, _, rfl⟩)
      clear m
      repeat walk_at "dl"
      refine ⟨⟨rfl, hg⟩, ?_⟩
      rintro b1 (hb1 : sm b1 = true)
      repeat walk_at "dl"
      refine ⟨⟨rfl, hg⟩, ?_⟩
      rintro b2 (hb2 : sm b2 = true)
      repeat walk_at "dl"
      refine ⟨rfl, ?_⟩
      rintro od (hod : sm od = true)
      repeat walk_at "dl"
      refine ⟨⟨rfl, _, rfl, Nat.le_of_ble_eq_true rfl, Nat.le_of_ble_eq_true rfl⟩, ?_⟩
      rintro x ⟨xs, e, m⟩
      cases e
      have hx : sm x = true := by
        simp only [List.mem_cons, List.not_mem_nil, or_false] at m
        rcases m with rfl | rfl | rfl | rfl
        · exact good_sm hg
        · exact hb1
        · exact hb2
        · exact hod
      clear m
      repeat walk_at "dl"
      refine ⟨hx, ?_⟩
      repeat walk_at "dl"
      refine ⟨hx, ?_⟩
      repeat walk_at "dl"
      refine ⟨hx, ?_⟩
      repeat walk_at "dl"
      refine ⟨hx, ?_⟩
      repeat walk_at "dl"
      refine ⟨hx, ?_⟩
      repeat walk_at "dl"
      refine ⟨hx, ?_⟩
      repeat walk_at "dl"
      refine ⟨hx, ?_⟩
      repeat walk_at "dl"
      refine ⟨hx, ?_⟩
      repeat walk_at "dl"
      refine ⟨⟨rfl, rfl⟩, ?_⟩
      repeat walk_at "dl"
      refine we_ck1 ?_
      repeat walk_at "dl"
      refine ⟨rfl, hx, ?_⟩
      repeat walk_at "dl"
      refine we_ck1 ?_
      repeat walk_at "dl"
      refine ⟨rfl, hx, ?_⟩
      repeat walk_at "dl"
      refine we_ck1 ?_
      repeat walk_at "dl"
      refine ⟨rfl, hx, ?_⟩
      repeat walk_at "dl"
      refine we_ck1 ?_
      repeat walk_at "dl"
      refine ⟨rfl, hx, ?_⟩
      repeat walk_at "dl"
      refine ⟨⟨rfl, rfl⟩, ?_⟩
      repeat walk_at "dl"
      exact wB B O _ _ _ _ _ _ _ _ hO
  obtain ⟨T2, h2, w2⟩ : ∃ T2, PSs (cxOf CX0 P w K mg base N_law "law" (defScope s_law) f cdv A outer s H E).nox ((defBody s_law).drop 1) T2 ∧ ∀ B, WS K B T2 [.no, .val .box, .no, .no, .no, .no, .no, .no, .no, .no] { nx := fun _ => False, rt := fun r => r = .bl true } := by
    refine ⟨_, (pss_cons (ps_for PassesOwn.never rfl (pi_range1 rfl G.g_range (pa_cons pe_int pa_nil)) (pg_name (i := 2) sc_law.nd rfl (Or.inl rfl)) hA) (pss_one (ps_ret pe_bl))), fun B => ?_⟩
    try dsimp only [cxOf, Cx.nox, Cx.blk]
    refine ws_seq (ws_for (wi_range1 ?_))
    repeat walk_at "dl"
    refine ⟨by decide, by decide, fun _ δ1 => ∃ y2 y3 y4 y5 y6 y7 y8 y9, δ1 = [.no, .val .box, y2, y3, y4, y5, y6, y7, y8, y9], ⟨_, _, _, _, _, _, _, _, rfl⟩, ?_, ?_⟩
    · rintro t d δ1 _ ⟨y2, y3, y4, y5, y6, y7, y8, y9, rfl⟩
      exact wA B _ _ _ _ _ _ _ _ _ fun z2 z3 z4 z5 z6 z7 z8 z9 => ⟨_, _, _, _, _, _, _, _, rfl⟩
    · rintro δ1 ⟨y2, y3, y4, y5, y6, y7, y8, y9, rfl⟩
      repeat walk_at "dl"
      rfl
  refine ⟨_, pss_cons (ps_set (i := 1) sc_law.nd rfl (Or.inl rfl) (pe_c C__law_box hr (by omega) (by rfl) (pa_cons (pv 0) (pa_cons pe_int pa_nil)))) h2, ?_⟩
  refine ⟨_, rfl, ⟨a, ns, _, rfl, hS, hl, by decide, by decide, fun B G1 H1 sm ok => ?_⟩⟩
  refine w2 B G1 H1 _ G1 H1 _ ⟨Go.refl, ok, rfl, fun i d e => ?_, fun i ds e => ?_, fun i j ds es x e1 => ?_⟩ (fun _ _ _ _ _ _ z => z.elim) (fun v d G2 H2 _ _ hv e => ?_) (fun _ _ _ _ _ _ z => z.elim) (fun _ _ _ _ _ _ z => z.elim)
  · match i, e with
    | 0, e => cases e
    | 1, e => cases e; exact ⟨.ref B, rfl, .box⟩
    | 2, e => cases e
    | 3, e => cases e
    | 4, e => cases e
    | 5, e => cases e
    | 6, e => cases e
    | 7, e => cases e
    | 8, e => cases e
    | 9, e => cases e
    | n + 10, e => cases e
  · exact absurd e (by match i with
      | 0 => exact fun z => nomatch z
      | 1 => exact fun z => nomatch z
      | 2 => exact fun z => nomatch z
      | 3 => exact fun z => nomatch z
      | 4 => exact fun z => nomatch z
      | 5 => exact fun z => nomatch z
      | 6 => exact fun z => nomatch z
      | 7 => exact fun z => nomatch z
      | 8 => exact fun z => nomatch z
      | 9 => exact fun z => nomatch z
      | n + 10 => exact fun z => nomatch z)
  · exact absurd e1 (by match i with
      | 0 => exact fun z => nomatch z
      | 1 => exact fun z => nomatch z
      | 2 => exact fun z => nomatch z
      | 3 => exact fun z => nomatch z
      | 4 => exact fun z => nomatch z
      | 5 => exact fun z => nomatch z
      | 6 => exact fun z => nomatch z
      | 7 => exact fun z => nomatch z
      | 8 => exact fun z => nomatch z
      | 9 => exact fun z => nomatch z
      | n + 10 => exact fun z => nomatch z)
  · subst e
    cases hv
    exact q H2
end
section
variable {K : PySem.W.Frag} {h : Heap} {mg : Str → Option Value}
theorem df_mk {x : Str} {st : Stmt} {f : Addr} {oc : Value} {od an : Option Addr} {osl : Array (Option Value)} {kV doc pm cdv ct : Value} (X : K.In h) (G : h.Ns mainGlobals mg) (a : PySem.W.nsIn K mainGlobals x = some (some (.ref f)))
    (l : K.lookup f = some ⟨oc, od, .func (PySem.W.fnOf x x (defArgs st) (defBody st) (defScope st) .none kV doc pm an cdv ct), osl⟩) (c : PySem.W.codeIn K cdv x = true) (k : PySem.W.keepIn K (.ref f) = true) : Df K mg x st :=
  ⟨f, _, fun_mk (st := st) l c k, PySem.W.mg_of X G a⟩
theorem gi_mk {x : Str} {i : Int} {t : Tok} (X : K.In h) (G : h.Ns mainGlobals mg) (a : PySem.W.nsIn K mainGlobals x = some (some (.int i t))) : ∃ t, mg x = some (.int i t) := ⟨t, PySem.W.mg_of X G a⟩
theorem gs_mk {x z : Str} {t : Tok} (X : K.In h) (G : h.Ns mainGlobals mg) (a : PySem.W.nsIn K mainGlobals x = some (some (.str z t))) : ∃ t, mg x = some (.str z t) := ⟨t, PySem.W.mg_of X G a⟩
end
/-- what the top has written -/
structure Top (K : PySem.W.Frag) (mg : Str → Option Value) : Prop where
  gn : Gn mg
  d_is_name : Df K mg "is_name" s_is_name
  d_is_any_number : Df K mg "is_any_number" s_is_any_number
  d_is_number : Df K mg "is_number" s_is_number
  d_is_number_pair : Df K mg "is_number_pair" s_is_number_pair
  d_is_bounded_pair : Df K mg "is_bounded_pair" s_is_bounded_pair
  d_is_point : Df K mg "is_point" s_is_point
  d_is_direction : Df K mg "is_direction" s_is_direction
  d_is_way : Df K mg "is_way" s_is_way
  d_number_in : Df K mg "number_in" s_number_in
  d__law_box : Df K mg "_law_box" s__law_box
  d__law_take : Df K mg "_law_take" s__law_take
  d__law_pick : Df K mg "_law_pick" s__law_pick
  d__law_same : Df K mg "_law_same" s__law_same
  d__law_letters : Df K mg "_law_letters" s__law_letters
  d__law_word : Df K mg "_law_word" s__law_word
  d__law_odd : Df K mg "_law_odd" s__law_odd
  d__law_gcd : Df K mg "_law_gcd" s__law_gcd
  d__law_dir : Df K mg "_law_dir" s__law_dir
  d__law_is_whole : Df K mg "_law_is_whole" s__law_is_whole
  d__law_is_spot : Df K mg "_law_is_spot" s__law_is_spot
  d__law_is_dir : Df K mg "_law_is_dir" s__law_is_dir
  d__law_is_tool : Df K mg "_law_is_tool" s__law_is_tool
  d__law_is_tag : Df K mg "_law_is_tag" s__law_is_tag
  d__law_tool : Df K mg "_law_tool" s__law_tool
  d__law_number_in : Df K mg "_law_number_in" s__law_number_in
  d__law_bent_pair : Df K mg "_law_bent_pair" s__law_bent_pair
  d__law_bent : Df K mg "_law_bent" s__law_bent
  d__law_near_number : Df K mg "_law_near_number" s__law_near_number
theorem top_mk {K : PySem.W.Frag} {h : Heap} {mg : Str → Option Value} (X : K.In h) (G : h.Ns mainGlobals mg)
    {f0 : Addr} {oc0 kV0 dc0 pm0 cd0 ct0 : Value} {od0 an0 : Option Addr} {sl0 : Array (Option Value)}
    {f1 : Addr} {oc1 kV1 dc1 pm1 cd1 ct1 : Value} {od1 an1 : Option Addr} {sl1 : Array (Option Value)}
    {f2 : Addr} {oc2 kV2 dc2 pm2 cd2 ct2 : Value} {od2 an2 : Option Addr} {sl2 : Array (Option Value)}
    {f3 : Addr} {oc3 kV3 dc3 pm3 cd3 ct3 : Value} {od3 an3 : Option Addr} {sl3 : Array (Option Value)}
    {f4 : Addr} {oc4 kV4 dc4 pm4 cd4 ct4 : Value} {od4 an4 : Option Addr} {sl4 : Array (Option Value)}
    {f5 : Addr} {oc5 kV5 dc5 pm5 cd5 ct5 : Value} {od5 an5 : Option Addr} {sl5 : Array (Option Value)}
    {f6 : Addr} {oc6 kV6 dc6 pm6 cd6 ct6 : Value} {od6 an6 : Option Addr} {sl6 : Array (Option Value)}
    {f7 : Addr} {oc7 kV7 dc7 pm7 cd7 ct7 : Value} {od7 an7 : Option Addr} {sl7 : Array (Option Value)}
    {f8 : Addr} {oc8 kV8 dc8 pm8 cd8 ct8 : Value} {od8 an8 : Option Addr} {sl8 : Array (Option Value)}
    {f9 : Addr} {oc9 kV9 dc9 pm9 cd9 ct9 : Value} {od9 an9 : Option Addr} {sl9 : Array (Option Value)}
    {f10 : Addr} {oc10 kV10 dc10 pm10 cd10 ct10 : Value} {od10 an10 : Option Addr} {sl10 : Array (Option Value)}
    {f11 : Addr} {oc11 kV11 dc11 pm11 cd11 ct11 : Value} {od11 an11 : Option Addr} {sl11 : Array (Option Value)}
    {f12 : Addr} {oc12 kV12 dc12 pm12 cd12 ct12 : Value} {od12 an12 : Option Addr} {sl12 : Array (Option Value)}
    {f13 : Addr} {oc13 kV13 dc13 pm13 cd13 ct13 : Value} {od13 an13 : Option Addr} {sl13 : Array (Option Value)}
    {f14 : Addr} {oc14 kV14 dc14 pm14 cd14 ct14 : Value} {od14 an14 : Option Addr} {sl14 : Array (Option Value)}
    {f15 : Addr} {oc15 kV15 dc15 pm15 cd15 ct15 : Value} {od15 an15 : Option Addr} {sl15 : Array (Option Value)}
    {f16 : Addr} {oc16 kV16 dc16 pm16 cd16 ct16 : Value} {od16 an16 : Option Addr} {sl16 : Array (Option Value)}
    {f17 : Addr} {oc17 kV17 dc17 pm17 cd17 ct17 : Value} {od17 an17 : Option Addr} {sl17 : Array (Option Value)}
    {f18 : Addr} {oc18 kV18 dc18 pm18 cd18 ct18 : Value} {od18 an18 : Option Addr} {sl18 : Array (Option Value)}
    {f19 : Addr} {oc19 kV19 dc19 pm19 cd19 ct19 : Value} {od19 an19 : Option Addr} {sl19 : Array (Option Value)}
    {f20 : Addr} {oc20 kV20 dc20 pm20 cd20 ct20 : Value} {od20 an20 : Option Addr} {sl20 : Array (Option Value)}
    {f21 : Addr} {oc21 kV21 dc21 pm21 cd21 ct21 : Value} {od21 an21 : Option Addr} {sl21 : Array (Option Value)}
    {f22 : Addr} {oc22 kV22 dc22 pm22 cd22 ct22 : Value} {od22 an22 : Option Addr} {sl22 : Array (Option Value)}
    {f23 : Addr} {oc23 kV23 dc23 pm23 cd23 ct23 : Value} {od23 an23 : Option Addr} {sl23 : Array (Option Value)}
    {f24 : Addr} {oc24 kV24 dc24 pm24 cd24 ct24 : Value} {od24 an24 : Option Addr} {sl24 : Array (Option Value)}
    {f25 : Addr} {oc25 kV25 dc25 pm25 cd25 ct25 : Value} {od25 an25 : Option Addr} {sl25 : Array (Option Value)}
    {f26 : Addr} {oc26 kV26 dc26 pm26 cd26 ct26 : Value} {od26 an26 : Option Addr} {sl26 : Array (Option Value)}
    {f27 : Addr} {oc27 kV27 dc27 pm27 cd27 ct27 : Value} {od27 an27 : Option Addr} {sl27 : Array (Option Value)}
    {t_LETTERS : Tok}
    {t_DIGITS : Tok}
    {t_MOST_LETTERS : Tok}
    {t_MOST_DIGITS : Tok}
    {t_POINT_BOUND : Tok}
    {t_DIRECTION_BOUND : Tok}
    (a0 : PySem.W.nsIn K mainGlobals "is_name" = some (some (.ref f0))) (l0 : K.lookup f0 = some ⟨oc0, od0, .func (PySem.W.fnOf "is_name" "is_name" (defArgs s_is_name) (defBody s_is_name) (defScope s_is_name) .none kV0 dc0 pm0 an0 cd0 ct0), sl0⟩) (c0 : PySem.W.codeIn K cd0 "is_name" = true) (k0 : PySem.W.keepIn K (.ref f0) = true)
    (a1 : PySem.W.nsIn K mainGlobals "is_any_number" = some (some (.ref f1))) (l1 : K.lookup f1 = some ⟨oc1, od1, .func (PySem.W.fnOf "is_any_number" "is_any_number" (defArgs s_is_any_number) (defBody s_is_any_number) (defScope s_is_any_number) .none kV1 dc1 pm1 an1 cd1 ct1), sl1⟩) (c1 : PySem.W.codeIn K cd1 "is_any_number" = true) (k1 : PySem.W.keepIn K (.ref f1) = true)
    (a2 : PySem.W.nsIn K mainGlobals "is_number" = some (some (.ref f2))) (l2 : K.lookup f2 = some ⟨oc2, od2, .func (PySem.W.fnOf "is_number" "is_number" (defArgs s_is_number) (defBody s_is_number) (defScope s_is_number) .none kV2 dc2 pm2 an2 cd2 ct2), sl2⟩) (c2 : PySem.W.codeIn K cd2 "is_number" = true) (k2 : PySem.W.keepIn K (.ref f2) = true)
    (a3 : PySem.W.nsIn K mainGlobals "is_number_pair" = some (some (.ref f3))) (l3 : K.lookup f3 = some ⟨oc3, od3, .func (PySem.W.fnOf "is_number_pair" "is_number_pair" (defArgs s_is_number_pair) (defBody s_is_number_pair) (defScope s_is_number_pair) .none kV3 dc3 pm3 an3 cd3 ct3), sl3⟩) (c3 : PySem.W.codeIn K cd3 "is_number_pair" = true) (k3 : PySem.W.keepIn K (.ref f3) = true)
    (a4 : PySem.W.nsIn K mainGlobals "is_bounded_pair" = some (some (.ref f4))) (l4 : K.lookup f4 = some ⟨oc4, od4, .func (PySem.W.fnOf "is_bounded_pair" "is_bounded_pair" (defArgs s_is_bounded_pair) (defBody s_is_bounded_pair) (defScope s_is_bounded_pair) .none kV4 dc4 pm4 an4 cd4 ct4), sl4⟩) (c4 : PySem.W.codeIn K cd4 "is_bounded_pair" = true) (k4 : PySem.W.keepIn K (.ref f4) = true)
    (a5 : PySem.W.nsIn K mainGlobals "is_point" = some (some (.ref f5))) (l5 : K.lookup f5 = some ⟨oc5, od5, .func (PySem.W.fnOf "is_point" "is_point" (defArgs s_is_point) (defBody s_is_point) (defScope s_is_point) .none kV5 dc5 pm5 an5 cd5 ct5), sl5⟩) (c5 : PySem.W.codeIn K cd5 "is_point" = true) (k5 : PySem.W.keepIn K (.ref f5) = true)
    (a6 : PySem.W.nsIn K mainGlobals "is_direction" = some (some (.ref f6))) (l6 : K.lookup f6 = some ⟨oc6, od6, .func (PySem.W.fnOf "is_direction" "is_direction" (defArgs s_is_direction) (defBody s_is_direction) (defScope s_is_direction) .none kV6 dc6 pm6 an6 cd6 ct6), sl6⟩) (c6 : PySem.W.codeIn K cd6 "is_direction" = true) (k6 : PySem.W.keepIn K (.ref f6) = true)
    (a7 : PySem.W.nsIn K mainGlobals "is_way" = some (some (.ref f7))) (l7 : K.lookup f7 = some ⟨oc7, od7, .func (PySem.W.fnOf "is_way" "is_way" (defArgs s_is_way) (defBody s_is_way) (defScope s_is_way) .none kV7 dc7 pm7 an7 cd7 ct7), sl7⟩) (c7 : PySem.W.codeIn K cd7 "is_way" = true) (k7 : PySem.W.keepIn K (.ref f7) = true)
    (a8 : PySem.W.nsIn K mainGlobals "number_in" = some (some (.ref f8))) (l8 : K.lookup f8 = some ⟨oc8, od8, .func (PySem.W.fnOf "number_in" "number_in" (defArgs s_number_in) (defBody s_number_in) (defScope s_number_in) .none kV8 dc8 pm8 an8 cd8 ct8), sl8⟩) (c8 : PySem.W.codeIn K cd8 "number_in" = true) (k8 : PySem.W.keepIn K (.ref f8) = true)
    (a9 : PySem.W.nsIn K mainGlobals "_law_box" = some (some (.ref f9))) (l9 : K.lookup f9 = some ⟨oc9, od9, .func (PySem.W.fnOf "_law_box" "_law_box" (defArgs s__law_box) (defBody s__law_box) (defScope s__law_box) .none kV9 dc9 pm9 an9 cd9 ct9), sl9⟩) (c9 : PySem.W.codeIn K cd9 "_law_box" = true) (k9 : PySem.W.keepIn K (.ref f9) = true)
    (a10 : PySem.W.nsIn K mainGlobals "_law_take" = some (some (.ref f10))) (l10 : K.lookup f10 = some ⟨oc10, od10, .func (PySem.W.fnOf "_law_take" "_law_take" (defArgs s__law_take) (defBody s__law_take) (defScope s__law_take) .none kV10 dc10 pm10 an10 cd10 ct10), sl10⟩) (c10 : PySem.W.codeIn K cd10 "_law_take" = true) (k10 : PySem.W.keepIn K (.ref f10) = true)
    (a11 : PySem.W.nsIn K mainGlobals "_law_pick" = some (some (.ref f11))) (l11 : K.lookup f11 = some ⟨oc11, od11, .func (PySem.W.fnOf "_law_pick" "_law_pick" (defArgs s__law_pick) (defBody s__law_pick) (defScope s__law_pick) .none kV11 dc11 pm11 an11 cd11 ct11), sl11⟩) (c11 : PySem.W.codeIn K cd11 "_law_pick" = true) (k11 : PySem.W.keepIn K (.ref f11) = true)
    (a12 : PySem.W.nsIn K mainGlobals "_law_same" = some (some (.ref f12))) (l12 : K.lookup f12 = some ⟨oc12, od12, .func (PySem.W.fnOf "_law_same" "_law_same" (defArgs s__law_same) (defBody s__law_same) (defScope s__law_same) .none kV12 dc12 pm12 an12 cd12 ct12), sl12⟩) (c12 : PySem.W.codeIn K cd12 "_law_same" = true) (k12 : PySem.W.keepIn K (.ref f12) = true)
    (a13 : PySem.W.nsIn K mainGlobals "_law_letters" = some (some (.ref f13))) (l13 : K.lookup f13 = some ⟨oc13, od13, .func (PySem.W.fnOf "_law_letters" "_law_letters" (defArgs s__law_letters) (defBody s__law_letters) (defScope s__law_letters) .none kV13 dc13 pm13 an13 cd13 ct13), sl13⟩) (c13 : PySem.W.codeIn K cd13 "_law_letters" = true) (k13 : PySem.W.keepIn K (.ref f13) = true)
    (a14 : PySem.W.nsIn K mainGlobals "_law_word" = some (some (.ref f14))) (l14 : K.lookup f14 = some ⟨oc14, od14, .func (PySem.W.fnOf "_law_word" "_law_word" (defArgs s__law_word) (defBody s__law_word) (defScope s__law_word) .none kV14 dc14 pm14 an14 cd14 ct14), sl14⟩) (c14 : PySem.W.codeIn K cd14 "_law_word" = true) (k14 : PySem.W.keepIn K (.ref f14) = true)
    (a15 : PySem.W.nsIn K mainGlobals "_law_odd" = some (some (.ref f15))) (l15 : K.lookup f15 = some ⟨oc15, od15, .func (PySem.W.fnOf "_law_odd" "_law_odd" (defArgs s__law_odd) (defBody s__law_odd) (defScope s__law_odd) .none kV15 dc15 pm15 an15 cd15 ct15), sl15⟩) (c15 : PySem.W.codeIn K cd15 "_law_odd" = true) (k15 : PySem.W.keepIn K (.ref f15) = true)
    (a16 : PySem.W.nsIn K mainGlobals "_law_gcd" = some (some (.ref f16))) (l16 : K.lookup f16 = some ⟨oc16, od16, .func (PySem.W.fnOf "_law_gcd" "_law_gcd" (defArgs s__law_gcd) (defBody s__law_gcd) (defScope s__law_gcd) .none kV16 dc16 pm16 an16 cd16 ct16), sl16⟩) (c16 : PySem.W.codeIn K cd16 "_law_gcd" = true) (k16 : PySem.W.keepIn K (.ref f16) = true)
    (a17 : PySem.W.nsIn K mainGlobals "_law_dir" = some (some (.ref f17))) (l17 : K.lookup f17 = some ⟨oc17, od17, .func (PySem.W.fnOf "_law_dir" "_law_dir" (defArgs s__law_dir) (defBody s__law_dir) (defScope s__law_dir) .none kV17 dc17 pm17 an17 cd17 ct17), sl17⟩) (c17 : PySem.W.codeIn K cd17 "_law_dir" = true) (k17 : PySem.W.keepIn K (.ref f17) = true)
    (a18 : PySem.W.nsIn K mainGlobals "_law_is_whole" = some (some (.ref f18))) (l18 : K.lookup f18 = some ⟨oc18, od18, .func (PySem.W.fnOf "_law_is_whole" "_law_is_whole" (defArgs s__law_is_whole) (defBody s__law_is_whole) (defScope s__law_is_whole) .none kV18 dc18 pm18 an18 cd18 ct18), sl18⟩) (c18 : PySem.W.codeIn K cd18 "_law_is_whole" = true) (k18 : PySem.W.keepIn K (.ref f18) = true)
    (a19 : PySem.W.nsIn K mainGlobals "_law_is_spot" = some (some (.ref f19))) (l19 : K.lookup f19 = some ⟨oc19, od19, .func (PySem.W.fnOf "_law_is_spot" "_law_is_spot" (defArgs s__law_is_spot) (defBody s__law_is_spot) (defScope s__law_is_spot) .none kV19 dc19 pm19 an19 cd19 ct19), sl19⟩) (c19 : PySem.W.codeIn K cd19 "_law_is_spot" = true) (k19 : PySem.W.keepIn K (.ref f19) = true)
    (a20 : PySem.W.nsIn K mainGlobals "_law_is_dir" = some (some (.ref f20))) (l20 : K.lookup f20 = some ⟨oc20, od20, .func (PySem.W.fnOf "_law_is_dir" "_law_is_dir" (defArgs s__law_is_dir) (defBody s__law_is_dir) (defScope s__law_is_dir) .none kV20 dc20 pm20 an20 cd20 ct20), sl20⟩) (c20 : PySem.W.codeIn K cd20 "_law_is_dir" = true) (k20 : PySem.W.keepIn K (.ref f20) = true)
    (a21 : PySem.W.nsIn K mainGlobals "_law_is_tool" = some (some (.ref f21))) (l21 : K.lookup f21 = some ⟨oc21, od21, .func (PySem.W.fnOf "_law_is_tool" "_law_is_tool" (defArgs s__law_is_tool) (defBody s__law_is_tool) (defScope s__law_is_tool) .none kV21 dc21 pm21 an21 cd21 ct21), sl21⟩) (c21 : PySem.W.codeIn K cd21 "_law_is_tool" = true) (k21 : PySem.W.keepIn K (.ref f21) = true)
    (a22 : PySem.W.nsIn K mainGlobals "_law_is_tag" = some (some (.ref f22))) (l22 : K.lookup f22 = some ⟨oc22, od22, .func (PySem.W.fnOf "_law_is_tag" "_law_is_tag" (defArgs s__law_is_tag) (defBody s__law_is_tag) (defScope s__law_is_tag) .none kV22 dc22 pm22 an22 cd22 ct22), sl22⟩) (c22 : PySem.W.codeIn K cd22 "_law_is_tag" = true) (k22 : PySem.W.keepIn K (.ref f22) = true)
    (a23 : PySem.W.nsIn K mainGlobals "_law_tool" = some (some (.ref f23))) (l23 : K.lookup f23 = some ⟨oc23, od23, .func (PySem.W.fnOf "_law_tool" "_law_tool" (defArgs s__law_tool) (defBody s__law_tool) (defScope s__law_tool) .none kV23 dc23 pm23 an23 cd23 ct23), sl23⟩) (c23 : PySem.W.codeIn K cd23 "_law_tool" = true) (k23 : PySem.W.keepIn K (.ref f23) = true)
    (a24 : PySem.W.nsIn K mainGlobals "_law_number_in" = some (some (.ref f24))) (l24 : K.lookup f24 = some ⟨oc24, od24, .func (PySem.W.fnOf "_law_number_in" "_law_number_in" (defArgs s__law_number_in) (defBody s__law_number_in) (defScope s__law_number_in) .none kV24 dc24 pm24 an24 cd24 ct24), sl24⟩) (c24 : PySem.W.codeIn K cd24 "_law_number_in" = true) (k24 : PySem.W.keepIn K (.ref f24) = true)
    (a25 : PySem.W.nsIn K mainGlobals "_law_bent_pair" = some (some (.ref f25))) (l25 : K.lookup f25 = some ⟨oc25, od25, .func (PySem.W.fnOf "_law_bent_pair" "_law_bent_pair" (defArgs s__law_bent_pair) (defBody s__law_bent_pair) (defScope s__law_bent_pair) .none kV25 dc25 pm25 an25 cd25 ct25), sl25⟩) (c25 : PySem.W.codeIn K cd25 "_law_bent_pair" = true) (k25 : PySem.W.keepIn K (.ref f25) = true)
    (a26 : PySem.W.nsIn K mainGlobals "_law_bent" = some (some (.ref f26))) (l26 : K.lookup f26 = some ⟨oc26, od26, .func (PySem.W.fnOf "_law_bent" "_law_bent" (defArgs s__law_bent) (defBody s__law_bent) (defScope s__law_bent) .none kV26 dc26 pm26 an26 cd26 ct26), sl26⟩) (c26 : PySem.W.codeIn K cd26 "_law_bent" = true) (k26 : PySem.W.keepIn K (.ref f26) = true)
    (a27 : PySem.W.nsIn K mainGlobals "_law_near_number" = some (some (.ref f27))) (l27 : K.lookup f27 = some ⟨oc27, od27, .func (PySem.W.fnOf "_law_near_number" "_law_near_number" (defArgs s__law_near_number) (defBody s__law_near_number) (defScope s__law_near_number) .none kV27 dc27 pm27 an27 cd27 ct27), sl27⟩) (c27 : PySem.W.codeIn K cd27 "_law_near_number" = true) (k27 : PySem.W.keepIn K (.ref f27) = true)
    (z_isinstance : PySem.W.nsIn K mainGlobals "isinstance" = some none)
    (z_int : PySem.W.nsIn K mainGlobals "int" = some none)
    (z_bool : PySem.W.nsIn K mainGlobals "bool" = some none)
    (z_str : PySem.W.nsIn K mainGlobals "str" = some none)
    (z_tuple : PySem.W.nsIn K mainGlobals "tuple" = some none)
    (z_list : PySem.W.nsIn K mainGlobals "list" = some none)
    (z_dict : PySem.W.nsIn K mainGlobals "dict" = some none)
    (z_len : PySem.W.nsIn K mainGlobals "len" = some none)
    (z_abs : PySem.W.nsIn K mainGlobals "abs" = some none)
    (z_all : PySem.W.nsIn K mainGlobals "all" = some none)
    (z_range : PySem.W.nsIn K mainGlobals "range" = some none)
    (z_gcd : PySem.W.nsIn K mainGlobals "gcd" = some (some (.builtin "math.gcd")))
    (z_LETTERS : PySem.W.nsIn K mainGlobals "LETTERS" = some (some (.str "abcdefghijklmnopqrstuvwxyz" t_LETTERS)))
    (z_DIGITS : PySem.W.nsIn K mainGlobals "DIGITS" = some (some (.str "0123456789" t_DIGITS)))
    (z_MOST_LETTERS : PySem.W.nsIn K mainGlobals "MOST_LETTERS" = some (some (.int 6 t_MOST_LETTERS)))
    (z_MOST_DIGITS : PySem.W.nsIn K mainGlobals "MOST_DIGITS" = some (some (.int 9 t_MOST_DIGITS)))
    (z_POINT_BOUND : PySem.W.nsIn K mainGlobals "POINT_BOUND" = some (some (.int 200 t_POINT_BOUND)))
    (z_DIRECTION_BOUND : PySem.W.nsIn K mainGlobals "DIRECTION_BOUND" = some (some (.int 999 t_DIRECTION_BOUND))) : Top K mg :=
  ⟨⟨PySem.W.mg_none_of X G z_isinstance, PySem.W.mg_none_of X G z_int, PySem.W.mg_none_of X G z_bool, PySem.W.mg_none_of X G z_str, PySem.W.mg_none_of X G z_tuple, PySem.W.mg_none_of X G z_list, PySem.W.mg_none_of X G z_dict, PySem.W.mg_none_of X G z_len, PySem.W.mg_none_of X G z_abs, PySem.W.mg_none_of X G z_all, PySem.W.mg_none_of X G z_range, PySem.W.mg_of X G z_gcd, gs_mk X G z_LETTERS, gs_mk X G z_DIGITS, gi_mk X G z_MOST_LETTERS, gi_mk X G z_MOST_DIGITS, gi_mk X G z_POINT_BOUND, gi_mk X G z_DIRECTION_BOUND⟩, df_mk X G a0 l0 c0 k0, df_mk X G a1 l1 c1 k1, df_mk X G a2 l2 c2 k2, df_mk X G a3 l3 c3 k3, df_mk X G a4 l4 c4 k4, df_mk X G a5 l5 c5 k5, df_mk X G a6 l6 c6 k6, df_mk X G a7 l7 c7 k7, df_mk X G a8 l8 c8 k8, df_mk X G a9 l9 c9 k9, df_mk X G a10 l10 c10 k10, df_mk X G a11 l11 c11 k11, df_mk X G a12 l12 c12 k12, df_mk X G a13 l13 c13 k13, df_mk X G a14 l14 c14 k14, df_mk X G a15 l15 c15 k15, df_mk X G a16 l16 c16 k16, df_mk X G a17 l17 c17 k17, df_mk X G a18 l18 c18 k18, df_mk X G a19 l19 c19 k19, df_mk X G a20 l20 c20 k20, df_mk X G a21 l21 c21 k21, df_mk X G a22 l22 c22 k22, df_mk X G a23 l23 c23 k23, df_mk X G a24 l24 c24 k24, df_mk X G a25 l25 c25 k25, df_mk X G a26 l26 c26 k26, df_mk X G a27 l27 c27 k27⟩
theorem all_law {P : Program} {w : World} {K : PySem.W.Frag} {mg : Str → Option Value} {base : Heap} {fa : Addr} {fd : FuncData} (T : Top K mg) (F : Fun K "law" "law" s_law fa fd) : FnOk P w K mg base CX0 9 fa fd ["_law_script"] (spLaw K) := by
  have G := T.gn
  have c_any : ∀ n, ClB P w K mg base (n + 1) "is_any_number" s_is_any_number "value" isNum := fun n => ok_is_any_number G T.d_is_any_number
  have c_num : ∀ n, ClNum P w K mg base (n + 2) := fun n => ok_is_number G T.d_is_number (c_any n)
  have c_np : ∀ n, ClB P w K mg base (n + 2) "is_number_pair" s_is_number_pair "value" isNumPair := fun n => ok_is_number_pair G T.d_is_number_pair (c_any n)
  have c_bd : ∀ n, ClN P w K mg base (n + 3) := fun n => ok_is_bounded_pair G T.d_is_bounded_pair (c_np n)
  have c_pt : ∀ n, ClB P w K mg base (n + 4) "is_point" s_is_point "value" (isBnd 200) := fun n => ok_is_point G T.d_is_point (c_bd n)
  have c_dr : ∀ n, ClB P w K mg base (n + 4) "is_direction" s_is_direction "value" isDir := fun n => ok_is_direction G T.d_is_direction (c_bd n)
  have c_wy : ∀ n, ClB P w K mg base (n + 5) "is_way" s_is_way "value" isWay := fun n => ok_is_way G T.d_is_way (c_pt n) (c_dr n)
  have c_nm : ∀ n, ClB P w K mg base (n + 1) "is_name" s_is_name "value" isName := fun n => ok_is_name G T.d_is_name
  have c_ni : ∀ n, ClNi P w K mg base (n + 1) := fun n => ok_number_in G T.d_number_in
  have c_lt : ∀ n, ClL P w K mg base (n + 1) := fun n => ok__law_letters T.d__law_letters
  have c_tg : ∀ n, ClB P w K mg base (n + 2) "_law_is_tag" s__law_is_tag "_law_x" isName := fun n => ok__law_is_tag G T.d__law_is_tag (c_lt n)
  have c_wh : ∀ n, ClB P w K mg base (n + 1) "_law_is_whole" s__law_is_whole "_law_x" isNum := fun n => ok__law_is_whole G T.d__law_is_whole
  have c_gc : ∀ n, ClG P w K mg base (n + 1) := fun n => ok__law_gcd G T.d__law_gcd
  have c_sp : ∀ n, ClB P w K mg base (n + 2) "_law_is_spot" s__law_is_spot "_law_x" (isBnd 200) := fun n => ok__law_is_spot G T.d__law_is_spot (c_wh n)
  have c_id : ∀ n, ClB P w K mg base (n + 2) "_law_is_dir" s__law_is_dir "_law_x" isDir := fun n => ok__law_is_dir G T.d__law_is_dir (c_wh n) (c_gc n)
  have c_it : ∀ n, ClB P w K mg base (n + 3) "_law_is_tool" s__law_is_tool "_law_x" isWay := fun n => ok__law_is_tool G T.d__law_is_tool (c_sp n) (c_id n)
  have c_tk : ∀ n, ClT P w K mg base (n + 1) := fun n => ok__law_take G T.d__law_take
  have c_pk : ∀ n, ClP P w K mg base (n + 2) := fun n => ok__law_pick G T.d__law_pick (c_tk n)
  have c_sm : ∀ n, ClS P w K mg base (n + 1 + 1) 1 := fun n => ok__law_same (k := n) G T.d__law_same 1
  have c_wd : ∀ n, ClW P w K mg base (n + 2) := fun n => ok__law_word G T.d__law_word (c_tk n) (c_lt n)
  have c_od : ∀ n, ClO P w K mg base (n + 3) := fun n => ok__law_odd G T.d__law_odd (c_pk n)
  have c_di : ∀ n, ClDir P w K mg base (n + 3) := fun n => ok__law_dir G T.d__law_dir (c_tk (n + 1)) (c_pk n) (c_gc (n + 1))
  have c_tl : ∀ n, ClTool P w K mg base (n + 4) := fun n => ok__law_tool G T.d__law_tool (c_tk (n + 2)) (c_pk (n + 1)) (c_di n)
  have c_bp : ∀ n, ClBp P w K mg base (n + 3) := fun n => ok__law_bent_pair G T.d__law_bent_pair (c_tk (n + 1)) (c_pk n)
  have c_be : ∀ n, ClBe P w K mg base (n + 4) := fun n => ok__law_bent G T.d__law_bent (c_tk (n + 2)) (c_pk (n + 1)) (c_bp n)
  have c_ln : ∀ n, ClLn P w K mg base (n + 1) := fun n => ok__law_number_in G T.d__law_number_in
  have c_nn : ∀ n, ClNn P w K mg base (n + 3) := fun n => ok__law_near_number G T.d__law_near_number (c_tk (n + 1)) (c_pk n)
  have c_bx : Cl P w K mg base 8 "_law_box" s__law_box ["_law_script", "_law_own"] (spBox K) := by
    obtain ⟨f, fd, F, hm⟩ := T.d__law_box.ex
    exact ⟨f, fd, F, ok__law_box (k := 7) G F, hm, F.binds fun _ _ _ _ _ _ us hl => match us, hl with | [_, _], _ => rfl⟩
  exact ok_law (k := 8) G F c_bx (c_tk 7) (c_pk 6) (c_wd 6) (c_di 5) (c_tl 4) (c_be 4) (c_od 5) (c_tg 6) (c_sp 6) (c_id 6) (c_it 5) (c_wh 7) (c_sm 6) (c_nn 5) (c_ln 7)
    (c_nm 7) (c_pt 4) (c_dr 4) (c_wy 3) (c_num 6) (c_ni 7)
    (ck_of (c_nm 7) (fun ws => ws) (fun _ _ _ _ _ _ ws hl => match ws, hl with | [_], _ => rfl) fun r => r)
    (ck_of (c_pt 4) (fun ws => ws) (fun _ _ _ _ _ _ ws hl => match ws, hl with | [_], _ => rfl) fun r => r)
    (ck_of (c_dr 4) (fun ws => ws) (fun _ _ _ _ _ _ ws hl => match ws, hl with | [_], _ => rfl) fun r => r)
    (ck_of (c_wy 3) (fun ws => ws) (fun _ _ _ _ _ _ ws hl => match ws, hl with | [_], _ => rfl) fun r => r)
    (ck_of (c_num 6) (fun ws => ws.reverse) (fun _ _ _ _ _ _ ws hl => match ws, hl with | [_, _, _], _ => rfl) fun r => r.reverse)
    (ck_of (c_ni 7) (fun ws => ws) (fun _ _ _ _ _ _ ws hl => match ws, hl with | [_], _ => rfl) fun r => r)
theorem all_mk {l : PySem.W.OpenLaw} {w : World} {K : PySem.W.Frag} {h : Heap} {mg : Str → Option Value} {fa f1 : Addr} (X : K.In h) (G : h.Ns mainGlobals mg) (hfa : mg "law" = some (.ref fa)) (T : Top K mg)
    {od1 an1 : Option Addr} {sl1 : Array (Option Value)} {oc1 kV1 dc1 pm1 cd1 ct1 : Value}
    (a1 : PySem.W.nsIn K mainGlobals "law" = some (some (.ref f1))) (l1 : K.lookup f1 = some ⟨oc1, od1, .func (PySem.W.fnOf "law" "law" (defArgs s_law) (defBody s_law) (defScope s_law) .none kV1 dc1 pm1 an1 cd1 ct1), sl1⟩) (c1 : PySem.W.codeIn K cd1 "law" = true) (k1 : PySem.W.keepIn K (.ref f1) = true) :
    ∃ fd : FuncData, (∀ (s : Shared) (v : Value), BindsTo s fd ⟨[v], []⟩ [("_law_script", v)]) ∧ ∀ base : Heap, K.In base → base.Ns mainGlobals mg → FnOk l.prog w K mg base CX0 9 fa fd ["_law_script"] (spLaw K) := by
  have e := hfa.symm.trans (PySem.W.mg_of X G a1)
  cases e
  exact ⟨PySem.W.fnOf "law" "law" (defArgs s_law) (defBody s_law) (defScope s_law) .none kV1 dc1 pm1 an1 cd1 ct1, fun s v => .of_eq rfl, fun base _ _ => all_law T (fun_mk (st := s_law) l1 c1 k1)⟩
end K01
open PySem PySem.W PyProof.Rows
set_option maxRecDepth 100000 in
set_option maxHeartbeats 0 in
theorem PySem.Challenge.cw_stucklots_k01_words_judged_holds : PySem.Challenge.rw_stucklots_k01_words_judged.Holds := by
  w_on; o_law; k_head; (case hw => w_witness2)
  k_fill
  refine L2.walk_of (l := PySem.Challenge.rw_stucklots_k01_words_judged) (n := 63) (k := 9) (x := "_law_script") (CX := fun _ => L2.CX0) (sp := fun w => K01.spLaw _) rfl (by decide) rfl ⟨rfl, by decide, by decide⟩ (fun w h Y => PySem.W.kIn_of Y) ?F (fun _ _ a ns hl _ hS => ⟨a, ns, rfl, hS, hl, fun _ => rfl⟩) (fun _ _ _ _ _ h => h)
  case F =>
    intro w mg fa h KX G hmg
    refine' K01.all_mk KX G hmg (K01.top_mk KX G ?a0 ?l0 ?c0 ?k0 ?a1 ?l1 ?c1 ?k1 ?a2 ?l2 ?c2 ?k2 ?a3 ?l3 ?c3 ?k3 ?a4 ?l4 ?c4 ?k4 ?a5 ?l5 ?c5 ?k5 ?a6 ?l6 ?c6 ?k6 ?a7 ?l7 ?c7 ?k7 ?a8 ?l8 ?c8 ?k8 ?a9 ?l9 ?c9 ?k9 ?a10 ?l10 ?c10 ?k10 ?a11 ?l11 ?c11 ?k11 ?a12 ?l12 ?c12 ?k12 ?a13 ?l13 ?c13 ?k13 ?a14 ?l14 ?c14 ?k14 ?a15 ?l15 ?c15 ?k15 ?a16 ?l16 ?c16 ?k16 ?a17 ?l17 ?c17 ?k17 ?a18 ?l18 ?c18 ?k18 ?a19 ?l19 ?c19 ?k19 ?a20 ?l20 ?c20 ?k20 ?a21 ?l21 ?c21 ?k21 ?a22 ?l22 ?c22 ?k22 ?a23 ?l23 ?c23 ?k23 ?a24 ?l24 ?c24 ?k24 ?a25 ?l25 ?c25 ?k25 ?a26 ?l26 ?c26 ?k26 ?a27 ?l27 ?c27 ?k27 ?z_isinstance ?z_int ?z_bool ?z_str ?z_tuple ?z_list ?z_dict ?z_len ?z_abs ?z_all ?z_range ?z_gcd ?z_LETTERS ?z_DIGITS ?z_MOST_LETTERS ?z_MOST_DIGITS ?z_POINT_BOUND ?z_DIRECTION_BOUND) ?la ?ll ?lc ?lk
    (case a0 => k_is)
    (case l0 => k_is)
    (case c0 => k_is)
    (case k0 => k_is)
    (case a1 => k_is)
    (case l1 => k_is)
    (case c1 => k_is)
    (case k1 => k_is)
    (case a2 => k_is)
    (case l2 => k_is)
    (case c2 => k_is)
    (case k2 => k_is)
    (case a3 => k_is)
    (case l3 => k_is)
    (case c3 => k_is)
    (case k3 => k_is)
    (case a4 => k_is)
    (case l4 => k_is)
    (case c4 => k_is)
    (case k4 => k_is)
    (case a5 => k_is)
    (case l5 => k_is)
    (case c5 => k_is)
    (case k5 => k_is)
    (case a6 => k_is)
    (case l6 => k_is)
    (case c6 => k_is)
    (case k6 => k_is)
    (case a7 => k_is)
    (case l7 => k_is)
    (case c7 => k_is)
    (case k7 => k_is)
    (case a8 => k_is)
    (case l8 => k_is)
    (case c8 => k_is)
    (case k8 => k_is)
    (case a9 => k_is)
    (case l9 => k_is)
    (case c9 => k_is)
    (case k9 => k_is)
    (case a10 => k_is)
    (case l10 => k_is)
    (case c10 => k_is)
    (case k10 => k_is)
    (case a11 => k_is)
    (case l11 => k_is)
    (case c11 => k_is)
    (case k11 => k_is)
    (case a12 => k_is)
    (case l12 => k_is)
    (case c12 => k_is)
    (case k12 => k_is)
    (case a13 => k_is)
    (case l13 => k_is)
    (case c13 => k_is)
    (case k13 => k_is)
    (case a14 => k_is)
    (case l14 => k_is)
    (case c14 => k_is)
    (case k14 => k_is)
    (case a15 => k_is)
    (case l15 => k_is)
    (case c15 => k_is)
    (case k15 => k_is)
    (case a16 => k_is)
    (case l16 => k_is)
    (case c16 => k_is)
    (case k16 => k_is)
    (case a17 => k_is)
    (case l17 => k_is)
    (case c17 => k_is)
    (case k17 => k_is)
    (case a18 => k_is)
    (case l18 => k_is)
    (case c18 => k_is)
    (case k18 => k_is)
    (case a19 => k_is)
    (case l19 => k_is)
    (case c19 => k_is)
    (case k19 => k_is)
    (case a20 => k_is)
    (case l20 => k_is)
    (case c20 => k_is)
    (case k20 => k_is)
    (case a21 => k_is)
    (case l21 => k_is)
    (case c21 => k_is)
    (case k21 => k_is)
    (case a22 => k_is)
    (case l22 => k_is)
    (case c22 => k_is)
    (case k22 => k_is)
    (case a23 => k_is)
    (case l23 => k_is)
    (case c23 => k_is)
    (case k23 => k_is)
    (case a24 => k_is)
    (case l24 => k_is)
    (case c24 => k_is)
    (case k24 => k_is)
    (case a25 => k_is)
    (case l25 => k_is)
    (case c25 => k_is)
    (case k25 => k_is)
    (case a26 => k_is)
    (case l26 => k_is)
    (case c26 => k_is)
    (case k26 => k_is)
    (case a27 => k_is)
    (case l27 => k_is)
    (case c27 => k_is)
    (case k27 => k_is)
    (case z_isinstance => k_is)
    (case z_int => k_is)
    (case z_bool => k_is)
    (case z_str => k_is)
    (case z_tuple => k_is)
    (case z_list => k_is)
    (case z_dict => k_is)
    (case z_len => k_is)
    (case z_abs => k_is)
    (case z_all => k_is)
    (case z_range => k_is)
    (case z_gcd => k_is)
    (case z_LETTERS => k_is)
    (case z_DIGITS => k_is)
    (case z_MOST_LETTERS => k_is)
    (case z_MOST_DIGITS => k_is)
    (case z_POINT_BOUND => k_is)
    (case z_DIRECTION_BOUND => k_is)
    (case la => k_is)
    (case ll => k_is)
    (case lc => k_is)
    (case lk => k_is)
