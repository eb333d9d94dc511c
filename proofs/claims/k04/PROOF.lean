import PyProof.Rows.All
import Wide.All
import OpenK.AllK
import Wide.FinOn
import HandS.ForMost
import HandS.TupAny
import HandS.ReCall
import HandS.IsInst
import HandS.Gcd
import HandS.StrMore
import HandS.Defaults
import HandS.Style
import HandS.ExcInit
import HandS.ExcField
import HandS.Lambda
import HandS.EndTab
import HandS.More
import HandS.DictComp
import PyProof.ListStr
import HandS.HotCalls
import KE.KTryMore
import HandS.WordsExc
import HandS.Deep
import HandS.Strs
import KE.DataMinMax
import KE.SortData
import PyProof.SeqIndex
import HandS.Zip
import KE.KDictZip
import KE.KItemsList
import PyProof.CollectIter
import PyProof.WalksMore
import HandS.SortInts
import HandS.SetBool
import HandS.TupSets
import HandS.Comp
import HandS.SortRule
import HandS.List
import PySem.Challenge.RW_stucklots_k04_whole_parts_apart_or_over
set_option Elab.async false
set_option linter.all false
set_option maxRecDepth 100000
set_option maxHeartbeats 8000000
/-! Da: tuples whose object is known: no dict hangs on it, so their methods can be called. -/
namespace Dl
open PySem PySem.Spec PyProof.Rows L2
/-- a new tuple, its object known -/
def NewT (Q : VK) (H : Hp) (xs : List V) : Prop := ∀ (p : Addr) (ob : Obj), H p = none → ob.dict = none → Q (.ref p) (upd H p (.frz ob (.tup xs)))
section
variable {X : Cx} {pins : List (Addr × Obj)} {σ : L2.St} {H : Hp} {s : Shared} {Q : VK}
theorem newT_ep {xs : List V} {its : List Value} (I : Inv X pins σ H s) (rv : Vals xs its) (hz : xs.length ≤ sizeLine) (q : NewT Q H xs) :
    EP X pins σ Q (.ref s.heap.objs.size) { s with heap := s.heap.push { cls := .type "tuple", data := .seq its.toArray } } := by
  have hf : H s.heap.objs.size = none := I.hok.fresh (Nat.le_refl _)
  have hg : (s.heap.push { cls := .type "tuple", data := .seq its.toArray }).get? s.heap.objs.size = some { cls := .type "tuple", data := .seq its.toArray } := Heap.get?_push_size _ rfl
  exact ⟨.ref s.heap.objs.size, upd H s.heap.objs.size (.frz { cls := .type "tuple", data := .seq its.toArray } (.tup xs)),
    I.laid (t' := s.toks) (fun b u e => Heap.get?_push_of_some _ e) (Nat.le_refl _) ⟨hg, hz, its, rv, ⟨_, hg, rfl, _, rfl⟩⟩, rfl, q _ _ hf rfl⟩
/-- (e, ..) -/
def zTup (t : TA) : TE := fun σ H Q => t σ H fun xs H1 => xs.length ≤ sizeLine ∧ NewT Q H1 xs
theorem pe_tupZ {es : List Expr} {t : TA} {cx : Nat} {pos : Pos} (h : PA X es t) : PE X (.Tuple es cx pos) (zTup t) := by
  refine ⟨fun pins s σ H Q I hq => ?_⟩
  refine wpAny_Tuple_spliced (thn (h.run pos pins s σ H _ I hq) fun us s1 ⟨xs, H1, I1, rv, hz, q⟩ => ⟨by rw [← rv.length]; exact hz, newT_ep I1 rv hz q⟩)
/-- t + u -/
def zCat (K : PySem.W.Frag) : R2 := fun x y H Q => ∃ a b xs ys, x = .ref a ∧ y = .ref b ∧ SqT K H a xs ∧ SqT K H b ys ∧ xs.length + ys.length ≤ sizeLine ∧
  (xs = [] → Q (.ref b) H) ∧ (xs ≠ [] → ys = [] → Q (.ref a) H) ∧ (xs ≠ [] → ys ≠ [] → NewT Q H (xs ++ ys))
theorem op_catZ : OpR X (binaryOp .Add) (zCat X.K) := by
  intro pins s σ H x y v u Q I rx ry ⟨a, b, xs, ys, e1, e2, ha, hb, hz, q0, q1, q2⟩
  subst e1 e2
  cases rx
  cases ry
  obtain ⟨its, r1, p1, _⟩ := I.tuple ha
  obtain ⟨jts, r2, p2, _⟩ := I.tuple hb
  by_cases hx : xs = []
  · subst hx
    cases r1
    exact cat_tup0 p1 p2 ⟨.ref b, H, I, rfl, q0 rfl⟩
  · refine HT.cat_tup p1 p2 (fun z => hx (r1.nil_iff.mp z)) (fun z => ⟨.ref a, H, I, rfl, q1 hx (r2.nil_iff.mp z)⟩) (fun z => ?_) (by rw [← r1.length, ← r2.length]; exact hz)
    exact newT_ep I (r1.append r2) (by rw [List.length_append]; exact hz) (q2 hx fun w => z (r2.nil_iff.mpr w))
/-- t[lo:hi] -/
def zSl (K : PySem.W.Frag) : V → Option Int → Option Int → Hp → VK → Prop := fun x lo hi H Q => ∃ a xs, x = .ref a ∧ SqT K H a xs ∧
  (HT.sIx xs.length 0 lo = 0 ∧ HT.sIx xs.length xs.length hi = xs.length → Q (.ref a) H) ∧ (¬ (HT.sIx xs.length 0 lo = 0 ∧ HT.sIx xs.length xs.length hi = xs.length) → NewT Q H (cutV xs lo hi))
theorem sl_tupZ : SlR X (zSl X.K) := by
  intro pins s σ H x v vl vu lo hi sl Q I rx hs pl pu ⟨a, xs, e, hx, q1, q2⟩
  subst e
  cases rx
  obtain ⟨its, rv, ht, hz⟩ := I.tuple hx
  have hlen : its.toArray.size = xs.length := by rw [List.size_toArray]; exact rv.length.symm
  refine ⟨"tuple", _, PyProof.Rows.slot_tuple_getitem.lookup, ht.typeIs, ?_⟩
  by_cases hw : HT.sIx xs.length 0 lo = 0 ∧ HT.sIx xs.length xs.length hi = xs.length
  · exact getItem_tuple_whole ht hs pl pu (by rw [hlen]; exact hw) ⟨.ref a, H, I, rfl, q1 hw⟩
  · refine HT.getItem_tuple_cut ht hs pl pu (by rw [hlen]; exact hw) ?_ (by rw [hlen]; exact hz)
    rw [hlen]
    exact newT_ep I ((rv.drop (HT.sIx xs.length 0 lo)).take (HT.sIx xs.length xs.length hi - HT.sIx xs.length 0 lo)) (Nat.le_trans (cutV_length xs lo hi) hz) (q2 hw)
/-- tuple(xs) -/
def zOf (K : PySem.W.Frag) : List V → Hp → VK → Prop := fun ws H Q => ∃ p ys, ws = [.ref p] ∧ ((SqL K H p ys ∧ NewT Q H ys) ∨ (SqT K H p ys ∧ Q (.ref p) H))
theorem call_tupZ : CallR X (.type "tuple") (zOf X.K) := by
  intro pins s σ H ws us Q I r ⟨p, ys, e, h⟩
  subst e
  obtain ⟨u, rfl, rx⟩ := vals1 r
  cases rx
  rcases h with ⟨hq, q⟩ | ⟨hq, q⟩
  · obtain ⟨its, rv, pl, hz⟩ := I.list hq
    have hlen := rv.length
    refine call_tuple_list pl.isList (fun h' kp => ?_) (by simp only [List.size_toArray] <;> omega)
    exact newT_ep (s := { s with heap := h' }) (I.kept (t' := s.toks) kp) rv hz q
  · obtain ⟨its, rv, pl, hz⟩ := I.tuple hq
    exact call_tuple_same pl ⟨.ref p, H, I, rfl, q⟩
/-- the type of such a tuple -/
def tyZ (x : V) (H : Hp) : Prop := ∃ p ob xs, x = .ref p ∧ H p = some (.frz ob (.tup xs)) ∧ ob.dict = none
theorem ty_tup : TyOk X "tuple" tyZ := by
  intro pins σ H s x v I rx ⟨p, ob, xs, e, h, hd⟩
  subst e
  cases rx
  obtain ⟨hg, hz, its, rv, o2, hg2, hc, _⟩ := I.hok p _ h
  rw [hg] at hg2
  cases hg2
  exact ⟨⟨ob, hg, hc⟩, fun a e => by cases e; exact ⟨ob, hg, hd⟩⟩
/-- isinstance(x, (c1, c2)) over such a tuple -/
def zIsi2 (K : PySem.W.Frag) : List V → Hp → VK → Prop := fun ws H Q => ∃ (x : V) (tp : Addr) (ob : Obj) (cs : List V) (t : Value) (us : List Value) (b : Bool), ws = [x, .ref tp] ∧ H tp = some (.frz ob (.tup cs)) ∧ Paired ClsV cs us ∧
  TyX K H x t ∧ PySem.W.kitAny K t us = some b ∧ Q (.bl b) H
theorem call_isiZ : CallR X (.builtin "isinstance") (zIsi2 X.K) := by
  intro pins s σ H ws us Q I r ⟨x, tp, ob, cs, t, vs, b, e0, hT, k, ty, e, q⟩
  subst e0
  obtain ⟨u1, u2, rfl, r1, r2⟩ := vals2 r
  cases (show u2 = Value.ref tp from r2)
  obtain ⟨P, Z, p, hx⟩ := kit_of I r1 ty
  obtain ⟨_, _, its, rv, o, h1, h2, n, h3⟩ := I.hok tp _ hT
  have e3 := ClsV.all k rv
  subst e3
  obtain ⟨oc, od, dt, sl⟩ := o
  simp only at h2 h3
  subst h2 h3
  exact PySem.W.kia_tup Z I.kIn p h1 e hx fun tk => ⟨.bl b, H, I.tok tk, rfl, q⟩
end
end Dl
/-! A layer of plain data over HandS: what a value stands for (Dd), a heap of two parts (what is frozen: G; all: H), the box of draws at B, and a calculus of readings by data alone (WE, WT, WA, WS). -/
namespace Dl
open PySem L2
/-- the box's address; the tables of code objects -/
structure Bt where
  a : Addr
  T : List (Addr × Str)
/-- the object of an exception, its class, its dict -/
def xo (a C d : Addr) : HO := .ext fun h => ∃ (oe : Obj) (vs : Array Value), h.get? a = some oe ∧ oe.cls = .ref C ∧ oe.dict = some d ∧ oe.data = .fields vs
inductive D where
  | non | bl (b : Bool) | int (i : Int) | str (z : Str) | tup (xs : List D) | lst (xs : List D) | dic (ks : List Key) (xs : List D) | cls (n : String) | box | exn (C : Addr) (ks : List Str) (xs : List D)
mutual
inductive Dd (K : PySem.W.Frag) (B : Bt) (G : Hp) : V → D → Prop
  | non : Dd K B G .non .non
  | bl (b : Bool) : Dd K B G (.bl b) (.bl b)
  | int (i : Int) : Dd K B G (.int i) (.int i)
  | str (z : Str) : Dd K B G (.str z) (.str z)
  | tup {a : Addr} {ob : Obj} {vs : List V} {ds : List D} : G a = some (.frz ob (.tup vs)) ∧ ob.dict = none → Dds K B G vs ds → Dd K B G (.ref a) (.tup ds)
  | lst {a : Addr} {vs : List V} {ds : List D} : G a = some (.lst vs) → Dds K B G vs ds → Dd K B G (.ref a) (.lst ds)
  | dic {a : Addr} {kvs : List (Key × V)} {ds : List D} : G a = some (.dK kvs) → Dds K B G (kvs.map (·.2)) ds → Dd K B G (.ref a) (.dic (kvs.map (·.1)) ds)
  | cls (n : String) : Dd K B G (.ty n) (.cls n)
  | box : Dd K B G (.ref B.a) .box
  | exn {a C d : Addr} {fs : List (Str × V)} {ds : List D} : G a = some (xo a C d) → G d = some (.xd fs) → Dds K B G (fs.map (·.2)) ds → Dd K B G (.ref a) (.exn C (fs.map (·.1)) ds)
inductive Dds (K : PySem.W.Frag) (B : Bt) (G : Hp) : List V → List D → Prop
  | nil : Dds K B G [] []
  | cons {v : V} {vs : List V} {d : D} {ds : List D} : Dd K B G v d → Dds K B G vs ds → Dds K B G (v :: vs) (d :: ds)
end
section
variable {K : PySem.W.Frag} {B : Bt} {G G1 G2 H H1 H2 : Hp}
mutual
theorem Dd.mono (s : Same G G1) : ∀ {v : V} {d : D}, Dd K B G v d → Dd K B G1 v d
  | _, _, .non => .non
  | _, _, .bl b => .bl b
  | _, _, .int i => .int i
  | _, _, .str z => .str z
  | _, _, .tup h t => .tup ⟨s _ _ h.1, h.2⟩ (Dds.mono s t)
  | _, _, .lst h t => .lst (s _ _ h) (Dds.mono s t)
  | _, _, .dic h t => .dic (s _ _ h) (Dds.mono s t)
  | _, _, .cls n => .cls n
  | _, _, .box => .box
  | _, _, .exn h h' t => .exn (s _ _ h) (s _ _ h') (Dds.mono s t)
theorem Dds.mono (s : Same G G1) : ∀ {vs : List V} {ds : List D}, Dds K B G vs ds → Dds K B G1 vs ds
  | _, _, .nil => .nil
  | _, _, .cons h t => .cons (Dd.mono s h) (Dds.mono s t)
end
theorem Dds.length : ∀ {vs : List V} {ds : List D}, Dds K B G vs ds → vs.length = ds.length
  | _, _, .nil => rfl
  | _, _, .cons _ t => by rw [List.length_cons, List.length_cons, Dds.length t]
theorem Dds.get : ∀ {vs : List V} {ds : List D} {i : Nat} {d : D}, Dds K B G vs ds → ds[i]? = some d → ∃ v, vs[i]? = some v ∧ Dd K B G v d
  | _, _, _, _, .nil, e => by simp at e
  | _, _, 0, _, .cons h _, e => by simp at e; subst e; exact ⟨_, rfl, h⟩
  | _, _, i + 1, d, .cons _ t, e => by
    obtain ⟨v, h1, h2⟩ := Dds.get (i := i) (d := d) t (by simpa using e)
    exact ⟨v, by simpa using h1, h2⟩
theorem Dds.get' : ∀ {vs : List V} {ds : List D} {i : Nat} {v : V}, Dds K B G vs ds → vs[i]? = some v → ∃ d, ds[i]? = some d ∧ Dd K B G v d
  | _, _, _, _, .nil, e => by simp at e
  | _, _, 0, _, .cons h _, e => by simp at e; subst e; exact ⟨_, rfl, h⟩
  | _, _, i + 1, v, .cons _ t, e => by
    obtain ⟨d, h1, h2⟩ := Dds.get' (i := i) (v := v) t (by simpa using e)
    exact ⟨d, by simpa using h1, h2⟩
theorem Dds.append : ∀ {vs ws : List V} {ds es : List D}, Dds K B G vs ds → Dds K B G ws es → Dds K B G (vs ++ ws) (ds ++ es)
  | _, _, _, _, .nil, q => q
  | _, _, _, _, .cons h t, q => .cons h (Dds.append t q)
theorem Dds.take : ∀ (n : Nat) {vs : List V} {ds : List D}, Dds K B G vs ds → Dds K B G (vs.take n) (ds.take n)
  | 0, _, _, _ => .nil
  | _ + 1, _, _, .nil => .nil
  | n + 1, _, _, .cons h t => .cons h (Dds.take n t)
theorem Dds.drop : ∀ (n : Nat) {vs : List V} {ds : List D}, Dds K B G vs ds → Dds K B G (vs.drop n) (ds.drop n)
  | 0, _, _, t => t
  | _ + 1, _, _, .nil => .nil
  | n + 1, _, _, .cons _ t => Dds.drop n t
theorem Dds.rev {vs : List V} {ds : List D} (h : Dds K B G vs ds) : Dds K B G vs.reverse ds.reverse := by
  induction vs generalizing ds with
  | nil => cases h; exact .nil
  | cons v vs ih =>
    cases h with
    | cons a t => rw [List.reverse_cons, List.reverse_cons]; exact (ih t).append (.cons a .nil)
theorem Dds.ints : ∀ {vs : List V} {ns : List Int}, Dds K B G vs (ns.map D.int) → vs = ns.map V.int
  | _, [], .nil => rfl
  | _, _ :: _, .cons h t => by cases h; rw [Dds.ints t]; rfl
theorem Dds.bls : ∀ {vs : List V} {ns : List Bool}, Dds K B G vs (ns.map D.bl) → vs = ns.map V.bl
  | _, [], .nil => rfl
  | _, _ :: _, .cons h t => by cases h; rw [Dds.bls t]; rfl
theorem Dds.strs : ∀ {vs : List V} {ns : List Str}, Dds K B G vs (ns.map D.str) → vs = ns.map V.str
  | _, [], .nil => rfl
  | _, _ :: _, .cons h t => by cases h; rw [Dds.strs t]; rfl
theorem Dds.repl {vs : List V} {ds : List D} (h : Dds K B G vs ds) : ∀ n : Nat, Dds K B G (List.replicate n vs).flatten (List.replicate n ds).flatten
  | 0 => .nil
  | n + 1 => by
    rw [List.replicate_succ, List.replicate_succ, List.flatten_cons, List.flatten_cons]
    exact h.append (Dds.repl h n)

/-! ### the box, the state -/
def Bx (G H : Hp) (B : Addr) : Prop := ∃ (c : Addr) (cells : List Int) (p r m n : Int), H B = some (.lst [.ref c, .int p, .int r, .int m, .int n]) ∧ G c = some (.lst (cells.map V.int)) ∧ cells.length ≤ 63 ∧ 0 ≤ p ∧ 0 ≤ r ∧ 0 ≤ m ∧ m < 2147483587 ∧ 0 ≤ n
/-- no table -/
def nt (o : HO) : Prop := ∀ ps, o ≠ .tbl ps
theorem nt_lst {xs : List V} : nt (.lst xs) := fun _ z => nomatch z
theorem nt_tup {ob : Obj} {xs : List V} : nt (.frz ob (.tup xs)) := fun _ z => nomatch z
theorem SqT.ofZ {K : PySem.W.Frag} {H : Hp} {a : Addr} {ob : Obj} {xs : List V} (h : H a = some (.frz ob (.tup xs))) : SqT K H a xs := .inl (.inr ⟨_, h⟩)
structure Go (B : Bt) (G H G1 H1 : Hp) : Prop where
  s : Same G G1
  k : ∀ a o, a ≠ B.a → nt o → H a = some o → H1 a = some o
  n : ∀ a o, nt o → H a = some o → G a = none → G1 a = none
  c : ∀ c r, H B.a = some (.lst (.ref c :: r)) → ∃ r', H1 B.a = some (.lst (.ref c :: r'))
structure Ok (B : Bt) (G H : Hp) : Prop where
  u : Same G H
  b : G B.a = none
  x : Bx G H B.a
  t : LamX.Tabs B.T H
  f : ∀ a o, G a = some o → nt o
theorem Ok.hb (o : Ok B G H) : H B.a ≠ none := by
  obtain ⟨_, _, _, _, _, _, e, _⟩ := o.x
  rw [e]; exact fun z => nomatch z
theorem Go.refl : Go B G H G H := ⟨Same.refl G, fun _ _ _ _ h => h, fun _ _ _ _ h => h, fun _ r h => ⟨r, h⟩⟩
theorem Go.trans (o : Ok B G1 H1) (a : Go B G H G1 H1) (b : Go B G1 H1 G2 H2) : Go B G H G2 H2 :=
  ⟨a.s.trans b.s, fun x u ne ht h => b.k x u ne ht (a.k x u ne ht h), fun x u ht h g => by
    by_cases e : x = B.a
    · obtain ⟨_, _, _, _, _, _, e2, _⟩ := o.x
      exact b.n x _ nt_lst (by rw [e]; exact e2) (a.n x u ht h g)
    · exact b.n x u ht (a.k x u e ht h) (a.n x u ht h g), fun c r h => by
    obtain ⟨r', h'⟩ := a.c c r h
    exact b.c c r' h'⟩
theorem Ok.fresh (o : Ok B G H) {p : Addr} (h : H p = none) : G p = none := by
  cases q : G p with
  | none => rfl
  | some u => rw [o.u p u q] at h; cases h
theorem Ok.neB (o : Ok B G H) {p : Addr} (h : H p = none) : p ≠ B.a := fun e => o.hb (e ▸ h)
theorem same_upd {p : Addr} {o : HO} (h : H p = none) : Same H (upd H p o) := fun b x e => by
  rw [upd_ne (ne_of_none e h)]; exact e
theorem upd_some {p a : Addr} {o : HO} (h : H a ≠ none) : upd H p o a ≠ none := by
  by_cases e : a = p
  · rw [e, upd_same]; exact fun z => nomatch z
  · rw [upd_ne e]; exact h
/-- a new object, frozen -/
theorem new_go (o : Ok B G H) {p : Addr} {x : HO} (h : H p = none) : Go B G H (upd G p x) (upd H p x) := by
  refine ⟨same_upd (o.fresh h), fun a u _ _ e => same_upd h a u e, fun a u _ ha hg => ?_, fun c r e => ⟨r, same_upd h _ _ e⟩⟩
  by_cases e : a = p
  · rw [e, h] at ha; cases ha
  · rw [upd_ne e]; exact hg
theorem new_ok (o : Ok B G H) {p : Addr} {x : HO} (hx : nt x) (h : H p = none) : Ok B (upd G p x) (upd H p x) := by
  have nb := o.neB h
  refine ⟨fun a u e => ?_, by rw [upd_ne nb.symm]; exact o.b, ?_, o.t.ext fun b u e => same_upd h b u e, fun a u e => ?_⟩
  · by_cases q : a = p
    · rw [q, upd_same] at e ⊢; exact e
    · rw [upd_ne q] at e ⊢; exact o.u a u e
  · obtain ⟨c, cells, p', r, m, n, e, g, w⟩ := o.x
    exact ⟨c, cells, p', r, m, n, by rw [upd_ne nb.symm]; exact e, same_upd (o.fresh h) _ _ g, w⟩
  · by_cases q : a = p
    · rw [q, upd_same] at e; cases e; exact hx
    · rw [upd_ne q] at e; exact o.f a u e
/-- a new object, not frozen -/
theorem loose_go (o : Ok B G H) {p : Addr} {x : HO} (h : H p = none) : Go B G H G (upd H p x) := ⟨Same.refl G, fun a u _ _ e => same_upd h a u e, fun _ _ _ _ g => g, fun c r e => ⟨r, same_upd h _ _ e⟩⟩
theorem loose_ok (o : Ok B G H) {p : Addr} {x : HO} (h : H p = none) : Ok B G (upd H p x) := by
  have nb := o.neB h
  refine ⟨fun a u e => same_upd h _ _ (o.u a u e), o.b, ?_, o.t.ext fun b u e => same_upd h b u e, o.f⟩
  obtain ⟨c, cells, p', r, m, n, e, g, w⟩ := o.x
  exact ⟨c, cells, p', r, m, n, by rw [upd_ne nb.symm]; exact e, g, w⟩
/-- a list is written: the tables stand -/
theorem tabs_upd {T : List (Addr × Str)} {p : Addr} {ys : List V} {x : HO} (t : LamX.Tabs T H) (hp : H p = some (.lst ys)) : LamX.Tabs T (upd H p x) := fun q hq => by
  obtain ⟨ps, h1, h2, h3⟩ := t q hq
  refine ⟨ps, by rw [upd_ne (fun e => by rw [e, hp] at h1; cases h1)]; exact h1, h2, fun pos cv hc => ?_⟩
  obtain ⟨c, e1, e2⟩ := h3 pos cv hc
  refine ⟨c, e1, ?_⟩
  rw [upd_ne (fun e => by
    rw [e, hp] at e2
    have e3 : HO.lst ys = LamX.CodeO p q.2 := Option.some.inj e2
    unfold LamX.CodeO at e3
    cases e3)]
  exact e2
/-- an object that is not frozen is written -/
theorem write_ok (o : Ok B G H) {p : Addr} {ys : List V} {x : HO} (hp : H p = some (.lst ys)) (g : G p = none) (nb : p ≠ B.a) : Ok B G (upd H p x) := by
  refine ⟨fun a u e => ?_, o.b, ?_, tabs_upd o.t hp, o.f⟩
  · rw [upd_ne (ne_of_none e g)]; exact o.u a u e
  obtain ⟨c, cells, p', r, m, n, e, g', w⟩ := o.x
  exact ⟨c, cells, p', r, m, n, by rw [upd_ne nb.symm]; exact e, g', w⟩
/-- .. is frozen -/
theorem freeze_ok (o : Ok B G H) {p : Addr} {x : HO} (hx : nt x) (nb : p ≠ B.a) (g : G p = none) (h : H p = some x) : Ok B (upd G p x) H := by
  refine ⟨fun a u e => ?_, by rw [upd_ne nb.symm]; exact o.b, ?_, o.t, fun a u e => ?_⟩
  · by_cases q : a = p
    · rw [q, upd_same] at e; rw [q, h]; exact e
    · rw [upd_ne q] at e; exact o.u a u e
  · obtain ⟨c, cells, p', r, m, n, e, g', w⟩ := o.x
    exact ⟨c, cells, p', r, m, n, e, same_upd g _ _ g', w⟩
  · by_cases q : a = p
    · rw [q, upd_same] at e; cases e; exact hx
    · rw [upd_ne q] at e; exact o.f a u e

inductive Sd where
  | no | val (d : D) | own (ds : List D)
structure Stt (K : PySem.W.Frag) (B : Bt) (G0 H0 G H : Hp) (σ : St) (δ : List Sd) : Prop where
  go : Go B G0 H0 G H
  ok : Ok B G H
  len : σ.length = δ.length
  val : ∀ (i : Nat) d, δ[i]? = some (.val d) → ∃ v, σ[i]? = some (some v) ∧ Dd K B G v d
  own : ∀ (i : Nat) ds, δ[i]? = some (.own ds) → ∃ a vs, σ[i]? = some (some (.ref a)) ∧ a ≠ B.a ∧ (∀ o, nt o → H0 a ≠ some o) ∧ G a = none ∧ H a = some (.lst vs) ∧ Dds K B G vs ds
  apart : ∀ (i j : Nat) ds es a, δ[i]? = some (.own ds) → δ[j]? = some (.own es) → σ[i]? = some (some (.ref a)) → σ[j]? = some (some (.ref a)) → i = j
theorem Stt.on {G0 H0 : Hp} {σ : St} {δ : List Sd} (s : Stt K B G0 H0 G H σ δ) (g : Go B G H G1 H1) (o : Ok B G1 H1) : Stt K B G0 H0 G1 H1 σ δ := by
  refine ⟨s.go.trans s.ok g, o, s.len, fun i d e => ?_, fun i ds e => ?_, s.apart⟩
  · obtain ⟨v, h, q⟩ := s.val i d e
    exact ⟨v, h, q.mono g.s⟩
  · obtain ⟨a, vs, h, nb, f, ga, ha, q⟩ := s.own i ds e
    exact ⟨a, vs, h, nb, f, g.n a _ nt_lst ha ga, g.k a _ nb nt_lst ha, q.mono g.s⟩
theorem Stt.setVal {G0 H0 : Hp} {σ : St} {δ : List Sd} {v : V} {d : D} (s : Stt K B G0 H0 G H σ δ) (i : Nat) (q : Dd K B G v d) : Stt K B G0 H0 G H (σ.set i (some v)) (δ.set i (.val d)) := by
  refine ⟨s.go, s.ok, by rw [List.length_set, List.length_set, s.len], fun j e h => ?_, fun j ds h => ?_, fun j l ds es a h1 h2 h3 h4 => ?_⟩
  · rw [List.getElem?_set] at h
    by_cases ij : i = j
    · rw [if_pos ij] at h
      split at h
      · rename_i hl
        cases h
        refine ⟨v, ?_, q⟩
        rw [List.getElem?_set, if_pos ij, if_pos (by rw [s.len]; exact hl)]
      · cases h
    · rw [if_neg ij] at h
      obtain ⟨w, h1, h2⟩ := s.val j e h
      exact ⟨w, by rw [List.getElem?_set, if_neg ij]; exact h1, h2⟩
  · rw [List.getElem?_set] at h
    by_cases ij : i = j
    · rw [if_pos ij] at h
      split at h <;> cases h
    · rw [if_neg ij] at h
      obtain ⟨a, vs, h1, h2⟩ := s.own j ds h
      exact ⟨a, vs, by rw [List.getElem?_set, if_neg ij]; exact h1, h2⟩
  · rw [List.getElem?_set] at h1 h2 h3 h4
    by_cases ij : i = j
    · rw [if_pos ij] at h1; split at h1 <;> cases h1
    · by_cases il : i = l
      · rw [if_pos il] at h2; split at h2 <;> cases h2
      · rw [if_neg ij] at h1 h3
        rw [if_neg il] at h2 h4
        exact s.apart j l ds es a h1 h2 h3 h4
theorem Stt.wipe1 {G0 H0 : Hp} {σ : St} {δ : List Sd} (s : Stt K B G0 H0 G H σ δ) (i : Nat) : Stt K B G0 H0 G H (σ.set i none) (δ.set i .no) := by
  refine ⟨s.go, s.ok, by rw [List.length_set, List.length_set, s.len], fun j e h => ?_, fun j ds h => ?_, fun j l ds es a h1 h2 h3 h4 => ?_⟩
  · rw [List.getElem?_set] at h
    by_cases ij : i = j
    · rw [if_pos ij] at h; split at h <;> cases h
    · rw [if_neg ij] at h
      obtain ⟨w, h1, h2⟩ := s.val j e h
      exact ⟨w, by rw [List.getElem?_set, if_neg ij]; exact h1, h2⟩
  · rw [List.getElem?_set] at h
    by_cases ij : i = j
    · rw [if_pos ij] at h; split at h <;> cases h
    · rw [if_neg ij] at h
      obtain ⟨a, vs, h1, h2⟩ := s.own j ds h
      exact ⟨a, vs, by rw [List.getElem?_set, if_neg ij]; exact h1, h2⟩
  · rw [List.getElem?_set] at h1 h2 h3 h4
    by_cases ij : i = j
    · rw [if_pos ij] at h1; split at h1 <;> cases h1
    · by_cases il : i = l
      · rw [if_pos il] at h2; split at h2 <;> cases h2
      · rw [if_neg ij] at h1 h3
        rw [if_neg il] at h2 h4
        exact s.apart j l ds es a h1 h2 h3 h4
end

/-! ### the judgements -/
/-- what is wished of an exception: how it goes on, and what is due of it, by the slots, its class, its fields -/
structure Xc where
  W : WX := fun _ _ _ _ => False
  ex : List Sd → Addr → List Str → List D → Prop := fun _ _ _ _ => False
section
variable (K : PySem.W.Frag) (B : Bt)
/-- at d: an exception's dict with such fields -/
def Xd (G : Hp) (d : Addr) (ks : List Str) (ds : List D) : Prop := ∃ fs : List (Str × V), G d = some (.xd fs) ∧ fs.map (·.1) = ks ∧ Dds K B G (fs.map (·.2)) ds
def CtX (X : Xc) (σ : St) (δ : List Sd) (G H : Hp) : Prop := ∀ C d ks ds G1 H1, Go B G H G1 H1 → Ok B G1 H1 → Xd K B G1 d ks ds → X.ex δ C ks ds → X.W (.ref C) (some d) σ H1
def Ct (G H : Hp) (P : D → Prop) (Q : VK) : Prop := ∀ v d G1 H1, Go B G H G1 H1 → Ok B G1 H1 → Dd K B G1 v d → P d → Q v H1
def WEx (X : Xc) (te : TE) (δ : List Sd) (P : D → Prop)  : Prop := ∀ G0 H0 σ G H Q, Stt K B G0 H0 G H σ δ → CtX K B X σ δ G H → Ct K B G H P Q → te σ H Q
def WTx (X : Xc) (tt : TT) (δ : List Sd) (P : Bool → Prop)  : Prop := ∀ G0 H0 σ G H (Q : Bool → Hp → Prop), Stt K B G0 H0 G H σ δ → CtX K B X σ δ G H → (∀ b G1 H1, Go B G H G1 H1 → Ok B G1 H1 → P b → Q b H1) → tt σ H Q
def WAx (X : Xc) (ta : TA) (δ : List Sd) (P : List D → Prop)  : Prop := ∀ G0 H0 σ G H (Q : List V → Hp → Prop), Stt K B G0 H0 G H σ δ → CtX K B X σ δ G H → (∀ vs ds G1 H1, Go B G H G1 H1 → Ok B G1 H1 → Dds K B G1 vs ds → P ds → Q vs H1) → ta σ H Q
def WOx (X : Xc) (to : TO) (δ : List Sd) (P : Option Int → Prop)  : Prop := ∀ G0 H0 σ G H (Q : Option Int → Hp → Prop), Stt K B G0 H0 G H σ δ → CtX K B X σ δ G H → (∀ b G1 H1, Go B G H G1 H1 → Ok B G1 H1 → P b → Q b H1) → to σ H Q
abbrev WE (te : TE) (δ : List Sd) (P : D → Prop) : Prop := WEx K B {} te δ P
abbrev WT (tt : TT) (δ : List Sd) (P : Bool → Prop) : Prop := WTx K B {} tt δ P
abbrev WA (ta : TA) (δ : List Sd) (P : List D → Prop) : Prop := WAx K B {} ta δ P
abbrev WO (to : TO) (δ : List Sd) (P : Option Int → Prop) : Prop := WOx K B {} to δ P
/-- operations on values -/
def RO (r : R2) (a b : D) (P : D → Prop) : Prop := ∀ G H x y Q, Ok B G H → Dd K B G x a → Dd K B G y b → Ct K B G H P Q → r x y H Q
def R1 (r : V → Hp → VK → Prop) (a : D) (P : D → Prop) : Prop := ∀ G H x Q, Ok B G H → Dd K B G x a → Ct K B G H P Q → r x H Q
def RC (r : List V → Hp → VK → Prop) (ds : List D) (P : D → Prop) : Prop := ∀ G H vs Q, Ok B G H → Dds K B G vs ds → Ct K B G H P Q → r vs H Q
def RM (r : V → List V → Hp → VK → Prop) (a : D) (ds : List D) (P : D → Prop) : Prop := ∀ G H x vs Q, Ok B G H → Dd K B G x a → Dds K B G vs ds → Ct K B G H P Q → r x vs H Q
def RS (r : V → Option Int → Option Int → Hp → VK → Prop) (a : D) (lo hi : Option Int) (P : D → Prop) : Prop := ∀ G H x Q, Ok B G H → Dd K B G x a → Ct K B G H P Q → r x lo hi H Q
/-- a statement: what follows (by the slots), what is handed back, what is raised -/
structure Out where
  nx : List Sd → Prop
  rt : D → Prop
  bk : List Sd → Prop := fun _ => False
  ct : List Sd → Prop := fun _ => False
  x : Xc := {}
  ro : List D → Prop := fun _ => False
/-- what is handed back: a frozen value, or a list of the def's own -/
def RT (O : Out) (G0 H0 : Hp) (r : VK) : Prop := (∀ v d G1 H1, Go B G0 H0 G1 H1 → Ok B G1 H1 → Dd K B G1 v d → O.rt d → r v H1) ∧
  ∀ a vs ds G1 H1, Go B G0 H0 G1 H1 → Ok B G1 H1 → a ≠ B.a → (∀ o, nt o → H0 a ≠ some o) → G1 a = none → H1 a = some (.lst vs) → Dds K B G1 vs ds → O.ro ds → r (.ref a) H1
def XS (X : Xc) (G0 H0 G : Hp) : Prop := ∀ σ1 δ1 G1 H1, Same G G1 → Stt K B G0 H0 G1 H1 σ1 δ1 → ∀ C d ks ds, Xd K B G1 d ks ds → X.ex δ1 C ks ds → X.W (.ref C) (some d) σ1 H1
def WS (ts : TS) (δ : List Sd) (O : Out) : Prop := ∀ G0 H0 σ G H (E : Ends), Stt K B G0 H0 G H σ δ → XS K B O.x G0 H0 G →
  (∀ σ1 δ1 G1 H1, Same G G1 → Stt K B G0 H0 G1 H1 σ1 δ1 → O.nx δ1 → E.nx σ1 H1) → RT K B O G0 H0 E.rt →
  (∀ σ1 δ1 G1 H1, Same G G1 → Stt K B G0 H0 G1 H1 σ1 δ1 → O.bk δ1 → E.bk σ1 H1) → (∀ σ1 δ1 G1 H1, Same G G1 → Stt K B G0 H0 G1 H1 σ1 δ1 → O.ct δ1 → E.ct σ1 H1) → ts E σ H
/-- a def's promise by data -/
def SpD (pre : List D → Prop) (post : List D → D → Prop) : Sp := fun vs H Q _ => ∃ B G ds, Ok B G H ∧ Dds K B G vs ds ∧ pre ds ∧ Ct K B G H (post ds) Q
/-- .. of a def that hands back a new list -/
def SpN (pre : List D → Prop) (post : List D → List D → Prop) : Sp := fun vs H Q _ => ∃ B G ds, Ok B G H ∧ Dds K B G vs ds ∧ pre ds ∧ ∀ a ws es G1 H1, Go B G H G1 H1 → Ok B G1 H1 → a ≠ B.a → (∀ o, nt o → H a ≠ some o) → G1 a = none → H1 a = some (.lst ws) → Dds K B G1 ws es → post ds es → Q (.ref a) H1
/-- .. of a def that may raise -/
def SpX (pre : List D → Prop) (post : List D → D → Prop) (exc : List D → Addr → List Str → List D → Prop) : Sp := fun vs H Q E => ∃ B G ds, Ok B G H ∧ Dds K B G vs ds ∧ pre ds ∧ Ct K B G H (post ds) Q ∧ ∀ C d ks es G1 H1, Go B G H G1 H1 → Ok B G1 H1 → Xd K B G1 d ks es → exc ds C ks es → E (.ref C) (some d) H1
end
section
variable {K : PySem.W.Frag} {B : Bt} {δ : List Sd} {X : Xc} {G G1 H H1 G0 H0 : Hp} {σ : St}
theorem CtX.on (q : CtX K B X σ δ G H) (g : Go B G H G1 H1) (o : Ok B G1 H1) : CtX K B X σ δ G1 H1 := fun C d ks ds G2 H2 g2 o2 hd p => q C d ks ds G2 H2 (g.trans o g2) o2 hd p
theorem ctx0 : CtX K B {} σ δ G H := fun _ _ _ _ _ _ _ _ _ z => z.elim
theorem XS.ct (q : XS K B X G0 H0 G) (s : Stt K B G0 H0 G H σ δ) : CtX K B X σ δ G H := fun C d ks ds G1 H1 g o hd p => q σ δ G1 H1 g.s (s.on g o) C d ks ds hd p
theorem XS.on (q : XS K B X G0 H0 G) (m : Same G G1) : XS K B X G0 H0 G1 := fun σ1 δ1 G2 H2 m2 => q σ1 δ1 G2 H2 (m.trans m2)
theorem xs0 : XS K B {} G0 H0 G := fun _ _ _ _ _ _ _ _ _ _ _ z => z.elim
end

section
variable {K : PySem.W.Frag} {B : Bt} {δ : List Sd} {P P' : D → Prop} {ta tb te : TE} {tt tu : TT} {X : Xc}
theorem Ct.nil {G H : Hp} {Q : VK} {v : V} {d : D} (o : Ok B G H) (q : Ct K B G H P Q) (h : Dd K B G v d) (p : P d) : Q v H := q v d G H Go.refl o h p
theorem Ct.on {G H G1 H1 : Hp} {Q : VK} (q : Ct K B G H P Q) (g : Go B G H G1 H1) (o : Ok B G1 H1) : Ct K B G1 H1 P Q := fun v d G2 H2 g2 o2 h p => q v d G2 H2 (g.trans o g2) o2 h p
theorem Ct.new {G H : Hp} {Q : VK} {d : D} {x : HO} {p : Addr} (o : Ok B G H) (q : Ct K B G H P Q) (hx : nt x) (h : H p = none) (hd : Dd K B (upd G p x) (.ref p) d) (hp : P d) : Q (.ref p) (upd H p x) := q _ d _ _ (new_go o h) (new_ok o hx h) hd hp
theorem WEx.mono (h : WEx K B X te δ P) (m : ∀ d, P d → P' d) : WEx K B X te δ P' := fun G0 H0 σ G H Q s xx q => h G0 H0 σ G H Q s xx fun v d G1 H1 g o hd p => q v d G1 H1 g o hd (m d p)
theorem WTx.mono {P P' : Bool → Prop} (h : WTx K B X tt δ P) (m : ∀ d, P d → P' d) : WTx K B X tt δ P' := fun G0 H0 σ G H Q s xx q => h G0 H0 σ G H Q s xx fun v G1 H1 g o p => q v G1 H1 g o (m v p)
theorem we_var {i : Nat} {d : D} (h : δ[i]? = some (.val d)) (p : P d) : WEx K B X (tVar i) δ P := fun _ _ _ _ _ _ s _ q => by
  obtain ⟨v, h1, h2⟩ := s.val i d h
  exact ⟨v, h1, q.nil s.ok h2 p⟩
theorem we_int {i : Int} (p : P (.int i)) : WEx K B X (tC (.int i)) δ P := fun _ _ _ _ _ _ s _ q => q.nil s.ok (.int i) p
theorem we_str {z : Str} (p : P (.str z)) : WEx K B X (tC (.str z)) δ P := fun _ _ _ _ _ _ s _ q => q.nil s.ok (.str z) p
theorem we_bl {b : Bool} (p : P (.bl b)) : WEx K B X (tC (.bl b)) δ P := fun _ _ _ _ _ _ s _ q => q.nil s.ok (.bl b) p
theorem we_non (p : P .non) : WEx K B X (tC .non) δ P := fun _ _ _ _ _ _ s _ q => q.nil s.ok .non p
theorem we_op {r : R2} (h : WEx K B X ta δ fun a => WEx K B X tb δ fun b => RO K B r a b P) : WEx K B X (tOp r ta tb) δ P := fun G0 H0 σ G H Q s xx q =>
  h G0 H0 σ G H _ s xx fun x a G1 H1 g1 o1 hx wb => wb G0 H0 σ G1 H1 _ (s.on g1 o1) (xx.on g1 o1) fun y b G2 H2 g2 o2 hy rr => rr G2 H2 x y Q o2 (hx.mono g2.s) hy ((q.on g1 o1).on g2 o2)
theorem we_un {r : V → Hp → VK → Prop} (h : WEx K B X ta δ fun a => R1 K B r a P) : WEx K B X (tUn r ta) δ P := fun G0 H0 σ G H Q s xx q =>
  h G0 H0 σ G H _ s xx fun x a G1 H1 g1 o1 hx rr => rr G1 H1 x Q o1 hx (q.on g1 o1)
theorem we_andV (h : WEx K B X ta δ fun a => ∃ c, a = .bl c ∧ if c = true then WEx K B X tb δ P else P (.bl false)) : WEx K B X (tAndV ta tb) δ P := fun G0 H0 σ G H Q s xx q =>
  h G0 H0 σ G H _ s xx fun x a G1 H1 g1 o1 hx ⟨c, e, w⟩ => by
    subst e
    cases hx
    refine ⟨c, rfl, ?_⟩
    cases c with
    | true => exact w G0 H0 σ G1 H1 Q (s.on g1 o1) (xx.on g1 o1) (q.on g1 o1)
    | false => exact (q.on g1 o1).nil o1 (.bl false) w
theorem we_orV (h : WEx K B X ta δ fun a => ∃ c, a = .bl c ∧ if c = true then P (.bl true) else WEx K B X tb δ P) : WEx K B X (tOrV ta tb) δ P := fun G0 H0 σ G H Q s xx q =>
  h G0 H0 σ G H _ s xx fun x a G1 H1 g1 o1 hx ⟨c, e, w⟩ => by
    subst e
    cases hx
    refine ⟨c, rfl, ?_⟩
    cases c with
    | true => exact (q.on g1 o1).nil o1 (.bl true) w
    | false => exact w G0 H0 σ G1 H1 Q (s.on g1 o1) (xx.on g1 o1) (q.on g1 o1)
theorem we_notV (h : WEx K B X ta δ fun a => ∃ c, a = .bl c ∧ P (.bl (!c))) : WEx K B X (tNotV ta) δ P := fun G0 H0 σ G H Q s xx q =>
  h G0 H0 σ G H _ s xx fun x a G1 H1 g1 o1 hx ⟨c, e, w⟩ => by
    subst e
    cases hx
    exact ⟨c, rfl, (q.on g1 o1).nil o1 (.bl _) w⟩
theorem we_if (h : WTx K B X tt δ fun c => if c = true then WEx K B X ta δ P else WEx K B X tb δ P) : WEx K B X (tIf tt ta tb) δ P := fun G0 H0 σ G H Q s xx q =>
  h G0 H0 σ G H _ s xx fun c G1 H1 g1 o1 w => by
    cases c with
    | true => exact w G0 H0 σ G1 H1 Q (s.on g1 o1) (xx.on g1 o1) (q.on g1 o1)
    | false => exact w G0 H0 σ G1 H1 Q (s.on g1 o1) (xx.on g1 o1) (q.on g1 o1)
theorem wt_test {P : Bool → Prop} (h : WEx K B X te δ fun a => ∃ c, a = .bl c ∧ P c) : WTx K B X (tTest te) δ P := fun G0 H0 σ G H Q s xx q =>
  h G0 H0 σ G H _ s xx fun x a G1 H1 g1 o1 hx ⟨c, e, w⟩ => by
    subst e
    cases hx
    exact ⟨c, rfl, q c G1 H1 g1 o1 w⟩
theorem wt_B {P : Bool → Prop} (h : WEx K B X te δ fun a => ∃ c, a = .bl c ∧ P c) : WTx K B X (tB te) δ P := fun G0 H0 σ G H Q s xx q =>
  h G0 H0 σ G H _ s xx fun x a G1 H1 g1 o1 hx ⟨c, e, w⟩ => by
    subst e
    cases hx
    exact ⟨c, rfl, q c G1 H1 g1 o1 w⟩
theorem wt_and {P : Bool → Prop} (h : WTx K B X tt δ fun c => if c = true then WTx K B X tu δ P else P false) : WTx K B X (tAnd tt tu) δ P := fun G0 H0 σ G H Q s xx q =>
  h G0 H0 σ G H _ s xx fun c G1 H1 g1 o1 w => by
    cases c with
    | true => exact w G0 H0 σ G1 H1 Q (s.on g1 o1) (xx.on g1 o1) fun b G2 H2 g2 o2 p => q b G2 H2 (g1.trans o1 g2) o2 p
    | false => exact q false G1 H1 g1 o1 w
theorem wt_or {P : Bool → Prop} (h : WTx K B X tt δ fun c => if c = true then P true else WTx K B X tu δ P) : WTx K B X (tOr tt tu) δ P := fun G0 H0 σ G H Q s xx q =>
  h G0 H0 σ G H _ s xx fun c G1 H1 g1 o1 w => by
    cases c with
    | true => exact q true G1 H1 g1 o1 w
    | false => exact w G0 H0 σ G1 H1 Q (s.on g1 o1) (xx.on g1 o1) fun b G2 H2 g2 o2 p => q b G2 H2 (g1.trans o1 g2) o2 p
theorem wt_not {P : Bool → Prop} (h : WTx K B X tt δ fun c => P (!c)) : WTx K B X (tNot tt) δ P := fun G0 H0 σ G H Q s xx q =>
  h G0 H0 σ G H _ s xx fun c G1 H1 g1 o1 w => q (!c) G1 H1 g1 o1 w
theorem wt_yes {P : Bool → Prop} (h : P true) : WTx K B X tYes δ P := fun _ _ _ G H _ s _ q => q true G H Go.refl s.ok h
theorem we_chain {tc : TE} {r r' : R2} (h : WEx K B X ta δ fun a => WEx K B X tb δ fun b => RO K B r a b fun z => ∃ k, z = .bl k ∧ if k = true then WEx K B X tc δ (fun c => RO K B r' b c P) else P (.bl false)) : WEx K B X (tChain r r' ta tb tc) δ P := fun G0 H0 σ G H Q s xx q =>
  h G0 H0 σ G H _ s xx fun x a G1 H1 g1 o1 hx wb => wb G0 H0 σ G1 H1 _ (s.on g1 o1) (xx.on g1 o1) fun y b G2 H2 g2 o2 hy rr => rr G2 H2 x y _ o2 (hx.mono g2.s) hy fun z d G3 H3 g3 o3 hz ⟨k, e, w⟩ => by
    subst e
    cases hz
    refine ⟨k, rfl, ?_⟩
    have q3 := ((q.on g1 o1).on g2 o2).on g3 o3
    cases k with
    | true => exact w G0 H0 σ G3 H3 _ (((s.on g1 o1).on g2 o2).on g3 o3) (((xx.on g1 o1).on g2 o2).on g3 o3) fun c' e' G4 H4 g4 o4 hc rr' => rr' G4 H4 y c' Q o4 ((hy.mono g3.s).mono g4.s) hc (q3.on g4 o4)
    | false => exact q3.nil o3 (.bl false) w
theorem wa_nil {P : List D → Prop} (p : P []) : WAx K B X tNil δ P := fun _ _ _ G H _ s _ q => q [] [] G H Go.refl s.ok .nil p
theorem wa_cons {tr : TA} {P : List D → Prop} (h : WEx K B X ta δ fun a => WAx K B X tr δ fun ds => P (a :: ds)) : WAx K B X (tCons ta tr) δ P := fun G0 H0 σ G H Q s xx q =>
  h G0 H0 σ G H _ s xx fun x a G1 H1 g1 o1 hx w => w G0 H0 σ G1 H1 _ (s.on g1 o1) (xx.on g1 o1) fun vs ds G2 H2 g2 o2 hs p => q (x :: vs) (a :: ds) G2 H2 (g1.trans o1 g2) o2 (.cons (hx.mono g2.s) hs) p
theorem we_tup {t : TA} (h : WAx K B X t δ fun ds => ds.length ≤ 1000 ∧ P (.tup ds)) : WEx K B X (zTup t) δ P := fun G0 H0 σ G H Q s xx q =>
  h G0 H0 σ G H _ s xx fun vs ds G1 H1 g1 o1 hs ⟨l, p⟩ => ⟨by rw [hs.length]; exact Nat.le_trans l (by decide), fun a ob ha hd => (q.on g1 o1).new o1 nt_tup ha (.tup ⟨upd_same, hd⟩ (hs.mono (same_upd (o1.fresh ha)))) p⟩
theorem we_lst {t : TA} (h : WAx K B X t δ fun ds => ds.length ≤ 1000 ∧ P (.lst ds)) : WEx K B X (tLst t) δ P := fun G0 H0 σ G H Q s xx q =>
  h G0 H0 σ G H _ s xx fun vs ds G1 H1 g1 o1 hs ⟨l, p⟩ => ⟨by rw [hs.length]; exact Nat.le_trans l (by decide), fun a ha => (q.on g1 o1).new o1 nt_lst ha (.lst upd_same (hs.mono (same_upd (o1.fresh ha)))) p⟩
theorem we_cb {r : List V → Hp → VK → Prop} {t : TA} (h : WAx K B X t δ fun ds => RC K B r ds P) : WEx K B X (tCB r t) δ P := fun G0 H0 σ G H Q s xx q =>
  h G0 H0 σ G H _ s xx fun vs ds G1 H1 g1 o1 hs rr => rr G1 H1 vs Q o1 hs (q.on g1 o1)
theorem we_call {pre : List D → Prop} {post : List D → D → Prop} {E : XK} {t : TA} (h : WAx K B X t δ fun ds => pre ds ∧ ∀ d, post ds d → P d) : WEx K B X (tCall (SpD K pre post) [] E t) δ P := fun G0 H0 σ G H Q s xx q =>
  h G0 H0 σ G H _ s xx fun vs ds G1 H1 g1 o1 hs ⟨p, m⟩ => by
    rw [List.append_nil]
    exact ⟨B, G1, ds, o1, hs, p, fun v d G2 H2 g2 o2 hd pd => (q.on g1 o1) v d G2 H2 g2 o2 hd (m d pd)⟩
theorem we_bm {T : String} {r : V → List V → Hp → VK → Prop} {to : TE} {t : TA} (hT : ∀ G H x z, Ok B G H → Dd K B G x (.str z) → tyV K T x H) (h : WEx K B X to δ fun a => (∃ z, a = .str z) ∧ WAx K B X t δ fun ds => RM K B r a ds P) : WEx K B X (tBM K T r to t) δ P := fun G0 H0 σ G H Q s xx q =>
  h G0 H0 σ G H _ s xx fun x a G1 H1 g1 o1 hx ⟨⟨z, e⟩, w⟩ => by
    subst e
    exact ⟨hT G1 H1 x z o1 hx, w G0 H0 σ G1 H1 _ (s.on g1 o1) (xx.on g1 o1) fun vs ds G2 H2 g2 o2 hs rr => rr G2 H2 x vs Q o2 (hx.mono g2.s) hs ((q.on g1 o1).on g2 o2)⟩
theorem we_bm0 {T : String} {r : V → List V → Hp → VK → Prop} {to : TE} (hT : ∀ G H x z, Ok B G H → Dd K B G x (.str z) → tyV K T x H) (h : WEx K B X to δ fun a => (∃ z, a = .str z) ∧ RM K B r a [] P) : WEx K B X (tBM0 K T r to) δ P := fun G0 H0 σ G H Q s xx q =>
  h G0 H0 σ G H _ s xx fun x a G1 H1 g1 o1 hx ⟨⟨z, e⟩, w⟩ => by
    subst e
    exact ⟨hT G1 H1 x z o1 hx, w G1 H1 x [] Q o1 hx .nil (q.on g1 o1)⟩
theorem wo_none {P : Option Int → Prop} (p : P none) : WOx K B X tNoPart δ P := fun _ _ _ G H _ s _ q => q none G H Go.refl s.ok p
theorem wo_some {P : Option Int → Prop} (h : WEx K B X te δ fun a => ∃ i, a = .int i ∧ P (some i)) : WOx K B X (tPart te) δ P := fun G0 H0 σ G H Q s xx q =>
  h G0 H0 σ G H _ s xx fun x a G1 H1 g1 o1 hx ⟨i, e, p⟩ => by
    subst e
    cases hx
    exact ⟨i, rfl, q (some i) G1 H1 g1 o1 p⟩
theorem we_sl {r : V → Option Int → Option Int → Hp → VK → Prop} {tl th : TO} (h : WEx K B X te δ fun a => WOx K B X tl δ fun lo => WOx K B X th δ fun hi => RS K B r a lo hi P) : WEx K B X (tSl r te tl th) δ P := fun G0 H0 σ G H Q s xx q =>
  h G0 H0 σ G H _ s xx fun x a G1 H1 g1 o1 hx w => w G0 H0 σ G1 H1 _ (s.on g1 o1) (xx.on g1 o1) fun lo G2 H2 g2 o2 w2 => w2 G0 H0 σ G2 H2 _ ((s.on g1 o1).on g2 o2) ((xx.on g1 o1).on g2 o2) fun hi G3 H3 g3 o3 rr =>
    rr G3 H3 x Q o3 ((hx.mono g2.s).mono g3.s) (((q.on g1 o1).on g2 o2).on g3 o3)

/-! ### statements -/
variable {O : Out} {t u : TS}
theorem ws_seq (h : WS K B t δ { O with nx := fun δ1 => WS K B u δ1 O }) : WS K B (tSeq t u) δ O := fun G0 H0 σ G H E s xx n r b c =>
  h G0 H0 σ G H { E with nx := u E } s xx (fun σ1 δ1 G1 H1 m s1 w => w G0 H0 σ1 G1 H1 E s1 (xx.on m) (fun σ2 δ2 G2 H2 m2 => n σ2 δ2 G2 H2 (m.trans m2)) r (fun σ2 δ2 G2 H2 m2 => b σ2 δ2 G2 H2 (m.trans m2)) (fun σ2 δ2 G2 H2 m2 => c σ2 δ2 G2 H2 (m.trans m2))) r b c
theorem ws_next (h : O.nx δ) : WS K B tNext δ O := fun _ _ σ G H _ s _ n _ _ _ => n σ δ G H (Same.refl _) s h
theorem ws_break (h : O.bk δ) : WS K B tBreak δ O := fun _ _ σ G H _ s _ _ _ b _ => b σ δ G H (Same.refl _) s h
theorem ws_cont (h : O.ct δ) : WS K B tCont δ O := fun _ _ σ G H _ s _ _ _ _ c => c σ δ G H (Same.refl _) s h
theorem ws_ret (h : WEx K B O.x te δ O.rt) : WS K B (tRet te) δ O := fun G0 H0 σ G H E s xx _ r _ _ => h G0 H0 σ G H _ s (xx.ct s) fun v d G1 H1 g o hd p => r.1 v d G1 H1 (s.go.trans s.ok g) o hd p
theorem ws_retN (h : O.rt .non) : WS K B tRetN δ O := fun _ _ _ G H _ s _ _ r _ _ => r.1 .non .non G H s.go s.ok .non h
theorem ws_if (h : WTx K B O.x tt δ fun c => if c = true then WS K B t δ O else WS K B u δ O) : WS K B (tIfS tt t u) δ O := fun G0 H0 σ G H E s xx n r b c =>
  h G0 H0 σ G H _ s (xx.ct s) fun k G1 H1 g1 o1 w => by
    cases k with
    | true => exact w G0 H0 σ G1 H1 E (s.on g1 o1) (xx.on g1.s) (fun σ2 δ2 G2 H2 m2 => n σ2 δ2 G2 H2 (g1.s.trans m2)) r (fun σ2 δ2 G2 H2 m2 => b σ2 δ2 G2 H2 (g1.s.trans m2)) (fun σ2 δ2 G2 H2 m2 => c σ2 δ2 G2 H2 (g1.s.trans m2))
    | false => exact w G0 H0 σ G1 H1 E (s.on g1 o1) (xx.on g1.s) (fun σ2 δ2 G2 H2 m2 => n σ2 δ2 G2 H2 (g1.s.trans m2)) r (fun σ2 δ2 G2 H2 m2 => b σ2 δ2 G2 H2 (g1.s.trans m2)) (fun σ2 δ2 G2 H2 m2 => c σ2 δ2 G2 H2 (g1.s.trans m2))
theorem ws_set {i : Nat} (h : WEx K B O.x te δ fun d => O.nx (δ.set i (.val d))) : WS K B (tAsg te (gName i)) δ O := fun G0 H0 σ G H E s xx n _ _ _ =>
  h G0 H0 σ G H _ s (xx.ct s) fun v d G1 H1 g o hd p => n _ _ G1 H1 g.s ((s.on g o).setVal i hd) p
theorem ws_drop (h : WEx K B O.x te δ fun _ => O.nx δ) : WS K B (tDrop te) δ O := fun G0 H0 σ G H E s xx n _ _ _ =>
  h G0 H0 σ G H _ s (xx.ct s) fun v d G1 H1 g o hd p => n _ _ G1 H1 g.s (s.on g o) p
theorem ws_par {i j : Nat} {ta : TA} (h : WAx K B O.x ta δ fun ds => ∃ a b, ds = [a, b] ∧ O.nx ((δ.set i (.val a)).set j (.val b))) : WS K B (tPar i j ta) δ O := fun G0 H0 σ G H E s xx n _ _ _ =>
  h G0 H0 σ G H _ s (xx.ct s) fun vs ds G1 H1 g o hs ⟨a, b, e, p⟩ => by
    subst e
    cases hs with
    | cons h1 t1 =>
      cases t1 with
      | cons h2 t2 =>
        cases t2
        exact ⟨_, _, rfl, n _ _ G1 H1 g.s (((s.on g o).setVal i h1).setVal j h2) p⟩
end
end Dl
namespace Dl
open PySem L2
section
variable {K : PySem.W.Frag} {B : Bt} {δ : List Sd} {P P' : D → Prop} {ta tb te : TE} {tt tu : TT} {O : Out} {X : Xc}
theorem we_cls {n : String} (p : P (.cls n)) : WEx K B X (tC (.ty n)) δ P := fun _ _ _ _ _ _ s _ q => q.nil s.ok (.cls n) p
/-! ### operations on values -/
theorem ro_int0 {f : Int → Int → Int} {i j : Int} (p : P (.int (f i j))) : RO K B (rI0 fun i j => .int (f i j)) (.int i) (.int j) P := fun _ _ _ _ _ o hx hy q => by
  cases hx; cases hy
  exact ⟨i, j, rfl, rfl, q.nil o (.int _) p⟩
theorem ro_bl0 {f : Int → Int → Bool} {i j : Int} (p : P (.bl (f i j))) : RO K B (rI0 fun i j => .bl (f i j)) (.int i) (.int j) P := fun _ _ _ _ _ o hx hy q => by
  cases hx; cases hy
  exact ⟨i, j, rfl, rfl, q.nil o (.bl _) p⟩
theorem ro_int {C : Int → Int → Prop} {f : Int → Int → Int} {i j : Int} (c : C i j) (p : P (.int (f i j))) : RO K B (rI C fun i j => .int (f i j)) (.int i) (.int j) P := fun _ _ _ _ _ o hx hy q => by
  cases hx; cases hy
  exact ⟨i, j, rfl, rfl, c, q.nil o (.int _) p⟩
theorem r1_int {f : Int → Int} {i : Int} (p : P (.int (f i))) : R1 K B (rU fun i => .int (f i)) (.int i) P := fun _ _ _ _ o hx q => by
  cases hx
  exact ⟨i, rfl, q.nil o (.int _) p⟩
/-- the flat ones as values -/
def D.v : D → V
  | .non => .non | .bl b => .bl b | .int i => .int i | .str z => .str z | .cls n => .ty n | _ => .ref 0
def D.flat : D → Bool
  | .non => true | .bl _ => true | .int _ => true | .str _ => true | _ => false
theorem Dd.flat {G : Hp} {v : V} {d : D} (h : Dd K B G v d) (f : d.flat = true) : v = d.v := by
  cases h <;> first | rfl | cases f
theorem ro_eq {a b : D} (fa : a.flat = true) (fb : b.flat = true) (s : scal a.v b.v = true) (p : P (.bl (decide (a.v = b.v)))) : RO K B rEq a b P := fun _ _ _ _ _ o hx hy q => by
  rw [hx.flat fa, hy.flat fb]
  exact ⟨s, q.nil o (.bl _) p⟩
theorem ro_ne {a b : D} (fa : a.flat = true) (fb : b.flat = true) (s : scal a.v b.v = true) (p : P (.bl (!decide (a.v = b.v)))) : RO K B rNe a b P := fun _ _ _ _ _ o hx hy q => by
  rw [hx.flat fa, hy.flat fb]
  exact ⟨s, q.nil o (.bl _) p⟩
theorem ro_eqI {i j : Int} (p : P (.bl (decide (i = j)))) : RO K B rEq (.int i) (.int j) P := ro_eq rfl rfl rfl (by
  have e : decide (D.v (.int i) = D.v (.int j)) = decide (i = j) := by
    apply decide_eq_decide.mpr
    exact ⟨fun h => V.int.inj h, fun h => by rw [h]⟩
  rw [e]; exact p)
theorem ro_neI {i j : Int} (p : P (.bl (!decide (i = j)))) : RO K B rNe (.int i) (.int j) P := ro_ne rfl rfl rfl (by
  have e : decide (D.v (.int i) = D.v (.int j)) = decide (i = j) := by
    apply decide_eq_decide.mpr
    exact ⟨fun h => V.int.inj h, fun h => by rw [h]⟩
  rw [e]; exact p)
theorem ro_eqB {i j : Bool} (p : P (.bl (decide (i = j)))) : RO K B rEq (.bl i) (.bl j) P := ro_eq rfl rfl rfl (by
  have e : decide (D.v (.bl i) = D.v (.bl j)) = decide (i = j) := by
    apply decide_eq_decide.mpr
    exact ⟨fun h => V.bl.inj h, fun h => by rw [h]⟩
  rw [e]; exact p)
theorem ro_neB {i j : Bool} (p : P (.bl (!decide (i = j)))) : RO K B rNe (.bl i) (.bl j) P := ro_ne rfl rfl rfl (by
  have e : decide (D.v (.bl i) = D.v (.bl j)) = decide (i = j) := by
    apply decide_eq_decide.mpr
    exact ⟨fun h => V.bl.inj h, fun h => by rw [h]⟩
  rw [e]; exact p)
theorem ro_eqS {i j : Str} (p : P (.bl (decide (i = j)))) : RO K B rEq (.str i) (.str j) P := ro_eq rfl rfl rfl (by
  have e : decide (D.v (.str i) = D.v (.str j)) = decide (i = j) := by
    apply decide_eq_decide.mpr
    exact ⟨fun h => V.str.inj h, fun h => by rw [h]⟩
  rw [e]; exact p)
theorem ro_neS {i j : Str} (p : P (.bl (!decide (i = j)))) : RO K B rNe (.str i) (.str j) P := ro_ne rfl rfl rfl (by
  have e : decide (D.v (.str i) = D.v (.str j)) = decide (i = j) := by
    apply decide_eq_decide.mpr
    exact ⟨fun h => V.str.inj h, fun h => by rw [h]⟩
  rw [e]; exact p)
theorem sz1000 {n : Nat} (h : n ≤ 1000) : n ≤ sizeLine := Nat.le_trans h (by decide)
/-- items -/
theorem atI_dd {G : Hp} {vs : List V} {ds : List D} {i : Int} {d : D} (h : Dds K B G vs ds) (e : atI ds i = some d) : ∃ v, atI vs i = some v ∧ Dd K B G v d := by
  unfold atI at e ⊢
  rw [h.length]
  cases q : ixN ds.length i with
  | none => rw [q] at e; cases e
  | some j =>
    rw [q] at e
    exact h.get e
theorem ro_ixL {ds : List D} {i : Int} {d : D} (e : atI ds i = some d) (p : P d) : RO K B (rIxL K) (.lst ds) (.int i) P := fun _ _ _ _ _ o hx hy q => by
  cases hy
  cases hx with
  | lst h t =>
    obtain ⟨v, h1, h2⟩ := atI_dd t e
    exact ⟨_, _, i, v, rfl, rfl, SqL.of (o.u _ _ h), h1, q.nil o h2 p⟩
theorem ro_ixT {ds : List D} {i : Int} {d : D} (e : atI ds i = some d) (p : P d) : RO K B (rIxT K) (.tup ds) (.int i) P := fun _ _ _ _ _ o hx hy q => by
  cases hy
  cases hx with
  | tup h t =>
    obtain ⟨v, h1, h2⟩ := atI_dd t e
    exact ⟨_, _, i, v, rfl, rfl, SqT.ofZ (o.u _ _ h.1), h1, q.nil o h2 p⟩
theorem ro_ixS {z : Str} {i : Int} {c : Nat} (l : z.length ≤ 100000) (e : atI z.cps.toList i = some c) (p : P (.str ⟨#[c]⟩)) : RO K B rIxS (.str z) (.int i) P := fun _ _ _ _ _ o hx hy q => by
  cases hy; cases hx
  exact ⟨z, i, c, rfl, rfl, Nat.le_trans l (by decide), e, q.nil o (.str _) p⟩
theorem ro_ixsL {ds : List D} {i : Int} {d : D} (e : atI ds i = some d) (p : P d) : RO K B (rIx K) (.lst ds) (.int i) P := fun G H x y Q o hx hy q => .inl (ro_ixL e p G H x y Q o hx hy q)
theorem ro_ixsT {ds : List D} {i : Int} {d : D} (e : atI ds i = some d) (p : P d) : RO K B (rIx K) (.tup ds) (.int i) P := fun G H x y Q o hx hy q => .inr (.inl (ro_ixT e p G H x y Q o hx hy q))
theorem ro_ixsS {z : Str} {i : Int} {c : Nat} (l : z.length ≤ 100000) (e : atI z.cps.toList i = some c) (p : P (.str ⟨#[c]⟩)) : RO K B (rIx K) (.str z) (.int i) P := fun G H x y Q o hx hy q => .inr (.inr (ro_ixS l e p G H x y Q o hx hy q))
theorem ro_inS {i j : Str} (p : P (.bl (!(Builtin.Str.occurrences j i 0 j.length 1).isEmpty))) : RO K B (fun x y H Q => ∃ i j, x = .str i ∧ y = .str j ∧ Q (.bl (!(Builtin.Str.occurrences j i 0 j.length 1).isEmpty)) H) (.str i) (.str j) P := fun _ _ _ _ _ o hx hy q => by
  cases hx; cases hy
  exact ⟨i, j, rfl, rfl, q.nil o (.bl _) p⟩
theorem ro_addS {i j : Str} (l : i.length + j.length ≤ 100000) (p : P (.str (i ++ j))) : RO K B (fun x y H Q => ∃ i j, x = .str i ∧ y = .str j ∧ i.length + j.length ≤ sizeLine ∧ Q (.str (i ++ j)) H) (.str i) (.str j) P := fun _ _ _ _ _ o hx hy q => by
  cases hx; cases hy
  exact ⟨i, j, rfl, rfl, Nat.le_trans l (by decide), q.nil o (.str _) p⟩
theorem ro_cat {ds es : List D} (l : ds.length + es.length ≤ 1000) (p : P (.lst (ds ++ es))) : RO K B rCat (.lst ds) (.lst es) P := fun _ _ _ _ _ o hx hy q => by
  cases hx with
  | lst h t =>
    cases hy with
    | lst h' t' => exact ⟨_, _, _, _, rfl, rfl, o.u _ _ h, o.u _ _ h', sz1000 (by rw [t.length, t'.length]; exact l), fun a ha => q.new o nt_lst ha (.lst upd_same ((t.append t').mono (same_upd (o.fresh ha)))) p⟩
theorem ro_rep {ds : List D} {k : Int} (h1 : 0 ≤ k) (h2 : k ≤ 1000) (l : ds.length * k.toNat ≤ 1000) (p : P (.lst (List.replicate k.toNat ds).flatten)) : RO K B rRep (.lst ds) (.int k) P := fun _ _ _ _ _ o hx hy q => by
  cases hy
  cases hx with
  | lst h t => exact ⟨_, k, _, rfl, rfl, o.u _ _ h, by omega, by omega, sz1000 (by rw [t.length]; exact l), fun a ha => q.new o nt_lst ha (.lst upd_same ((t.repl _).mono (same_upd (o.fresh ha)))) p⟩
theorem ro_catA {ds es : List D} (l : ds.length + es.length ≤ 1000) (p : P (.tup (ds ++ es))) : RO K B (zCat K) (.tup ds) (.tup es) P := fun _ _ _ _ _ o hx hy q => by
  have hx0 := hx
  have hy0 := hy
  cases hx with
  | tup h t =>
    cases hy with
    | tup h' t' =>
      refine ⟨_, _, _, _, rfl, rfl, SqT.ofZ (o.u _ _ h.1), SqT.ofZ (o.u _ _ h'.1), sz1000 (by rw [t.length, t'.length]; exact l), fun e => ?_, fun _ e => ?_, fun _ _ a ob ha hd => q.new o nt_tup ha (.tup ⟨upd_same, hd⟩ ((t.append t').mono (same_upd (o.fresh ha)))) p⟩
      · have e2 : ds = [] := by
          have := t.length; rw [e] at this; exact List.length_eq_zero_iff.mp this.symm
        subst e2
        exact q.nil o hy0 p
      · have e2 : es = [] := by
          have := t'.length; rw [e] at this; exact List.length_eq_zero_iff.mp this.symm
        subst e2
        rw [List.append_nil] at p
        exact q.nil o hx0 p
/-- slices -/
def cutD (ds : List D) (lo hi : Option Int) : List D := (ds.drop (HT.sIx ds.length 0 lo)).take (HT.sIx ds.length ds.length hi - HT.sIx ds.length 0 lo)
theorem cutV_dd {G : Hp} {vs : List V} {ds : List D} {lo hi : Option Int} (h : Dds K B G vs ds) : Dds K B G (cutV vs lo hi) (cutD ds lo hi) := by
  unfold cutV cutD
  rw [h.length]
  exact (h.drop _).take _
theorem rs_L {ds : List D} {lo hi : Option Int} (p : P (.lst (cutD ds lo hi))) : RS K B (rSlL K) (.lst ds) lo hi P := fun _ _ _ _ o hx q => by
  cases hx with
  | lst h t => exact ⟨_, _, rfl, SqL.of (o.u _ _ h), fun a ha => q.new o nt_lst ha (.lst upd_same ((cutV_dd t).mono (same_upd (o.fresh ha)))) p⟩
theorem rs_T {ds : List D} {lo hi : Option Int} (p : P (.tup (cutD ds lo hi))) : RS K B (zSl K) (.tup ds) lo hi P := fun _ _ _ _ o hx q => by
  have hx0 := hx
  cases hx with
  | tup h t =>
    refine ⟨_, _, rfl, SqT.ofZ (o.u _ _ h.1), fun e => ?_, fun _ a ob ha hd => q.new o nt_tup ha (.tup ⟨upd_same, hd⟩ ((cutV_dd t).mono (same_upd (o.fresh ha)))) p⟩
    rw [t.length] at e
    have e2 : cutD ds lo hi = ds := by
      show (ds.drop (HT.sIx ds.length 0 lo)).take (HT.sIx ds.length ds.length hi - HT.sIx ds.length 0 lo) = ds
      rw [e.1, e.2]
      simp
    rw [e2] at p
    exact q.nil o hx0 p
theorem rs_S {z : Str} {lo hi : Option Int} (l : z.length ≤ 100000) (p : P (.str (cutS z lo hi))) : RS K B rSlS (.str z) lo hi P := fun _ _ _ _ o hx q => by
  cases hx
  exact ⟨z, rfl, Nat.le_trans l (by decide), q.nil o (.str _) p⟩
/-! ### calls of built-ins -/
def D.tyn : D → String
  | .non => "NoneType" | .bl _ => "bool" | .int _ => "int" | .str _ => "str" | .tup _ => "tuple" | .lst _ => "list" | .dic _ _ => "dict" | .cls _ => "type" | .box => "list" | .exn _ _ _ => "type"
def D.isCls : D → Bool
  | .cls _ => true | .exn _ _ _ => true | _ => false
theorem Dd.tyx {G H : Hp} {v : V} {d : D} (o : Ok B G H) (h : Dd K B G v d) (nc : d.isCls = false) : TyX K H v (.type d.tyn) := by
  cases h with
  | non => exact .base .non
  | bl b => exact .base (.bl b)
  | int i => exact .base (.int i)
  | str z => exact .base (.str z)
  | tup h _ => exact .fTuple (o.u _ _ h.1)
  | lst h _ => exact .base (.lst (o.u _ _ h))
  | dic h _ => exact .base (.dK (o.u _ _ h))
  | cls n => cases nc
  | exn _ _ _ => cases nc
  | box =>
    obtain ⟨_, _, _, _, _, _, e, _⟩ := o.x
    exact .base (.lst e)
theorem rc_isi {a : D} {n : String} {b : Bool} (nc : a.isCls = false) (e : kitB a.tyn n = some b) (p : P (.bl b)) : RC K B (rIsi K) [a, .cls n] P := fun _ _ _ _ o hs q => by
  cases hs with
  | cons h1 t =>
    cases t with
    | cons h2 t2 =>
      cases t2; cases h2
      exact ⟨_, _, _, _, b, rfl, .ty n, h1.tyx o nc, kit_ty e, q.nil o (.bl b) p⟩
theorem rc_isi2 {a : D} {n m : String} {b c : Bool} (nc : a.isCls = false) (e1 : kitB a.tyn n = some b) (e2 : kitB a.tyn m = some c) (p : P (.bl (b || c))) : RC K B (zIsi2 K) [a, .tup [.cls n, .cls m]] P := fun G H _ _ o hs q => by
  cases hs with
  | cons h1 t =>
    cases t with
    | cons h2 t2 =>
      cases t2
      cases h2 with
      | tup hg ht =>
        cases ht with
        | cons k1 t3 =>
          cases t3 with
          | cons k2 t4 =>
            cases t4; cases k1; cases k2
            refine ⟨_, _, _, _, _, [.type n, .type m], (b || c), rfl, o.u _ _ hg.1, .cons (.ty n) (.cons (.ty m) .nil), h1.tyx o nc, ?_, q.nil o (.bl _) p⟩
            have f1 : PySem.W.kitOne K (.type a.tyn) (.type n) = some b := kit_ty e1
            have f2 : PySem.W.kitOne K (.type a.tyn) (.type m) = some c := kit_ty e2
            cases b <;> cases c <;> simp [PySem.W.kitAny, f1, f2]
def D.len? : D → Option Nat
  | .str z => some z.length | .tup ds => some ds.length | .lst ds => some ds.length | _ => none
theorem rc_len {a : D} {n : Nat} (e : a.len? = some n) (l : n ≤ 100000) (p : P (.int n)) : RC K B (fun xs H Q => ∃ x n, xs = [x] ∧ LenV K x H n ∧ Q (.int n) H) [a] P := fun _ _ _ _ o hs q => by
  cases hs with
  | cons h t =>
    cases t
    cases h with
    | str z => cases e; exact ⟨_, _, rfl, ⟨Nat.le_trans l (by decide), rfl⟩, q.nil o (.int _) p⟩
    | tup h t => cases e; exact ⟨_, _, rfl, .inr ⟨_, SqT.ofZ (o.u _ _ h.1), t.length.symm⟩, q.nil o (.int _) p⟩
    | lst h t => cases e; exact ⟨_, _, rfl, .inl ⟨_, SqL.of (o.u _ _ h), t.length.symm⟩, q.nil o (.int _) p⟩
    | _ => cases e
theorem rc_abs {i : Int} (p : P (.int (if i < 0 then -i else i))) : RC K B (fun xs H Q => ∃ i, xs = [.int i] ∧ Q (.int (if i < 0 then -i else i)) H) [.int i] P := fun _ _ _ _ o hs q => by
  cases hs with
  | cons h t => cases t; cases h; exact ⟨i, rfl, q.nil o (.int _) p⟩
theorem rc_int1 {i : Int} (p : P (.int i)) : RC K B (fun xs H Q => (∃ i, xs = [.int i] ∧ Q (.int i) H) ∨ ∃ k, xs = [.bl k] ∧ Q (.int (if k then 1 else 0)) H) [.int i] P := fun _ _ _ _ o hs q => by
  cases hs with
  | cons h t => cases t; cases h; exact .inl ⟨i, rfl, q.nil o (.int _) p⟩
theorem rc_intS {a : Str} {n : Int} (e : PySem.intText? a = some n) (l : a.length ≤ 640) (p : P (.int n)) : RC K B (fun xs H Q => ∃ a n, xs = [.str a] ∧ PySem.intText? a = some n ∧ a.length ≤ 640 ∧ Q (.int n) H) [.str a] P := fun _ _ _ _ o hs q => by
  cases hs with
  | cons h t => cases t; cases h; exact ⟨a, n, rfl, e, l, q.nil o (.int _) p⟩
theorem rc_gcd {i j : Int} (p : P (.int ((Nat.gcd i.natAbs j.natAbs : Nat) : Int))) : RC K B rGcd [.int i, .int j] P := fun _ _ _ _ o hs q => by
  cases hs with
  | cons h t =>
    cases t with
    | cons h2 t2 => cases t2; cases h; cases h2; exact ⟨i, j, rfl, q.nil o (.int _) p⟩
theorem rc_all {bs : List Bool} (p : P (.bl (bs.all id))) : RC K B (rAll K) [.lst (bs.map D.bl)] P := fun _ _ _ _ o hs q => by
  cases hs with
  | cons h t =>
    cases t
    cases h with
    | lst h t => rw [t.bls] at h; exact ⟨_, bs, rfl, SqL.of (o.u _ _ h), q.nil o (.bl _) p⟩
theorem rc_any {bs : List Bool} (p : P (.bl (bs.any id))) : RC K B (rAny K) [.lst (bs.map D.bl)] P := fun _ _ _ _ o hs q => by
  cases hs with
  | cons h t =>
    cases t
    cases h with
    | lst h t => rw [t.bls] at h; exact ⟨_, bs, rfl, SqL.of (o.u _ _ h), q.nil o (.bl _) p⟩
theorem rc_listOf {ds : List D} (p : P (.lst ds)) : RC K B (fun xs H Q => ∃ p ys, xs = [.ref p] ∧ (SqL K H p ys ∨ SqT K H p ys) ∧ ∀ l, H l = none → Q (.ref l) (upd H l (.lst ys))) [.lst ds] P ∧ RC K B (fun xs H Q => ∃ p ys, xs = [.ref p] ∧ (SqL K H p ys ∨ SqT K H p ys) ∧ ∀ l, H l = none → Q (.ref l) (upd H l (.lst ys))) [.tup ds] P := by
  constructor
  · intro _ _ _ _ o hs q
    cases hs with
    | cons h t =>
      cases t
      cases h with
      | lst h t => exact ⟨_, _, rfl, .inl (SqL.of (o.u _ _ h)), fun l hl => q.new o nt_lst hl (.lst upd_same (t.mono (same_upd (o.fresh hl)))) p⟩
  · intro _ _ _ _ o hs q
    cases hs with
    | cons h t =>
      cases t
      cases h with
      | tup h t => exact ⟨_, _, rfl, .inr (SqT.ofZ (o.u _ _ h.1)), fun l hl => q.new o nt_lst hl (.lst upd_same (t.mono (same_upd (o.fresh hl)))) p⟩
/-! ### methods of texts -/
theorem ty_str {G H : Hp} {x : V} {z : Str} (_ : Ok B G H) (h : Dd K B G x (.str z)) : tyV K "str" x H := by
  cases h; rfl
theorem rm_join {a : Str} {ys : List Str} (l : (ys.map (·.length)).sum + ys.length * a.length ≤ 16777216) (p : P (.str (Txt.join a ys))) : RM K B (fun x xs H Q => ∃ a p, ∃ ys : List Str, x = .str a ∧ xs = [.ref p] ∧ (SqL K H p (ys.map V.str) ∨ SqT K H p (ys.map V.str)) ∧ (ys.map (·.length)).sum + ys.length * a.length ≤ 16777216 ∧ Q (.str (Txt.join a ys)) H) (.str a) [.lst (ys.map D.str)] P := fun _ _ _ _ _ o hx hs q => by
  cases hx
  cases hs with
  | cons h t =>
    cases t
    cases h with
    | lst h t => rw [t.strs] at h; exact ⟨a, _, ys, rfl, rfl, .inl (SqL.of (o.u _ _ h)), l, q.nil o (.str _) p⟩
end
end Dl
namespace Dl
open PySem L2
section
variable (K : PySem.W.Frag) (B : Bt)
/-- what an iterator hands out, by data -/
def ItOk (J : It) (its : List D) (G1 : Hp) : Prop := ∀ G H i, Same G1 G → Ok B G H → (i < its.length → J.go i H) ∧ (∀ x H', i < its.length → J.yld i H x H' → ∃ d G', its[i]? = some d ∧ Go B G H G' H' ∧ Ok B G' H' ∧ Dd K B G' x d) ∧ (i = its.length → J.stop i H)
def WIx (X : Xc) (wi : TI) (δ : List Sd) (P : List D → Prop) : Prop := ∀ G0 H0 σ G H (R : It → Hp → Prop), Stt K B G0 H0 G H σ δ → CtX K B X σ δ G H → (∀ J its G1 H1, Go B G H G1 H1 → Ok B G1 H1 → ItOk K B J its G1 → P its → R J H1) → wi σ H R
abbrev WI (wi : TI) (δ : List Sd) (P : List D → Prop) : Prop := WIx K B {} wi δ P
end
section
variable {K : PySem.W.Frag} {B : Bt} {δ : List Sd} {P P' : D → Prop} {ta tb te : TE} {tt tu : TT} {O : Out} {X : Xc}
theorem it_list {G : Hp} {a : Addr} {vs : List V} {ds : List D} (h : G a = some (.lst vs)) (t : Dds K B G vs ds) : ItOk K B (Itl K a) ds G := by
  intro G1 H1 i s o
  have h1 : SqL K H1 a vs := SqL.of (o.u _ _ (s _ _ h))
  have l := t.length
  refine ⟨fun hi => ?_, fun x H' hi y => ?_, fun e => ⟨vs, h1, by omega⟩⟩
  · obtain ⟨v, e1, _⟩ := t.get (List.getElem?_eq_getElem hi)
    exact ⟨vs, v, h1, e1⟩
  · obtain ⟨rfl, f⟩ := y
    obtain ⟨d, e1, e2⟩ := t.get' (f vs h1)
    exact ⟨d, G1, e1, Go.refl, o, e2.mono s⟩
theorem it_tup {G : Hp} {a : Addr} {vs : List V} {ds : List D} {ob : Obj} (h : G a = some (.frz ob (.tup vs)) ∧ ob.dict = none) (t : Dds K B G vs ds) : ItOk K B (Itt K a) ds G := by
  intro G1 H1 i s o
  have h1 : SqT K H1 a vs := SqT.ofZ (o.u _ _ (s _ _ h.1))
  have l := t.length
  refine ⟨fun hi => ?_, fun x H' hi y => ?_, fun e => ⟨vs, h1, by omega⟩⟩
  · obtain ⟨v, e1, _⟩ := t.get (List.getElem?_eq_getElem hi)
    exact ⟨vs, v, h1, e1⟩
  · obtain ⟨rfl, f⟩ := y
    obtain ⟨d, e1, e2⟩ := t.get' (f vs h1)
    exact ⟨d, G1, e1, Go.refl, o, e2.mono s⟩
def signs (z : Str) : List D := z.cps.toList.map fun c => .str ⟨#[c]⟩
theorem it_str {G : Hp} {z : Str} : ItOk K B (Its z) (signs z) G := by
  intro G1 H1 i s o
  have l : (signs z).length = z.cps.size := by unfold signs; rw [List.length_map, Array.length_toList]
  refine ⟨fun hi => by show i < z.cps.size; omega, fun x H' hi y => ?_, fun e => by show z.cps.size ≤ i; omega⟩
  obtain ⟨rfl, c, e, rfl⟩ := y
  refine ⟨.str ⟨#[c]⟩, G1, ?_, Go.refl, o, .str _⟩
  unfold signs
  rw [List.getElem?_map, Array.getElem?_toList, e]
  rfl
def upto (lo : Int) (n : Nat) : List D := (List.range n).map fun (k : Nat) => .int (lo + (k : Int))
theorem it_range {G : Hp} {lo : Int} {n : Nat} : ItOk K B (Itr lo n) (upto lo n) G := by
  intro G1 H1 i s o
  have l : (upto lo n).length = n := by unfold upto; rw [List.length_map, List.length_range]
  refine ⟨fun hi => by show i < n; omega, fun x H' hi y => ?_, fun e => by show n ≤ i; omega⟩
  obtain ⟨rfl, rfl⟩ := y
  refine ⟨.int (lo + i), G1, ?_, Go.refl, o, .int _⟩
  unfold upto
  rw [List.getElem?_map, List.getElem?_range (by omega)]
  rfl
theorem wi_list {P : List D → Prop} (h : WEx K B X te δ fun d => ∃ ds, d = .lst ds ∧ P ds) : WIx K B X (iList K te) δ P := fun G0 H0 σ G H R s xx q =>
  h G0 H0 σ G H _ s xx fun x a G1 H1 g1 o1 hx ⟨ds, e, p⟩ => by
    subst e
    cases hx with
    | lst h t => exact ⟨_, rfl, ⟨_, SqL.of (o1.u _ _ h)⟩, q _ ds G1 H1 g1 o1 (it_list h t) p⟩
theorem wi_tup {P : List D → Prop} (h : WEx K B X te δ fun d => ∃ ds, d = .tup ds ∧ P ds) : WIx K B X (iTup K te) δ P := fun G0 H0 σ G H R s xx q =>
  h G0 H0 σ G H _ s xx fun x a G1 H1 g1 o1 hx ⟨ds, e, p⟩ => by
    subst e
    cases hx with
    | tup h t => exact ⟨_, rfl, ⟨_, SqT.ofZ (o1.u _ _ h.1)⟩, q _ ds G1 H1 g1 o1 (it_tup h t) p⟩
theorem wi_str {P : List D → Prop} (h : WEx K B X te δ fun d => ∃ z, d = .str z ∧ P (signs z)) : WIx K B X (iStr te) δ P := fun G0 H0 σ G H R s xx q =>
  h G0 H0 σ G H _ s xx fun x a G1 H1 g1 o1 hx ⟨z, e, p⟩ => by
    subst e
    cases hx
    exact ⟨z, rfl, q _ (signs z) G1 H1 g1 o1 it_str p⟩
/-- a for loop over names, by a word -/
theorem ws_for {wi : TI} {i : Nat} {t : TS} (h : WIx K B O.x wi δ fun its => ∃ I : Nat → List Sd → Prop, I 0 δ ∧ (∀ k d δ1, its[k]? = some d → I k δ1 → WS K B t (δ1.set i (.val d)) { nx := I (k + 1), rt := O.rt, bk := O.nx, ct := I (k + 1), x := O.x, ro := O.ro }) ∧ ∀ δ1, I its.length δ1 → O.nx δ1) : WS K B (tFor wi (gName i) t) δ O := fun G0 H0 σ G H E s xx n r b c =>
  h G0 H0 σ G H _ s (xx.ct s) fun J its G1 H1 g1 o1 it ⟨I, i0, turn, last⟩ => by
    refine ⟨fun k m σ H => m = its.length - k ∧ k ≤ its.length ∧ ∃ G δ1, Stt K B G0 H0 G H σ δ1 ∧ Same G1 G ∧ I k δ1, ⟨_, rfl, Nat.zero_le _, G1, δ, s.on g1 o1, Same.refl _, i0⟩, ?_⟩
    rintro k m σ2 H2 ⟨rfl, hk, G2, δ2, s2, sm, ik⟩
    obtain ⟨f1, f2, f3⟩ := it G2 H2 k sm s2.ok
    by_cases hlt : k < its.length
    · refine .inr ⟨f1 hlt, fun σ' H' => ∃ G δ1, Stt K B G0 H0 G H' σ' δ1 ∧ Same G1 G ∧ I (k + 1) δ1, fun σ' H' hN => ⟨its.length - (k + 1), by omega, rfl, hlt, hN⟩, fun x H' y => ?_⟩
      obtain ⟨d, G3, e1, g3, o3, hd⟩ := f2 x H' hlt y
      have s3 := (s2.on g3 o3).setVal i hd
      have sm3 := sm.trans g3.s
      refine turn k d δ2 e1 ik G0 H0 _ G3 H' _ s3 (xx.on (g1.s.trans sm3)) (fun σ4 δ4 G4 H4 m4 s4 p4 => ⟨G4, δ4, s4, sm3.trans m4, p4⟩) r (fun σ4 δ4 G4 H4 m4 s4 p4 => n _ _ _ _ ((g1.s.trans sm3).trans m4) s4 p4) (fun σ4 δ4 G4 H4 m4 s4 p4 => ⟨G4, δ4, s4, sm3.trans m4, p4⟩)
    · have ek : k = its.length := by omega
      subst ek
      exact .inl ⟨f3 rfl, n _ _ _ _ (g1.s.trans sm) s2 (last δ2 ik)⟩
end
end Dl
namespace Dl
open PySem PySem.Spec PyProof.Rows L2
section
variable {K : PySem.W.Frag} {B : Bt} {δ : List Sd} {P P' : D → Prop} {ta tb te : TE} {tt tu : TT} {O : Out} {X : Xc}
theorem wi_range1 {P : List D → Prop} {ta : TA} (h : WAx K B X ta δ fun ds => ∃ j : Int, ds = [.int j] ∧ -(2 ^ 62) ≤ j ∧ j < 2 ^ 62 ∧ P (upto 0 j.toNat)) : WIx K B X (iRng1 ta) δ P := fun G0 H0 σ G H R s xx q =>
  h G0 H0 σ G H _ s xx fun vs ds G1 H1 g1 o1 hs ⟨j, e, l1, l2, p⟩ => by
    subst e
    cases hs with
    | cons h t => cases t; cases h; exact ⟨j, rfl, l1, l2, q _ _ G1 H1 g1 o1 it_range p⟩
theorem wi_range2 {P : List D → Prop} {ta : TA} (h : WAx K B X ta δ fun ds => ∃ i j : Int, ds = [.int i, .int j] ∧ (-(2 ^ 62) ≤ i ∧ i < 2 ^ 62 ∧ -(2 ^ 62) ≤ j ∧ j < 2 ^ 62) ∧ P (upto i (j - i).toNat)) : WIx K B X (iRng2 ta) δ P := fun G0 H0 σ G H R s xx q =>
  h G0 H0 σ G H _ s xx fun vs ds G1 H1 g1 o1 hs ⟨i, j, e, l, p⟩ => by
    subst e
    cases hs with
    | cons h t =>
      cases t with
      | cons h2 t2 => cases t2; cases h; cases h2; exact ⟨i, j, rfl, l, q _ _ G1 H1 g1 o1 it_range p⟩
theorem wipe_set {σ : L2.St} {i : Nat} {v : V} : wipe ((wipe σ [i]).set i (some v)) [i] = wipe σ [i] := by
  show (((σ.set i none).set i (some v)).set i none) = σ.set i none
  rw [List.set_set, List.set_set]
/-- a comprehension of one clause over a name, by a word -/
theorem we_lc {wi : TI} {i : Nat} {te : TE} (h : WIx K B X wi δ fun its => its.length ≤ 1000 ∧ ∃ I : Nat → List D → Prop, I 0 [] ∧ (∀ k d acc, its[k]? = some d → I k acc → WT K B tt (δ.set i (.val d)) fun b => if b = true then WE K B te (δ.set i (.val d)) fun y => I (k + 1) (acc ++ [y]) else I (k + 1) acc) ∧ ∀ acc, I its.length acc → P (.lst acc)) :
    WEx K B X (tLc wi (gName i) tt te [i]) δ P := fun G0 H0 σ G H Q s xx q =>
  h G0 H0 σ G H _ s xx fun J its G1 H1 g1 o1 it ⟨hlen, I, i0, turn, last⟩ => by
    intro A hA
    have s1 := s.on g1 o1
    have q1 := q.on g1 o1
    have nAB := o1.neB hA
    have gA1 : G1 A = none := o1.fresh hA
    have nn : ∀ (a : Addr), H1 a ≠ none → a ≠ A := fun a h e => h (e ▸ hA)
    refine ⟨fun k m H => m = its.length - k ∧ k ≤ its.length ∧ ∃ G vs acc, Go B G1 H1 G H ∧ G A = none ∧ Ok B G H ∧ H A = some (.lst vs) ∧ Dds K B G vs acc ∧ acc.length ≤ k ∧ I k acc,
      ⟨_, rfl, Nat.zero_le _, G1, [], [], loose_go o1 hA, gA1, loose_ok o1 hA, upd_same, .nil, Nat.le_refl _, i0⟩, ?_⟩
    rintro k m H2 ⟨rfl, hk, G2, vs, acc, g2, gA, o2, hV, hD, hL, ik⟩
    obtain ⟨f1, f2, f3⟩ := it G2 H2 k g2.s o2
    have st : Stt K B G0 H0 G2 H2 σ δ := s1.on g2 o2
    by_cases hlt : k < its.length
    · refine .inr ⟨f1 hlt, fun H' => ∃ G vs acc, Go B G1 H1 G H' ∧ G A = none ∧ Ok B G H' ∧ H' A = some (.lst vs) ∧ Dds K B G vs acc ∧ acc.length ≤ k + 1 ∧ I (k + 1) acc,
        fun H' hN => ⟨its.length - (k + 1), by omega, rfl, hlt, hN⟩, fun x H3 y => ?_⟩
      obtain ⟨d, G3, e1, g3, o3, hd⟩ := f2 x H3 hlt y
      have s3 : Stt K B G0 H0 G3 H3 ((wipe σ [i]).set i (some x)) (δ.set i (.val d)) := by
        have z := ((st.on g3 o3).wipe1 i).setVal i hd
        rw [List.set_set (l := δ)] at z
        exact z
      have hV3 := g3.k A _ nAB nt_lst hV
      have gA3 := g3.n A _ nt_lst hV gA
      refine ⟨wipe_set, turn k d acc e1 ik G0 H0 _ G3 H3 _ s3 ctx0 fun b G4 H4 g4 o4 w => ?_⟩
      have hV4 := g4.k A _ nAB nt_lst hV3
      have gA4 := g4.n A _ nt_lst hV3 gA3
      have go4 : Go B G1 H1 G4 H4 := (g2.trans o2 g3).trans o3 g4
      have hD4 : Dds K B G4 vs acc := (hD.mono g3.s).mono g4.s
      cases b with
      | false => exact ⟨G4, vs, acc, go4, gA4, o4, hV4, hD4, Nat.le_succ_of_le hL, w⟩
      | true =>
        refine w G0 H0 _ G4 H4 _ (s3.on g4 o4) ctx0 fun y e G5 H5 g5 o5 hy w5 => ?_
        have hV5 := g5.k A _ nAB nt_lst hV4
        have gA5 := g5.n A _ nt_lst hV4 gA4
        have go5 : Go B G1 H1 G5 H5 := go4.trans o4 g5
        refine ⟨vs, hV5, Nat.lt_of_le_of_lt (by rw [hD.length]; omega : vs.length ≤ 1000) (by decide), G5, vs ++ [y], acc ++ [e], ?_, gA5, write_ok o5 hV5 gA5 nAB, upd_same, (hD4.mono g5.s).append (.cons hy .nil), by rw [List.length_append, List.length_singleton]; omega, w5⟩
        refine ⟨go5.s, fun a o nb ht h => ?_, go5.n, fun c r h => ?_⟩
        · rw [upd_ne (nn a (by rw [h]; exact fun z => nomatch z))]; exact go5.k a o nb ht h
        · obtain ⟨r', h'⟩ := go5.c c r h
          exact ⟨r', by rw [upd_ne nAB.symm]; exact h'⟩
    · have ek : k = its.length := by omega
      subst ek
      refine .inl ⟨f3 rfl, q1 (.ref A) (.lst acc) (upd G2 A (.lst vs)) H2 ⟨g2.s.trans (same_upd gA), g2.k, fun a o ht h g => ?_, g2.c⟩ (freeze_ok o2 nt_lst nAB gA hV) (.lst upd_same (hD.mono (same_upd gA))) (last acc ik)⟩
      rw [upd_ne (nn a (by rw [h]; exact fun z => nomatch z))]
      exact g2.n a o ht h g
theorem getElem_mem' {α : Type} {xs : List α} {k : Nat} {d : α} (h : xs[k]? = some d) : d ∈ xs := List.mem_of_getElem? h
/-- .. each item once, by a function -/
theorem we_lcmap {wi : TI} {i : Nat} {te : TE} (f : D → D) (h : WIx K B X wi δ fun its => its.length ≤ 1000 ∧ (∀ d, d ∈ its → WE K B te (δ.set i (.val d)) fun y => y = f d) ∧ P (.lst (its.map f))) : WEx K B X (tLc wi (gName i) tYes te [i]) δ P :=
  we_lc fun G0 H0 σ G H R s xx q => h G0 H0 σ G H R s xx fun J its G1 H1 g1 o1 it ⟨l, w, p⟩ => q J its G1 H1 g1 o1 it ⟨l, fun k acc => acc = (its.take k).map f, rfl, fun k d acc e ea => wt_yes (by
    show WE K B te _ _
    refine (w d (getElem_mem' e)).mono fun y ey => ?_
    show acc ++ [y] = (its.take (k + 1)).map f
    have ea' : acc = (its.take k).map f := ea
    rw [ey, ea', List.take_add_one, e, List.map_append]
    rfl), fun acc ea => by rw [ea, List.take_length]; exact p⟩
/-- .. each item by some answer with a property -/
theorem we_lcall {wi : TI} {i : Nat} {te : TE} (R : D → Prop) (h : WIx K B X wi δ fun its => its.length ≤ 1000 ∧ (∀ d, d ∈ its → WE K B te (δ.set i (.val d)) R) ∧ ∀ acc, acc.length = its.length → (∀ d ∈ acc, R d) → P (.lst acc)) : WEx K B X (tLc wi (gName i) tYes te [i]) δ P :=
  we_lc fun G0 H0 σ G H Rr s xx q => h G0 H0 σ G H Rr s xx fun J its G1 H1 g1 o1 it ⟨l, w, p⟩ => q J its G1 H1 g1 o1 it ⟨l, fun k acc => acc.length = k ∧ ∀ d ∈ acc, R d, ⟨rfl, fun _ z => nomatch z⟩, fun k d acc e ⟨el, ea⟩ => wt_yes (by
    show WE K B te _ _
    refine (w d (getElem_mem' e)).mono fun y ey => ⟨by rw [List.length_append, el]; rfl, fun z hz => ?_⟩
    rcases List.mem_append.mp hz with hz | hz
    · exact ea z hz
    · rw [List.mem_singleton.mp hz]; exact ey), fun acc ⟨el, ea⟩ => p acc el ea⟩
/-- a while loop by a word and a measure -/
theorem ws_while {t : TS} (I : Nat → List Sd → Prop) (h0 : ∃ m, I m δ) (h : ∀ m δ1, I m δ1 → WTx K B O.x tt δ1 fun b => if b = true then WS K B t δ1 { nx := fun δ2 => ∃ m', m' < m ∧ I m' δ2, rt := O.rt, bk := O.nx, ct := fun δ2 => ∃ m', m' < m ∧ I m' δ2, x := O.x, ro := O.ro } else O.nx δ1) : WS K B (tWhile tt t) δ O := fun G0 H0 σ G H E s xx n r b c => by
  obtain ⟨m0, i0⟩ := h0
  refine ⟨fun m σ H1 => ∃ G1 δ1, Stt K B G0 H0 G1 H1 σ δ1 ∧ Same G G1 ∧ I m δ1, ⟨m0, G, δ, s, Same.refl _, i0⟩, ?_⟩
  rintro m σ1 H1 ⟨G1, δ1, s1, sm, im⟩
  refine h m δ1 im G0 H0 σ1 G1 H1 _ s1 ((xx.on sm).ct s1) fun k G2 H2 g2 o2 w => ?_
  have s2 := s1.on g2 o2
  have sm2 := sm.trans g2.s
  cases k with
  | false => exact n _ _ _ _ sm2 s2 w
  | true =>
    refine ⟨fun σ' H' => ∃ m', m' < m ∧ ∃ G1 δ1, Stt K B G0 H0 G1 H' σ' δ1 ∧ Same G G1 ∧ I m' δ1, fun σ' H' ⟨m', hm, z⟩ => ⟨m', hm, z⟩, ?_⟩
    exact w G0 H0 σ1 G2 H2 _ s2 (xx.on sm2) (fun σ3 δ3 G3 H3 m3 s3 ⟨m', hm, z⟩ => ⟨m', hm, G3, δ3, s3, sm2.trans m3, z⟩) r (fun σ3 δ3 G3 H3 m3 s3 p => n _ _ _ _ (sm2.trans m3) s3 p) (fun σ3 δ3 G3 H3 m3 s3 ⟨m', hm, z⟩ => ⟨m', hm, G3, δ3, s3, sm2.trans m3, z⟩)
end

/-! ### defs -/
def init (N : List Str) (ds : List D) : List Sd := ds.map .val ++ List.replicate (N.length - ds.length) .no
section
variable {P : Program} {w : World} {K : PySem.W.Frag} {mg : Str → Option Value} {base : Heap}
theorem stt_start {B : Bt} {G H : Hp} {N : List Str} {vs : List V} {ds : List D} (o : Ok B G H) (h : Dds K B G vs ds) : Stt K B G H G H (L2.start N vs) (init N ds) := by
  have l := h.length
  refine ⟨Go.refl, o, ?_, fun i d e => ?_, fun i es e => ?_, fun i j es fs a e1 e2 e3 e4 => ?_⟩
  · unfold L2.start init
    simp only [List.length_append, List.length_map, List.length_replicate, l]
  · unfold init at e
    unfold L2.start
    rw [List.getElem?_append] at e ⊢
    rw [List.length_map] at e ⊢
    by_cases hi : i < ds.length
    · rw [if_pos hi, List.getElem?_map, List.getElem?_eq_getElem hi] at e
      obtain ⟨v, e1, e2⟩ := h.get (List.getElem?_eq_getElem hi)
      have e' : ds[i] = d := by simpa using e
      rw [if_pos (by omega), List.getElem?_map, e1]
      exact ⟨v, rfl, e' ▸ e2⟩
    · rw [if_neg hi, List.getElem?_replicate] at e
      split at e <;> cases e
  · unfold init at e
    rw [List.getElem?_append, List.length_map] at e
    by_cases hi : i < ds.length
    · rw [if_pos hi, List.getElem?_map, List.getElem?_eq_getElem hi] at e
      cases e
    · rw [if_neg hi, List.getElem?_replicate] at e
      split at e <;> cases e
  · unfold init at e1
    rw [List.getElem?_append, List.length_map] at e1
    by_cases hi : i < ds.length
    · rw [if_pos hi, List.getElem?_map, List.getElem?_eq_getElem hi] at e1
      cases e1
    · rw [if_neg hi, List.getElem?_replicate] at e1
      split at e1 <;> cases e1
/-- a def that may be called by its name -/
structure Cl (P : Program) (w : World) (K : PySem.W.Frag) (mg : Str → Option Value) (base : Heap) (k : Nat) (x : Str) (st : Stmt) (ps : List Str) (sp : Sp) : Prop where
  ex : ∃ (f : Addr) (fd : FuncData), Fun K x x st f fd ∧ FnOk P w K mg base CX0 k f fd ps sp ∧ mg x = some (.ref f) ∧ Binds K fd ps []
/-- .. by keywords alone -/
structure Ck (P : Program) (w : World) (K : PySem.W.Frag) (mg : Str → Option Value) (base : Heap) (k : Nat) (x : Str) (ks : List Str) (sp : Sp) (gV : List V → List V) : Prop where
  ex : ∃ (f : Addr) (fd : FuncData) (ps : List Str) (g : List Value → List Value), FnOk P w K mg base CX0 k f fd ps sp ∧ mg x = some (.ref f) ∧ PySem.W.keepIn K (.ref f) = true ∧ KBn K fd ps 0 ks (fun _ ws => g ws) (fun _ zs => gV zs)
/-- a def of the text as it stands behind the top -/
structure Df (K : PySem.W.Frag) (mg : Str → Option Value) (x : Str) (st : Stmt) : Prop where
  ex : ∃ (f : Addr) (fd : FuncData), Fun K x x st f fd ∧ mg x = some (.ref f)
theorem cl_of {x : Str} {st : Stmt} {N ps : List Str} {k : Nat} {pre : List D → Prop} {post : List D → D → Prop} (F : Df K mg x st) (S : FnScope N ps (defScope st))
    (hb : ∀ (kV doc pm : Value) (an : Option Addr) (cdv ct : Value) (us : List Value), us.length = ps.length → bindArgs (PySem.W.fnOf x x (defArgs st) (defBody st) (defScope st) .none kV doc pm an cdv ct) ⟨us, []⟩ = pure (ps.zip us))
    (hl : ∀ ds, pre ds → ds.length = ps.length)
    (h : ∀ (f : Addr) (cdv : Value) (A : Around) (outer : List Env) (s : Shared) (H : Hp) (E : XK), Room k (A.deeper (envOfC x (defScope st) s.heap.objs.size f cdv)) →
      ∃ t, PSs (cxOf CX0 P w K mg base N x (defScope st) f cdv A outer s H E).nox (defBody st) t ∧ ∀ B ds, pre ds → WS K B t (init N ds) { nx := fun _ => post ds .non, rt := post ds }) : Cl P w K mg base (k + 1) x st ps (SpD K pre post) := by
  obtain ⟨f, fd, F, hm⟩ := F.ex
  refine ⟨f, fd, F, F.ok S (fun vs H Q E hsp => ?_) (fun cdv A outer s H vs Q E hr hsp => ?_), hm, F.binds hb⟩
  · obtain ⟨B, G, ds, o, hs, p, q⟩ := hsp
    exact hs.length.trans (hl ds p)
  · obtain ⟨B, G, ds, o, hs, p, q⟩ := hsp
    obtain ⟨t, ht, ww⟩ := h f cdv A outer s H E hr
    exact ⟨t, ht, ww B ds p G H _ G H _ (stt_start o hs) xs0 (fun σ1 δ1 G1 H1 _ s1 z => q .non .non G1 H1 s1.go s1.ok .non z) ⟨fun v d G1 H1 g o1 hd z => q v d G1 H1 g o1 hd z, fun _ _ _ _ _ _ _ _ _ _ _ _ z => z.elim⟩ (fun _ _ _ _ _ _ z => z.elim) (fun _ _ _ _ _ _ z => z.elim)⟩
/-- .. a new list -/
theorem cln_of {x : Str} {st : Stmt} {N ps : List Str} {k : Nat} {pre : List D → Prop} {post : List D → List D → Prop} (F : Df K mg x st) (S : FnScope N ps (defScope st))
    (hb : ∀ (kV doc pm : Value) (an : Option Addr) (cdv ct : Value) (us : List Value), us.length = ps.length → bindArgs (PySem.W.fnOf x x (defArgs st) (defBody st) (defScope st) .none kV doc pm an cdv ct) ⟨us, []⟩ = pure (ps.zip us))
    (hl : ∀ ds, pre ds → ds.length = ps.length)
    (h : ∀ (f : Addr) (cdv : Value) (A : Around) (outer : List Env) (s : Shared) (H : Hp) (E : XK), Room k (A.deeper (envOfC x (defScope st) s.heap.objs.size f cdv)) →
      ∃ t, PSs (cxOf CX0 P w K mg base N x (defScope st) f cdv A outer s H E).nox (defBody st) t ∧ ∀ B ds, pre ds → WS K B t (init N ds) { nx := fun _ => False, rt := fun _ => False, ro := post ds }) : Cl P w K mg base (k + 1) x st ps (SpN K pre post) := by
  obtain ⟨f, fd, F, hm⟩ := F.ex
  refine ⟨f, fd, F, F.ok S (fun vs H Q E hsp => ?_) (fun cdv A outer s H vs Q E hr hsp => ?_), hm, F.binds hb⟩
  · obtain ⟨B, G, ds, o, hs, p, q⟩ := hsp
    exact hs.length.trans (hl ds p)
  · obtain ⟨B, G, ds, o, hs, p, q⟩ := hsp
    obtain ⟨t, ht, ww⟩ := h f cdv A outer s H E hr
    exact ⟨t, ht, ww B ds p G H _ G H _ (stt_start o hs) xs0 (fun σ1 δ1 G1 H1 _ s1 z => z.elim) ⟨fun v d G1 H1 g o1 hd z => z.elim, fun a vs es G1 H1 g o1 nb fr ga ha hd z => q a vs es G1 H1 g o1 nb fr ga ha hd z⟩ (fun _ _ _ _ _ _ z => z.elim) (fun _ _ _ _ _ _ z => z.elim)⟩
theorem Cl.imp {k : Nat} {x : Str} {st : Stmt} {ps : List Str} {sp sp' : Sp} (c : Cl P w K mg base k x st ps sp) (h : ∀ vs H Q E, sp' vs H Q E → sp vs H Q E) : Cl P w K mg base k x st ps sp' := by
  obtain ⟨f, fd, F0, F, r⟩ := c.ex
  exact ⟨f, fd, F0, F.imp h, r⟩
theorem Cl.frz {k : Nat} {x : Str} {st : Stmt} {ps : List Str} {pre : List D → Prop} {post : List D → List D → Prop} {post' : List D → D → Prop} (c : Cl P w K mg base k x st ps (SpN K pre post)) (h : ∀ ds es, post ds es → post' ds (.lst es)) : Cl P w K mg base k x st ps (SpD K pre post') :=
  c.imp fun vs H Q E ⟨B, G, ds, o, hs, p, q⟩ => ⟨B, G, ds, o, hs, p, fun a ws es G1 H1 g o1 nb fr ga ha hd z => q (.ref a) (.lst es) (upd G1 a (.lst ws)) H1 ⟨g.s.trans (same_upd ga), g.k, fun b u ht e hg => by
    rw [upd_ne (fun e2 => fr u ht (by rw [← e2]; exact e))]; exact g.n b u ht e hg, g.c⟩ (freeze_ok o1 nt_lst nb ga ha) (.lst upd_same (hd.mono (same_upd ga))) (h ds es z)⟩
theorem ck_of {x : Str} {st : Stmt} {k : Nat} {ps ks : List Str} {sp : Sp} {gV : List V → List V} (c : Cl P w K mg base k x st ps sp) (g : List Value → List Value)
    (hb : ∀ (kV doc pm : Value) (an : Option Addr) (cdv ct : Value) (ws : List Value), ws.length = ks.length → bindArgs (PySem.W.fnOf x x (defArgs st) (defBody st) (defScope st) .none kV doc pm an cdv ct) ⟨[], ks.zip ws⟩ = pure (ps.zip (g ws)))
    (hr : ∀ {zs : List V} {ws : List Value}, Vals zs ws → Vals (gV zs) (g ws)) : Ck P w K mg base k x ks sp gV := by
  obtain ⟨f, fd, F, G, hm, _⟩ := c.ex
  have kp := F.kp
  obtain ⟨oc, od, kV, doc, pm, an, cdv, ct, osl, rfl, lk, hcd⟩ := F.ex
  refine ⟨f, _, ps, g, G, hm, kp, ⟨fun s us ws _ l1 l2 => ?_, fun _ r => hr r⟩⟩
  have e : us = [] := List.length_eq_zero_iff.mp l1
  subst e
  exact .of_eq (hb kV doc pm an cdv ct ws l2)
end
section
variable {X : Cx} {k j : Nat} {x : Str} {st : Stmt} {ps ks : List Str} {sp : Sp} {p pos : Pos} {e : Expr} {es : List Expr} {t tk : TA} {kws : List Keyword} {gV : List V → List V}
theorem pe_c (c : Cl X.prog X.w X.K X.mg X.base k x st ps sp) (hr : Room j X.A) (hk : k ≤ j) (hg : Gl X x) (ha : PA X (e :: es) t)
    (hdb : (x == ("__debug__" : Str)) = false := by decide) (he : starEach (e :: es) X.env = (false, eval e X.env) :: starEach es X.env := by rfl) (hpl : (backTo pos (starEach es X.env)).any (·.1) = false := by rfl) :
    PE X (.Call (.Name x p) (e :: es) [] pos) (tCall sp [] E0 t) := by
  obtain ⟨f, fd, F0, F, hm, b⟩ := c.ex
  exact pe_call F (hr.mono hk) hg hm F0.kp b .nil pass0 ha hdb he hpl
theorem pe_c0 (c : Cl X.prog X.w X.K X.mg X.base k x st ps sp) (hr : Room j X.A) (hk : k ≤ j) (hg : Gl X x) (hdb : (x == ("__debug__" : Str)) = false := by decide) :
    PE X (.Call (.Name x p) [] [] pos) (tCall sp [] E0 tNil) := by
  obtain ⟨f, fd, F0, F, hm, b⟩ := c.ex
  exact pe_call0 F (hr.mono hk) hg hm F0.kp b .nil pass0 hdb
/-- f(k = v, ..) -/
def tCk (m : Nat) (sp : Sp) (gV : List V → List V) (tk : TA) : TE := fun σ H Q => tk σ H fun zs H2 => zs.length = m ∧ sp (gV zs) H2 Q E0
theorem pe_ck (c : Ck X.prog X.w X.K X.mg X.base k x ks sp gV) (hr : Room j X.A) (hk : k ≤ j) (hg : Gl X x) (hkw : PK X kws tk)
    (hall : (backToKw pos (keywordEach kws X.env)).all (·.1.isSome) = true := by rfl) (hks : (backToKw pos (keywordEach kws X.env)).filterMap (·.1) = ks := by rfl) (hdb : (x == ("__debug__" : Str)) = false := by decide)
    (hpl : ((backTo pos (starEach [] X.env)).any (·.1) || (backToKw pos (keywordEach kws X.env)).any (·.1.isNone)) = false := by rfl) :
    PE X (.Call (.Name x p) [] kws pos) (tCk ks.length sp gV tk) := by
  obtain ⟨f, fd, ps, g, F, hm, kp, b⟩ := c.ex
  refine ⟨fun pins s σ H Q I h => ?_⟩
  refine wpAny_Call_Name_kw (ld_glob I hg hm ?_ hdb)
  refine PySem.W.callWith_KW0 (h₀ := X.base) I.ok.mod.kin kp hall ?_ hpl
  refine thn (hkw.run pos pins s σ H _ I h) fun ws s2 ⟨zs, H2, I2, rz, l2, q2⟩ => ⟨I2.kIn, ?_⟩
  rw [hks]
  exact run_fnN F (hr.mono hk) b pass0 I2 .nil rz rfl l2 q2
end
section
variable {K : PySem.W.Frag} {B : Bt} {δ : List Sd} {P : D → Prop} {X : Xc}
theorem we_ck {pre : List D → Prop} {post : List D → D → Prop} {m : Nat} {gV : List V → List V} {gD : List D → List D} {tk : TA} (hg : ∀ G vs ds, Dds K B G vs ds → Dds K B G (gV vs) (gD ds)) (h : WAx K B X tk δ fun ds => ds.length = m ∧ pre (gD ds) ∧ ∀ d, post (gD ds) d → P d) : WEx K B X (tCk m (SpD K pre post) gV tk) δ P := fun G0 H0 σ G H Q s xx q =>
  h G0 H0 σ G H _ s xx fun vs ds G1 H1 g1 o1 hs ⟨l, p, mm⟩ =>
    ⟨hs.length.trans l, B, G1, gD ds, o1, hg _ _ _ hs, p, fun v d G2 H2 g2 o2 hd pd => (q.on g1 o1) v d G2 H2 g2 o2 hd (mm d pd)⟩
end
end Dl
namespace Dl
open PySem PySem.Spec PyProof.Rows L2
section
variable {K : PySem.W.Frag} {B : Bt} {P : D → Prop} {a : D}
def isInt : D → Bool | .int _ => true | .bl _ => true | _ => false
def isBool : D → Bool | .bl _ => true | _ => false
def isStr : D → Bool | .str _ => true | _ => false
def isTup : D → Bool | .tup _ => true | _ => false
def isLst : D → Bool | .lst _ => true | .box => true | _ => false
def isDic : D → Bool | .dic _ _ => true | _ => false
theorem rc_int (nc : a.isCls = false) (p : P (.bl (isInt a))) : RC K B (rIsi K) [a, .cls "int"] P := by
  cases a <;> first | (exact Bool.noConfusion nc) | exact rc_isi rfl (by dsimp only [D.tyn, isInt, isBool, isStr, isTup, isLst, isDic]; decide +kernel) p
theorem rc_bool (nc : a.isCls = false) (p : P (.bl (isBool a))) : RC K B (rIsi K) [a, .cls "bool"] P := by
  cases a <;> first | (exact Bool.noConfusion nc) | exact rc_isi rfl (by dsimp only [D.tyn, isInt, isBool, isStr, isTup, isLst, isDic]; decide +kernel) p
theorem rc_str (nc : a.isCls = false) (p : P (.bl (isStr a))) : RC K B (rIsi K) [a, .cls "str"] P := by
  cases a <;> first | (exact Bool.noConfusion nc) | exact rc_isi rfl (by dsimp only [D.tyn, isInt, isBool, isStr, isTup, isLst, isDic]; decide +kernel) p
theorem rc_tuple (nc : a.isCls = false) (p : P (.bl (isTup a))) : RC K B (rIsi K) [a, .cls "tuple"] P := by
  cases a <;> first | (exact Bool.noConfusion nc) | exact rc_isi rfl (by dsimp only [D.tyn, isInt, isBool, isStr, isTup, isLst, isDic]; decide +kernel) p
theorem rc_list (nc : a.isCls = false) (p : P (.bl (isLst a))) : RC K B (rIsi K) [a, .cls "list"] P := by
  cases a <;> first | (exact Bool.noConfusion nc) | exact rc_isi rfl (by dsimp only [D.tyn, isInt, isBool, isStr, isTup, isLst, isDic]; decide +kernel) p
theorem rc_dict (nc : a.isCls = false) (p : P (.bl (isDic a))) : RC K B (rIsi K) [a, .cls "dict"] P := by
  cases a <;> first | (exact Bool.noConfusion nc) | exact rc_isi rfl (by dsimp only [D.tyn, isInt, isBool, isStr, isTup, isLst, isDic]; decide +kernel) p
theorem rc_lt (nc : a.isCls = false) (p : P (.bl (isLst a || isTup a))) : RC K B (zIsi2 K) [a, .tup [.cls "list", .cls "tuple"]] P := by
  cases a <;> first | (exact Bool.noConfusion nc) | exact rc_isi2 rfl (by dsimp only [D.tyn, isLst, isTup]; decide +kernel) (by dsimp only [D.tyn, isLst, isTup]; decide +kernel) p
theorem rc_allf {f : D → Bool} {xs : List D} (p : P (.bl (xs.all f))) : RC K B (rAll K) [.lst (xs.map fun d => .bl (f d))] P := by
  have e : (xs.map fun d => D.bl (f d)) = (xs.map f).map D.bl := by rw [List.map_map]; rfl
  rw [e]
  refine rc_all ?_
  rw [List.all_map]
  exact p
theorem ro_inC {c : Nat} {z : Str} (p : P (.bl (decide (c ∈ z.cps.toList)))) : RO K B (fun x y H Q => ∃ (c : Nat) (z : Str), x = .str ⟨#[c]⟩ ∧ y = .str z ∧ Q (.bl (decide (c ∈ z.cps.toList))) H) (.str ⟨#[c]⟩) (.str z) P := fun _ _ _ _ _ o hx hy q => by
  cases hx; cases hy
  exact ⟨c, z, rfl, rfl, q.nil o (.bl _) p⟩
variable {δ : List Sd} {X : Xc}
theorem we_callF {pre : List D → Prop} {F : List D → D} {E : XK} {t : TA} (h : WAx K B X t δ fun ds => pre ds ∧ P (F ds)) : WEx K B X (tCall (SpD K pre fun ds r => r = F ds) [] E t) δ P := we_call fun G0 H0 σ G H Q s xx q => h G0 H0 σ G H Q s xx fun vs ds G1 H1 g o hs ⟨a, b⟩ => q vs ds G1 H1 g o hs ⟨a, fun _ e => e ▸ b⟩
def p1 (q : D → Prop) : List D → Prop | [d] => q d | _ => False
def p2 (q : D → D → Prop) : List D → Prop | [a, b] => q a b | _ => False
def p3 (q : D → D → D → Prop) : List D → Prop | [a, b, c] => q a b c | _ => False
def f1 (f : D → D) : List D → D | [d] => f d | _ => .non
def f2 (f : D → D → D) : List D → D | [a, b] => f a b | _ => .non
def f3 (f : D → D → D → D) : List D → D | [a, b, c] => f a b c | _ => .non
theorem p1_len {q : D → Prop} : ∀ ds, p1 q ds → ds.length = 1 | [_], _ => rfl
theorem p2_len {q : D → D → Prop} : ∀ ds, p2 q ds → ds.length = 2 | [_, _], _ => rfl
theorem p3_len {q : D → D → D → Prop} : ∀ ds, p3 q ds → ds.length = 3 | [_, _, _], _ => rfl
theorem p1_ex {q : D → Prop} : ∀ {ds}, p1 q ds → ∃ d, ds = [d] ∧ q d | [d], h => ⟨d, rfl, h⟩
theorem p2_ex {q : D → D → Prop} : ∀ {ds}, p2 q ds → ∃ a b, ds = [a, b] ∧ q a b | [a, b], h => ⟨a, b, rfl, h⟩
theorem p3_ex {q : D → D → D → Prop} : ∀ {ds}, p3 q ds → ∃ a b c, ds = [a, b, c] ∧ q a b c | [a, b, c], h => ⟨a, b, c, rfl, h⟩
end
end Dl
/-! Local lists that are changed: a slot of the kind own. -/
namespace Dl
open PySem L2
section
variable {K : PySem.W.Frag} {B : Bt} {G G1 H H1 G0 H0 : Hp} {σ : L2.St} {δ : List Sd} {P : D → Prop} {ta tb te : TE} {O : Out} {X : Xc}
theorem own_set (i j : Nat) (x : Sd) (δ : List Sd) {ds : List D} (h : (δ.set i x)[j]? = some (.own ds)) : (i = j ∧ x = .own ds ∧ i < δ.length) ∨ (i ≠ j ∧ δ[j]? = some (.own ds)) := by
  rw [List.getElem?_set] at h
  by_cases ij : i = j
  · rw [if_pos ij] at h
    split at h
    · rename_i hl
      exact .inl ⟨ij, Option.some.inj h, by omega⟩
    · cases h
  · rw [if_neg ij] at h
    exact .inr ⟨ij, h⟩
/-- a new list in a slot -/
theorem Stt.setOwn {p : Addr} {vs : List V} {ds : List D} (s : Stt K B G0 H0 G H σ δ) (i : Nat) (hp : H p = none) (h0 : ∀ o, nt o → H0 p ≠ some o) (hd : Dds K B G vs ds) : Stt K B G0 H0 G (upd H p (.lst vs)) (σ.set i (some (.ref p))) (δ.set i (.own ds)) := by
  have nb := s.ok.neB hp
  have s2 := s.on (loose_go s.ok (x := .lst vs) hp) (loose_ok s.ok hp)
  have old : ∀ (j : Nat) es a, δ[j]? = some (.own es) → σ[j]? = some (some (.ref a)) → a ≠ p := fun j es a h1 h2 e => by
    obtain ⟨b, ws, e1, _, _, _, e2, _⟩ := s.own j es h1
    rw [h2] at e1
    cases e1
    rw [e, hp] at e2
    cases e2
  refine ⟨s2.go, s2.ok, by rw [List.length_set, List.length_set, s.len], fun j d h => ?_, fun j es h => ?_, fun j l es fs a h1 h2 h3 h4 => ?_⟩
  · rw [List.getElem?_set] at h
    by_cases ij : i = j
    · rw [if_pos ij] at h; split at h <;> cases h
    · rw [if_neg ij] at h
      obtain ⟨v, e1, e2⟩ := s.val j d h
      exact ⟨v, by rw [List.getElem?_set, if_neg ij]; exact e1, e2⟩
  · rcases own_set i j _ δ h with ⟨ij, e, hl⟩ | ⟨ij, e⟩
    · cases e
      exact ⟨p, vs, by rw [List.getElem?_set, if_pos ij, if_pos (by rw [s.len]; omega)], nb, h0, s.ok.fresh hp, upd_same, hd⟩
    · obtain ⟨a, ws, e1, e2⟩ := s2.own j es e
      exact ⟨a, ws, by rw [List.getElem?_set, if_neg ij]; exact e1, e2⟩
  · rw [List.getElem?_set] at h3 h4
    rcases own_set i j _ δ h1 with ⟨ij, _, _⟩ | ⟨ij, e1⟩
    · rcases own_set i l _ δ h2 with ⟨il, _, _⟩ | ⟨il, e2⟩
      · exact ij.symm.trans il
      · rw [if_pos ij] at h3
        rw [if_neg il] at h4
        split at h3
        · cases h3; exact absurd rfl (old l fs _ e2 h4)
        · cases h3
    · rcases own_set i l _ δ h2 with ⟨il, _, _⟩ | ⟨il, e2⟩
      · rw [if_pos il] at h4
        rw [if_neg ij] at h3
        split at h4
        · cases h4; exact absurd rfl (old j es _ e1 h3)
        · cases h4
      · rw [if_neg ij] at h3
        rw [if_neg il] at h4
        exact s.apart j l es fs a e1 e2 h3 h4
theorem ws_setOwn {i : Nat} {t : TA} (h : WAx K B O.x t δ fun ds => ds.length ≤ 1000 ∧ O.nx (δ.set i (.own ds))) : WS K B (tAsg (tLst t) (gName i)) δ O := fun G0 H0 σ G H E s xx n _ _ _ =>
  h G0 H0 σ G H _ s (xx.ct s) fun vs ds G1 H1 g o hs ⟨l, p⟩ => ⟨by rw [hs.length]; exact sz1000 l, fun a ha => by
    have s1 := s.on g o
    have h0 : ∀ u, nt u → H0 a ≠ some u := fun u ht q => by
      by_cases e : a = B.a
      · exact absurd ha (e ▸ o.hb)
      · rw [s1.go.k a u e ht q] at ha; cases ha
    exact n _ _ G1 _ g.s (s1.setOwn i ha h0 hs) p⟩
/-- len, an item, a slice of it -/
theorem we_ownLen {i : Nat} {ds : List D} (h : δ[i]? = some (.own ds)) (p : P (.int (ds.length : Int))) : WEx K B X (tCB (fun xs H Q => ∃ x n, xs = [x] ∧ LenV K x H n ∧ Q (.int n) H) (tCons (tVar i) tNil)) δ P := fun _ _ _ _ _ _ s _ q => by
  obtain ⟨a, vs, e1, _, _, _, e2, e3⟩ := s.own i ds h
  refine ⟨_, e1, _, _, rfl, .inl ⟨_, SqL.of e2, rfl⟩, ?_⟩
  rw [e3.length]
  exact q.nil s.ok (.int _) p
theorem we_ownIx {i : Nat} {ds : List D} (h : δ[i]? = some (.own ds)) (hb : WEx K B X tb δ fun d => ∃ j x, d = .int j ∧ atI ds j = some x ∧ P x) : WEx K B X (tOp (rIxL K) (tVar i) tb) δ P := fun G0 H0 σ G H Q s xx q => by
  obtain ⟨a, vs, e1, nb, _, _, e2, e3⟩ := s.own i ds h
  refine ⟨_, e1, hb G0 H0 σ G H _ s xx fun y d G1 H1 g1 o1 hy ⟨j, x, ed, ea, p⟩ => ?_⟩
  subst ed
  cases hy
  obtain ⟨v, h1, h2⟩ := atI_dd (e3.mono g1.s) ea
  exact ⟨a, vs, j, v, rfl, rfl, SqL.of (g1.k a _ nb nt_lst e2), h1, (q.on g1 o1).nil o1 h2 p⟩
theorem we_ownSl {i : Nat} {ds : List D} {tl th : TO} (h : δ[i]? = some (.own ds)) (hb : WOx K B X tl δ fun lo => WOx K B X th δ fun hi => P (.lst (cutD ds lo hi))) : WEx K B X (tSl (rSlL K) (tVar i) tl th) δ P := fun G0 H0 σ G H Q s xx q => by
  obtain ⟨a, vs, e1, nb, _, _, e2, e3⟩ := s.own i ds h
  refine ⟨_, e1, hb G0 H0 σ G H _ s xx fun lo G1 H1 g1 o1 w => w G0 H0 σ G1 H1 _ (s.on g1 o1) (xx.on g1 o1) fun hi G2 H2 g2 o2 p => ?_⟩
  have g := g1.trans o1 g2
  exact ⟨a, vs, rfl, SqL.of (g.k a _ nb nt_lst e2), fun r hr => (q.on g o2).new o2 nt_lst hr (.lst upd_same ((cutV_dd (e3.mono g.s)).mono (same_upd (o2.fresh hr)))) p⟩
/-- it is handed back -/
theorem ws_retOwn {i : Nat} {ds : List D} (h : δ[i]? = some (.own ds)) (p : O.ro ds) : WS K B (tRet (tVar i)) δ O := fun G0 H0 σ G H E s _ _ r _ _ => by
  obtain ⟨a, vs, e1, nb, e0, eg, e2, e3⟩ := s.own i ds h
  exact ⟨_, e1, r.2 a vs ds G H s.go s.ok nb e0 eg e2 e3 p⟩
/-- .. as a value -/
theorem ws_retOwnV {i : Nat} {ds : List D} (h : δ[i]? = some (.own ds)) (p : O.rt (.lst ds)) : WS K B (tRet (tVar i)) δ O := fun G0 H0 σ G H E s _ _ r _ _ => by
  obtain ⟨a, vs, e1, nb, e0, eg, e2, e3⟩ := s.own i ds h
  refine ⟨_, e1, r.1 (.ref a) (.lst ds) (upd G a (.lst vs)) H ⟨s.go.s.trans (same_upd eg), s.go.k, fun x u ht hx hg => ?_, s.go.c⟩ (freeze_ok s.ok nt_lst nb eg e2) (.lst upd_same (e3.mono (same_upd eg))) p⟩
  have ne : x ≠ a := fun e => e0 u ht (e ▸ hx)
  rw [upd_ne ne]
  exact s.go.n x u ht hx hg
/-- x = f(..), f handing back a new list -/
theorem Stt.tookOwn {a : Addr} {vs : List V} {ds : List D} (s : Stt K B G0 H0 G H σ δ) (i : Nat) (nb : a ≠ B.a) (h0 : ∀ o, nt o → H0 a ≠ some o) (ga : G a = none) (ha : H a = some (.lst vs)) (hd : Dds K B G vs ds) (old : ∀ (j : Nat) es b, δ[j]? = some (.own es) → σ[j]? = some (some (.ref b)) → b ≠ a) : Stt K B G0 H0 G H (σ.set i (some (.ref a))) (δ.set i (.own ds)) := by
  refine ⟨s.go, s.ok, by rw [List.length_set, List.length_set, s.len], fun j d h => ?_, fun j es h => ?_, fun j l es fs b h1 h2 h3 h4 => ?_⟩
  · rw [List.getElem?_set] at h
    by_cases ij : i = j
    · rw [if_pos ij] at h; split at h <;> cases h
    · rw [if_neg ij] at h
      obtain ⟨v, e1, e2⟩ := s.val j d h
      exact ⟨v, by rw [List.getElem?_set, if_neg ij]; exact e1, e2⟩
  · rcases own_set i j _ δ h with ⟨ij, e, hl⟩ | ⟨ij, e⟩
    · cases e
      exact ⟨a, vs, by rw [List.getElem?_set, if_pos ij, if_pos (by rw [s.len]; omega)], nb, h0, ga, ha, hd⟩
    · obtain ⟨b, ws, e1, e2⟩ := s.own j es e
      exact ⟨b, ws, by rw [List.getElem?_set, if_neg ij]; exact e1, e2⟩
  · rw [List.getElem?_set] at h3 h4
    rcases own_set i j _ δ h1 with ⟨ij, _, _⟩ | ⟨ij, e1⟩
    · rcases own_set i l _ δ h2 with ⟨il, _, _⟩ | ⟨il, e2⟩
      · exact ij.symm.trans il
      · rw [if_pos ij] at h3
        rw [if_neg il] at h4
        split at h3
        · cases h3; exact absurd rfl (old l fs _ e2 h4)
        · cases h3
    · rcases own_set i l _ δ h2 with ⟨il, _, _⟩ | ⟨il, e2⟩
      · rw [if_pos il] at h4
        rw [if_neg ij] at h3
        split at h4
        · cases h4; exact absurd rfl (old j es _ e1 h3)
        · cases h4
      · rw [if_neg ij] at h3
        rw [if_neg il] at h4
        exact s.apart j l es fs b e1 e2 h3 h4
theorem ws_setN {i : Nat} {pre : List D → Prop} {post : List D → List D → Prop} {E : XK} {t : TA} (h : WAx K B O.x t δ fun ds => pre ds ∧ ∀ es, post ds es → O.nx (δ.set i (.own es))) : WS K B (tAsg (tCall (SpN K pre post) [] E t) (gName i)) δ O := fun G0 H0 σ G H E' s xx n _ _ _ =>
  h G0 H0 σ G H _ s (xx.ct s) fun vs ds G1 H1 g1 o1 hs ⟨p, m⟩ => by
    rw [List.append_nil]
    refine ⟨B, G1, ds, o1, hs, p, fun a ws es G2 H2 g2 o2 nb fr ga ha hd pe => ?_⟩
    have s1 := s.on g1 o1
    have s2 := s1.on g2 o2
    have fr0 : ∀ o, nt o → H0 a ≠ some o := fun o ht e => fr o ht (s1.go.k a o nb ht e)
    refine n _ _ G2 H2 (g1.s.trans g2.s) (s2.tookOwn i nb fr0 ga ha hd fun j fs b e1 e2 eb => ?_) (m es pe)
    obtain ⟨b', us, f1, f2, f3, f4, f5, f6⟩ := s1.own j fs e1
    rw [e2] at f1
    cases f1
    exact fr _ nt_lst (eb ▸ f5)
/-- it is written anew -/
theorem Stt.putOwn {i : Nat} {a : Addr} {vs vs' : List V} {ds ds' : List D} (s : Stt K B G0 H0 G H σ δ) (h : δ[i]? = some (.own ds)) (ha : σ[i]? = some (some (.ref a))) (hd : Dds K B G vs' ds') : Stt K B G0 H0 G (upd H a (.lst vs')) σ (δ.set i (.own ds')) := by
  obtain ⟨a', ws, e1, nb, e0, eg, e2, e3⟩ := s.own i ds h
  rw [ha] at e1
  cases e1
  have hl : i < δ.length := (List.getElem?_eq_some_iff.mp h).1
  refine ⟨⟨s.go.s, fun x u ne ht e => ?_, s.go.n, fun c r e => ?_⟩, write_ok s.ok e2 eg nb, by rw [List.length_set]; exact s.len, fun j d e => ?_, fun j es e => ?_, fun j l es fs x h1 h2 h3 h4 => ?_⟩
  · rw [upd_ne (fun q => e0 u ht (by rw [← q]; exact e))]
    exact s.go.k x u ne ht e
  · rw [upd_ne nb.symm]
    exact s.go.c c r e
  · rw [List.getElem?_set] at e
    by_cases ij : i = j
    · rw [if_pos ij] at e; split at e <;> cases e
    · rw [if_neg ij] at e
      exact s.val j d e
  · rcases own_set i j _ δ e with ⟨ij, e', _⟩ | ⟨ij, e'⟩
    · cases e'
      exact ⟨a, vs', by rw [← ij]; exact ha, nb, e0, eg, upd_same, hd⟩
    · obtain ⟨b, us, f1, f2, f3, f4, f5, f6⟩ := s.own j es e'
      have nba : b ≠ a := fun eb => ij (s.apart i j ds es a h e' ha (eb ▸ f1))
      exact ⟨b, us, f1, f2, f3, f4, by rw [upd_ne nba]; exact f5, f6⟩
  · rcases own_set i j _ δ h1 with ⟨ij, _, _⟩ | ⟨ij, e1⟩
    · rcases own_set i l _ δ h2 with ⟨il, _, _⟩ | ⟨il, e2'⟩
      · exact ij.symm.trans il
      · rw [← ij] at h3 ⊢
        exact s.apart i l ds fs x h e2' h3 h4
    · rcases own_set i l _ δ h2 with ⟨il, _, _⟩ | ⟨il, e2'⟩
      · rw [← il] at h4 ⊢
        exact s.apart j i es ds x e1 h h3 h4
      · exact s.apart j l es fs x e1 e2' h3 h4
theorem ws_append {i : Nat} {ds : List D} {T : String} (hT : T = "list") (h : δ[i]? = some (.own ds)) (l : ds.length < 1000) (he : WEx K B O.x te δ fun d => O.nx (δ.set i (.own (ds ++ [d])))) : WS K B (tDrop (tBM K T rAppend (tVar i) (tCons te tNil))) δ O := fun G0 H0 σ G H E s xx n _ _ _ => by
  obtain ⟨a, vs, e1, nb, e0, eg, e2, e3⟩ := s.own i ds h
  refine ⟨_, e1, .inl ⟨hT, _, SqL.of e2⟩, he G0 H0 σ G H _ s (xx.ct s) fun v d G1 H1 g o hd p => ?_⟩
  have s1 := s.on g o
  have h1 := g.k a _ nb nt_lst e2
  refine ⟨a, vs, v, rfl, rfl, h1, Nat.lt_of_le_of_lt (by rw [e3.length]; omega : vs.length ≤ 1000) (by decide), ?_⟩
  exact n _ _ G1 _ g.s (s1.putOwn h e1 ((e3.mono g.s).append (.cons hd .nil)) (vs := vs)) p
theorem ws_insert {i : Nat} {ds : List D} {T : String} (hT : T = "list") (h : δ[i]? = some (.own ds)) (l : ds.length < 1000) (ha : WEx K B O.x ta δ fun d => ∃ j : Nat, d = .int (j : Int) ∧ j ≤ 1000 ∧ WEx K B O.x te δ fun x => O.nx (δ.set i (.own (ds.take j ++ [x] ++ ds.drop j)))) :
    WS K B (tDrop (tBM K T (fun x vs H Q => ∃ (l : Addr) (xs : List V) (i : Int) (y : V), x = .ref l ∧ vs = [.int i, y] ∧ H l = some (.lst xs) ∧ xs.length < sizeLine ∧ 0 ≤ i ∧ i < 2 ^ 63 ∧ Q .non (upd H l (.lst (xs.take i.toNat ++ [y] ++ xs.drop i.toNat)))) (tVar i) (tCons ta (tCons te tNil)))) δ O := fun G0 H0 σ G H E s xx n _ _ _ => by
  obtain ⟨a, vs, e1, nb, e0, eg, e2, e3⟩ := s.own i ds h
  refine ⟨_, e1, .inl ⟨hT, _, SqL.of e2⟩, ha G0 H0 σ G H _ s (xx.ct s) fun v d G1 H1 g1 o1 hd ⟨j, ej, hj, w⟩ => ?_⟩
  subst ej
  cases hd
  refine w G0 H0 σ G1 H1 _ (s.on g1 o1) ((xx.ct s).on g1 o1) fun y x G2 H2 g2 o2 hy p => ?_
  have g := g1.trans o1 g2
  have s2 := s.on g o2
  refine ⟨a, vs, (j : Int), y, rfl, rfl, g.k a _ nb nt_lst e2, Nat.lt_of_le_of_lt (by rw [e3.length]; omega : vs.length ≤ 1000) (by decide), by omega, by omega, ?_⟩
  have ed := e3.mono g.s
  have hn := s2.putOwn h e1 (((ed.take j).append (.cons hy .nil)).append (ed.drop j)) (vs := vs)
  rw [Int.toNat_natCast]
  exact n _ _ G2 _ g.s hn p
/-- a frozen list is let go: back to what is not frozen -/
theorem melt {a : Addr} {vs : List V} (o1 : Ok B G H) (nb : a ≠ B.a) (eg : G a = none) (e2 : H a = some (.lst vs)) (g2 : Go B (upd G a (.lst vs)) H G1 H1) (o2 : Ok B G1 H1) : ∃ G3, Go B G H G3 H1 ∧ Ok B G3 H1 := by
  have sf : Same G (upd G a (.lst vs)) := same_upd eg
  let G3 : Hp := fun x => if x = a then none else G1 x
  have sub : Same G3 G1 := fun x u e => by
    by_cases ex : x = a
    · have e' : (if x = a then none else G1 x) = some u := e
      rw [if_pos ex] at e'; cases e'
    · have e' : (if x = a then none else G1 x) = some u := e
      rw [if_neg ex] at e'; exact e'
  have at3 : ∀ x, x ≠ a → G3 x = G1 x := fun x ex => if_neg ex
  refine ⟨G3, ⟨fun x u e => ?_, g2.k, fun x u ht hx hg => ?_, g2.c⟩, ⟨sub.trans o2.u, by rw [at3 B.a nb.symm]; exact o2.b, ?_, o2.t, fun x u e => o2.f x u (sub x u e)⟩⟩
  · rw [at3 x (ne_of_none e eg)]; exact g2.s x u (sf x u e)
  · by_cases ex : x = a
    · exact if_pos ex
    · rw [at3 x ex]; exact g2.n x u ht hx (by rw [upd_ne ex]; exact hg)
  · obtain ⟨c, cells, p, r, m, n, hB, hc, w⟩ := o2.x
    obtain ⟨c1, cells1, p1, r1, m1, n1, hB1, hc1, _⟩ := o1.x
    obtain ⟨r', hB'⟩ := g2.c c1 _ hB1
    rw [hB] at hB'
    have ec : c = c1 := by
      have := HO.lst.inj (Option.some.inj hB')
      exact V.ref.inj (List.cons.inj this).1
    have nca : c ≠ a := by rw [ec]; exact ne_of_none hc1 eg
    exact ⟨c, cells, p, r, m, n, hB, by rw [at3 c nca]; exact hc, w⟩
theorem dd_flat {v : V} {d : D} (hv : v = d.v) (hf : d.flat = true) : Dd K B G v d := by
  rw [hv]
  cases d <;> first | exact .non | exact .bl _ | exact .int _ | exact .str _ | cases hf
/-- it is handed to a def that answers by something flat -/
theorem we_callOwn {i : Nat} {ds : List D} {pre : List D → Prop} {post : List D → D → Prop} {E : XK} {tr : TA} (h : δ[i]? = some (.own ds)) (hr : WAx K B X tr δ fun es => pre (.lst ds :: es) ∧ ∀ d, post (.lst ds :: es) d → d.flat = true ∧ P d) : WEx K B X (tCall (SpD K pre post) [] E (tCons (tVar i) tr)) δ P := fun G0 H0 σ G H Q s xx q => by
  obtain ⟨a, vs, e1, nb, e0, eg, e2, e3⟩ := s.own i ds h
  refine ⟨_, e1, hr G0 H0 σ G H _ s xx fun ws es G1 H1 g1 o1 hs ⟨hp, hq⟩ => ?_⟩
  have h1 : H1 a = some (.lst vs) := g1.k a _ nb nt_lst e2
  have hg1 : G1 a = none := g1.n a _ nt_lst e2 eg
  have sf : Same G1 (upd G1 a (.lst vs)) := same_upd hg1
  show SpD K pre post ((V.ref a :: ws) ++ []) H1 Q E
  rw [List.append_nil]
  refine ⟨B, upd G1 a (.lst vs), .lst ds :: es, freeze_ok o1 nt_lst nb hg1 h1, .cons (.lst upd_same ((e3.mono g1.s).mono sf)) (hs.mono sf), hp, fun v d G2 H2 g2 o2 hd pd => ?_⟩
  obtain ⟨hf, hP⟩ := hq d pd
  obtain ⟨G3, go3, ok3⟩ := melt o1 nb hg1 h1 g2 o2
  exact (q.on g1 o1) v d G3 H2 go3 ok3 (dd_flat (hd.flat hf) hf) hP
end
end Dl
/-! Dr: an expression that only reads a local list: the list is frozen for as long as the expression runs. -/
namespace Dl
open PySem L2
section
variable {K : PySem.W.Frag} {B : Bt} {G H : Hp} {δ : List Sd} {P : D → Prop} {te : TE} {X : Xc}
theorem Stt.frz {G0 H0 : Hp} {σ : L2.St} {i : Nat} {ds : List D} {a : Addr} {vs : List V} (s : Stt K B G0 H0 G H σ δ) (h : δ[i]? = some (.own ds)) (e1 : σ[i]? = some (some (.ref a))) (nb : a ≠ B.a) (e0 : ∀ o, nt o → H0 a ≠ some o) (eg : G a = none) (e2 : H a = some (.lst vs)) (e3 : Dds K B G vs ds) : Stt K B G0 H0 (upd G a (.lst vs)) H σ (δ.set i (.val (.lst ds))) := by
  have sf : Same G (upd G a (.lst vs)) := same_upd eg
  have off : ∀ (j : Nat) es, (δ.set i (.val (.lst ds)))[j]? = some (.own es) → i ≠ j ∧ δ[j]? = some (.own es) := fun j es hj => by
    rw [List.getElem?_set] at hj
    by_cases ij : i = j
    · rw [if_pos ij] at hj
      split at hj <;> cases hj
    · rw [if_neg ij] at hj
      exact ⟨ij, hj⟩
  refine ⟨⟨s.go.s.trans sf, s.go.k, fun x u ht hx hg => ?_, s.go.c⟩, freeze_ok s.ok nt_lst nb eg e2, by rw [List.length_set, s.len], fun j d hj => ?_, fun j es hj => ?_, fun j l ds1 es1 b h1 h2 h3 h4 => ?_⟩
  · have ne : x ≠ a := fun e => e0 u ht (e ▸ hx)
    rw [upd_ne ne]
    exact s.go.n x u ht hx hg
  · rw [List.getElem?_set] at hj
    by_cases ij : i = j
    · rw [if_pos ij] at hj
      split at hj
      · cases hj
        exact ⟨_, ij ▸ e1, .lst upd_same (e3.mono sf)⟩
      · cases hj
    · rw [if_neg ij] at hj
      obtain ⟨v, q1, q2⟩ := s.val j d hj
      exact ⟨v, q1, q2.mono sf⟩
  · obtain ⟨ij, hj⟩ := off j es hj
    obtain ⟨b, ws, q1, q2, q3, q4, q5, q6⟩ := s.own j es hj
    have ne : b ≠ a := fun e => ij (s.apart i j ds es a h hj e1 (e ▸ q1))
    exact ⟨b, ws, q1, q2, q3, by rw [upd_ne ne]; exact q4, q5, q6.mono sf⟩
  · exact s.apart j l ds1 es1 b (off j _ h1).2 (off l _ h2).2 h3 h4
theorem we_frz {i : Nat} {ds : List D} (h : δ[i]? = some (.own ds)) (w : WE K B te (δ.set i (.val (.lst ds))) fun d => d.flat = true ∧ P d) : WEx K B X te δ P := fun G0 H0 σ G H Q s xx q => by
  obtain ⟨a, vs, e1, nb, e0, eg, e2, e3⟩ := s.own i ds h
  refine w G0 H0 σ _ H _ (s.frz h e1 nb e0 eg e2 e3) ctx0 fun v d G2 H2 g2 o2 hd ⟨hf, hP⟩ => ?_
  obtain ⟨G3, go3, ok3⟩ := melt s.ok nb eg e2 g2 o2
  exact q v d G3 H2 go3 ok3 (dd_flat (hd.flat hf) hf) hP
theorem wt_frz {tt : TT} {P : Bool → Prop} {i : Nat} {ds : List D} (h : δ[i]? = some (.own ds)) (w : WT K B tt (δ.set i (.val (.lst ds))) P) : WTx K B X tt δ P := fun G0 H0 σ G H Q s xx q => by
  obtain ⟨a, vs, e1, nb, e0, eg, e2, e3⟩ := s.own i ds h
  refine w G0 H0 σ _ H _ (s.frz h e1 nb e0 eg e2 e3) ctx0 fun b G2 H2 g2 o2 hP => ?_
  obtain ⟨G3, go3, ok3⟩ := melt s.ok nb eg e2 g2 o2
  exact q b G3 H2 go3 ok3 hP
end
end Dl
/-! == of two values: scalars, or dicts of flat values -/
namespace Dl
open PySem L2
def rEqU : R2 := fun x y H Q => rEq x y H Q ∨ rEqDA x y H Q
theorem op_eqU {X : Cx} (hu : X.A.units < cLine) : OpR X (compareOp .Eq) rEqU := by
  intro pins s σ H x y v u Q I rx ry h
  rcases h with h | h
  · exact op_eq pins s σ H x y v u Q I rx ry h
  · exact op_eq_dictA hu pins s σ H x y v u Q I rx ry h
theorem u0 {k : Nat} {A : Around} (hr : Room k A) : A.units < cLine := by have := hr.un; omega
end Dl
namespace Dl
open PySem PySem.Spec PyProof.Rows L2 HT
section
variable {prog : Program} {w : World} {A : Around} {E : Value → Shared → Prop} {s : Shared}
theorem sliceApplied_rev2 {sl : Addr} {tk : Tok} {Q : Int × Int × Nat → Shared → Prop} (hs : s.heap.IsSliceOf sl .none .none (.int (-1) tk))
    (h : Q (1, -1, 2) s) : wpAny (model prog w) A (Builtin.Slice.sliceApplied (.ref sl) (pure ((2 : Nat) : Int))) Q E s := by
  obtain ⟨os, hos, hcs, hds⟩ := id hs
  unfold Builtin.Slice.sliceApplied Builtin.Slice.sliceFields
  refine wpAny_bind (wpAny_bind (wpAny_field hos hds (x := .none) rfl (wpAny_bind (wpAny_field hos hds (x := .none) rfl (wpAny_bind (wpAny_field hos hds (x := .int (-1) tk) rfl (wpAny_pure ?_)))))))
  refine wpAny_bind (slicePart_int ?_)
  show wpAny _ _ (if ((-1 : Int) == 0) = true then _ else _) _ _ s
  rw [if_neg (by decide)]
  refine wpAny_bind (slicePart_none (wpAny_bind (slicePart_none (wpAny_bind (wpAny_pure ?_)))))
  exact wpAny_pure h
theorem getItem_tuple_rev2 {t sl : Addr} {a b : Value} {tk : Tok} {Q : Value → Shared → Prop} (ht : IsTup s.heap t #[a, b]) (hs : s.heap.IsSliceOf sl .none .none (.int (-1) tk))
    (h : Q (.ref s.heap.objs.size) { s with heap := s.heap.push { cls := .type "tuple", data := .seq #[b, a] } }) : wpAny (model prog w) A (getItem (.ref t) (.ref sl)) Q E s := by
  have htake : sizeOk (.seq #[b, a]) := by
    show 2 ≤ sizeLine
    decide
  obtain ⟨os, hos, hcs, hds⟩ := id hs
  have hTs : s.TypeIs (.ref sl) "slice" := ⟨os, hos, hcs⟩
  unfold getItem
  try with_reducible refine wpAny_holding ?_
  first | refine wpAny_bind (wpAny_pure ?_) | skip
  refine wpAny_bind (wpAny_sequenceKey ht.typeIs (by decide) ?_)
  refine wpAny_bind (wpAny_callSpecial?_slot (name := Str.ofString "__getitem__") ht.typeIs PyProof.Rows.slot_tuple_getitem
    (wpAny_call_entry PyProof.Rows.slot_tuple_getitem ht.typeIs entry_tuple_getitem ?_ (args_tuple_getitem _ _)))
  show wpAny _ _ (Builtin.Tuple.tupleItemsOf (.ref t) >>= _) _ _ s
  refine wpAny_bind (tupleItemsOf_ ht ?_)
  refine wpAny_bind (wpAny_typeOf hTs ?_)
  rw [if_pos (by decide)]
  refine wpAny_bind (sliceApplied_rev2 hs ?_)
  show wpAny _ _ (if ((1 : Int) == 0 && (-1 : Int) == 1 && (2 : Nat) == 2) = true then _ else _) _ _ s
  rw [if_neg (by decide)]
  have e : ((List.range 2).filterMap fun (m : Nat) => (#[a, b] : Array Value)[((1 : Int) + (m : Int) * -1).toNat]?).toArray = #[b, a] := rfl
  rw [e]
  first
    | exact wpAny_bind (m := Builtin.Tuple.tupleExact _) (wpAny_newObj_type (wpAny_pure ⟨_, rfl, wpAny_pure h⟩) htake)
    | exact wpAny_bind (m := Builtin.Tuple.tupleExact _) (wpAny_newObj_type (wpAny_bind (wpAny_pure (wpAny_pure ⟨_, rfl, wpAny_pure h⟩))) htake)
    | exact wpAny_bind (wpAny_bind (m := Builtin.Tuple.tupleExact _) (wpAny_newObj_type (wpAny_pure (wpAny_pure ⟨_, rfl, wpAny_pure h⟩)) htake))
    | exact wpAny_bind (wpAny_bind (m := Builtin.Tuple.tupleExact _) (wpAny_newObj_type (wpAny_pure ⟨_, rfl, wpAny_pure h⟩) htake))
end
section
variable {X : Cx}
/-- t[::-1] of a pair -/
def tRev2 (K : PySem.W.Frag) (te : TE) : TE := fun σ H Q => te σ H fun x H1 => ∃ a u v, x = .ref a ∧ SqT K H1 a [u, v] ∧ NewT Q H1 [v, u]
theorem pe_revT {e : Expr} {te : TE} {k : Nat} {p1 p2 p3 pos : Pos} (he : PE X e te) : PE X (.Subscript e (.Slice none none (some (.UnaryOp .USub (.Constant (.int 1) k p1) p2)) p3) pos) (tRev2 X.K te) := by
  refine ⟨fun pins s σ H Q I h => ?_⟩
  refine Subscript_ (thn (he.run pins s σ H _ I h) fun v s1 ⟨x, H1, I1, r1, q1⟩ => ?_)
  obtain ⟨a, u, z, ex, hx, q⟩ := q1
  subst ex
  cases r1
  have hst : PO X (some (.UnaryOp .USub (.Constant (.int 1) k p1) p2)) (tPart (tUn (rU fun i => .int (-i)) (tC (.int 1)))) := po_some (pe_un un_neg pe_int)
  refine wpAny_Slice (thn (po_none.run pins s1 σ H1 (fun o H2 => o = none ∧ H2 = H1) I1 ⟨rfl, rfl⟩) fun vl s2 ⟨l, H2, I2, pl, el, e2⟩ => ?_)
  subst el e2
  refine thn (po_none.run pins s2 σ H2 (fun o H3 => o = none ∧ H3 = H2) I2 ⟨rfl, rfl⟩) fun vu s3 ⟨u', H3, I3, pu, eu, e3⟩ => ?_
  subst eu e3
  refine thn (hst.run pins s3 σ H3 (fun o H4 => o = some (-1) ∧ H4 = H3) I3 ⟨1, rfl, -1, rfl, rfl, rfl⟩) fun vs s4 ⟨o, H4, I4, ps, eo, e4⟩ => ?_
  subst eo e4
  have I5 : Inv X pins σ H4 { s4 with heap := s4.heap.push { cls := .type "slice", data := .fields #[vl, vu, vs] } } := I4.kept (t' := s4.toks) fun b ob q => Heap.get?_push_of_some _ q
  obtain ⟨its, r, ht, hz⟩ := I5.tuple hx
  obtain ⟨w1, w2, rfl, rw1, rw2⟩ := vals2 r
  cases pl
  cases pu
  cases ps with
  | int _ tk =>
    show wpAny (model X.prog X.w) X.A (subscriptTail e (.Slice none none (some (.UnaryOp .USub (.Constant (.int 1) k p1) p2)) p3) (.ref a) (.ref s4.heap.objs.size)) (EP X pins σ Q) X.xe { s4 with heap := s4.heap.push { cls := .type "slice", data := .fields #[.none, .none, .int (-1) tk] } }
    refine tail_any (ops := [.ref a, .ref s4.heap.objs.size]) ht.typeIs (PyProof.Rows.slot_tuple_getitem.lookup) ?_ (by with_unfolding_all rfl)
    refine getItem_tuple_rev2 ht (Heap.IsSliceOf.new _ _ _ _) ?_
    exact newT_ep (its := [w2, w1]) I5 (.cons rw2 (.cons rw1 .nil)) (by show 2 ≤ sizeLine; decide) q
/-- list(text) -/
theorem call_list_str (hc : X.calm = true) : CallR X (.type "list") (fun xs H Q => ∃ z, xs = [.str z] ∧ z.length ≤ sizeLine ∧ ∀ l, H l = none → Q (.ref l) (upd H l (.lst (z.cps.toList.map fun c => .str ⟨#[c]⟩)))) := by
  intro pins s σ H xs us Q I r h
  obtain ⟨z, rfl, hz, q⟩ := h
  obtain ⟨u, rfl, rx⟩ := vals1 r
  obtain ⟨t, rfl⟩ := rx
  refine PySem.call_list_str (I.ok.hd hc) z t (fun h' tk acc c' kp e it => ?_) hz
  obtain ⟨h1, h2⟩ := it
  have hv : Vals (z.cps.toList.map fun c => V.str ⟨#[c]⟩) acc.toList := by
    refine vals_of_idx _ _ (by rw [List.length_map, Array.length_toList, Array.length_toList, h1]) fun j u hu => ?_
    rw [Array.getElem?_toList] at hu
    obtain ⟨c, tk', e1, rfl⟩ := h2 j u hu
    exact ⟨.str ⟨#[c]⟩, by rw [List.getElem?_map, Array.getElem?_toList, e1]; rfl, tk', rfl⟩
  refine ⟨.ref s.heap.objs.size, _, I.laid (t' := tk) (o := .lst (z.cps.toList.map fun c => V.str ⟨#[c]⟩)) kp (Nat.le_refl _) ?_, rfl, q _ (I.hok.fresh (Nat.le_refl _))⟩
  exact ⟨by rw [List.length_map, Array.length_toList]; exact hz, acc.toList, c', hv, by rw [Array.toArray_toList]; exact e⟩
end
section
variable {K : PySem.W.Frag} {B : Bt} {δ : List Sd} {P : D → Prop} {te : TE} {Xe : Xc}
theorem we_rev2 (h : WEx K B Xe te δ fun d => ∃ a b, d = .tup [a, b] ∧ P (.tup [b, a])) : WEx K B Xe (tRev2 K te) δ P := fun G0 H0 σ G H Q s xx q =>
  h G0 H0 σ G H _ s xx fun x d G1 H1 g1 o1 hx ⟨a, b, e, p⟩ => by
    subst e
    cases hx with
    | tup hg t =>
      cases t with
      | cons h1 t =>
        cases t with
        | cons h2 t =>
          cases t
          exact ⟨_, _, _, rfl, SqT.ofZ (o1.u _ _ hg.1), fun r ob hr hd => (q.on g1 o1).new o1 nt_tup hr (.tup ⟨upd_same, hd⟩ (.cons (h2.mono (same_upd (o1.fresh hr))) (.cons (h1.mono (same_upd (o1.fresh hr))) .nil))) p⟩
theorem dds_signs {G : Hp} : ∀ cs : List Nat, Dds K B G (cs.map fun c => V.str ⟨#[c]⟩) (cs.map fun c => D.str ⟨#[c]⟩)
  | [] => .nil
  | c :: r => .cons (.str _) (dds_signs r)
theorem rc_listS {z : Str} (l : z.length ≤ 1000) (p : P (.lst (Dl.signs z))) : RC K B (fun xs H Q => ∃ z, xs = [.str z] ∧ z.length ≤ sizeLine ∧ ∀ l, H l = none → Q (.ref l) (upd H l (.lst (z.cps.toList.map fun c => .str ⟨#[c]⟩)))) [.str z] P := fun _ _ _ _ o hs q => by
  cases hs with
  | cons h t =>
    cases t
    cases h
    exact ⟨z, rfl, sz1000 l, fun a ha => q.new o nt_lst ha (.lst upd_same (dds_signs _)) p⟩
end
end Dl
/-! Tx: a caught exception as an object of the heap: try .. except (A, B) as n; its fields; a def that it is handed to. -/
namespace Dl
open PySem PySem.Spec PyProof.Rows L2
theorem xo_ok {P : Program} {w : World} {H : Hp} {h : Heap} {a C d : Addr} {oe : Obj} {vs : Array Value} (he : h.get? a = some oe) (hc : oe.cls = .ref C) (hd : oe.dict = some d) (hv : oe.data = .fields vs) : ObjOk P w H h a (xo a C d) :=
  ⟨⟨oe, vs, he, hc, hd, hv⟩, ⟨oe, he⟩, fun _ _ ⟨o, v, q, r⟩ k => ⟨o, v, k o q, r⟩⟩
theorem xo_nt {a C d : Addr} : nt (xo a C d) := fun ps z => by
  unfold xo at z
  cases z
theorem xd_nt {fs : List (Str × V)} : nt (.xd fs) := fun ps z => nomatch z
theorem xo_at {P : Program} {w : World} {H : Hp} {h : Heap} {a C d : Addr} (hok : HOk P w H h) (e : H a = some (xo a C d)) : ∃ (oe : Obj) (vs : Array Value), h.get? a = some oe ∧ oe.cls = .ref C ∧ oe.dict = some d ∧ oe.data = .fields vs := by
  have x : ObjOk P w H h a (.ext fun h => ∃ (oe : Obj) (vs : Array Value), h.get? a = some oe ∧ oe.cls = .ref C ∧ oe.dict = some d ∧ oe.data = .fields vs) := hok a _ e
  exact x.1
section
variable {X : Cx} {pins : List (Addr × Obj)} {σ : L2.St} {H : Hp} {s : Shared}
/-- an object that came behind the entry is tracked from now on -/
theorem Inv_track {a C d : Addr} {oe : Obj} {vs : Array Value} (I : Inv X pins σ H s) (na : H a = none) (he : s.heap.get? a = some oe) (hc : oe.cls = .ref C) (hd : oe.dict = some d) (hv : oe.data = .fields vs)
    (n0 : X.s_0.heap.get? a = none) (nL : a ≠ X.env.locals) (nP : ∀ p ∈ X.pn ++ pins, p.1 ≠ a) (nC : ∀ x c, X.env.cells.lookup x = some c → c ≠ a) : Inv X pins σ (upd H a (xo a C d)) s := by
  have ne0 : ∀ b o, X.s_0.heap.get? b = some o → b ≠ a := fun b o e z => by rw [z, n0] at e; cases e
  have sm : ∀ b u, H b = some u → b ≠ a := fun b u e => ne_of_none e na
  refine ⟨I.ok, I.os, I.bare, ⟨fun b o e n => ?_, fun b o e n => ?_, fun b o e n hx => ?_, I.base.there, fun b xs e => ?_, fun b o u e => ?_, fun b ps e => ?_⟩, I.loc, I.cell, ?_, fun x c e => ?_, fun p hp => ?_, fun b u e => ?_, I.len⟩
  · exact I.base.keep b o e n
  · exact I.base.slot b o e n
  · rw [upd_ne (ne0 b o e)]; exact I.base.free b o e n hx
  · have z := I.base.tups b xs e
    rw [upd_ne (sm b _ z)]; exact z
  · have z := I.base.frzs b o u e
    rw [upd_ne (sm b _ z)]; exact z
  · obtain ⟨m, z⟩ := I.base.tbls b ps e
    exact ⟨m, by rw [upd_ne (sm b _ z)]; exact z⟩
  · rw [upd_ne (Ne.symm nL)]; exact I.free
  · rw [upd_ne (nC x c e)]; exact I.freeC x c e
  · obtain ⟨h1, h2, h3, h4, h5⟩ := I.pin p hp
    exact ⟨h1, by rw [upd_ne (nP p hp)]; exact h2, h3, h4, h5⟩
  · by_cases hb : b = a
    · rw [hb, upd_same] at e
      cases e
      rw [hb]
      exact xo_ok he hc hd hv
    · rw [upd_ne hb] at e
      exact (I.hok b u e).stay (fun c v _ q => q) (fun c q => by rw [upd_ne (sm c _ q)]; exact q) fun c xs q => by rw [upd_ne (sm c _ q)]; exact q
theorem flyZ_keeps {B : Heap} {l : List Env} {a : Addr} {Z : Obj → Prop} {h h' : Heap} (fl : HandSPX.FlyingZ B l a Z h) (k : ∀ b o, h.get? b = some o → h'.get? b = some o) : HandSPX.FlyingZ B l a Z h' := by
  obtain ⟨f1, f2, f3, oe, vs, T, oT, ts, he, hz, hd, h1, hn, hne, hT, hdT, h3⟩ := fl
  exact ⟨fun b o q => k b o (f1 b o q), f2, f3.of_keeps fun b o q _ => ⟨o, k b o q, rfl⟩, oe, vs, T, oT, ts, k _ _ he, hz, hd, h1, hn, hne, k _ _ hT, hdT, h3⟩
theorem Inv_suite0 (I : Inv X pins σ H s) (a : Addr) : Inv (X.suite a (X.pn ++ pins)) [] σ H s :=
  ⟨I.ok.suite _ _, I.os, I.bare, I.base, I.loc, I.cell, I.free, I.freeC, fun p hp => I.pin p (by rw [List.append_nil] at hp; exact hp), I.hok, I.len⟩
theorem Inv_unsuite0 {a : Addr} {pn' : List (Addr × Obj)} (I : Inv (X.suite a (X.pn ++ pins)) pn' σ H s) (ok : X.Ok) : Inv X pins σ H s :=
  ⟨ok, I.os, I.bare, I.base, I.loc, I.cell, I.free, I.freeC, fun p hp => I.pin p (List.mem_append_left _ hp), I.hok, I.len⟩
end
/-- what the clause 'except (c1, c2) as n' wishes -/
def wTup (K : PySem.W.Frag) (c1 c2 : Value) (i : Nat) (ts : TS) (Wout : WX) (D : Ends) : WX := fun cls d σ H =>
  ∃ b, PySem.W.exmAny K cls [c1, c2] = some b ∧ (b = true → ∃ C dd, cls = .ref C ∧ d = some dd ∧ ∀ a, H a = none → ts { nx := fun σ' H' => D.nx (σ'.set i none) H', rt := D.rt, bk := fun σ' H' => D.bk (σ'.set i none) H', ct := fun σ' H' => D.ct (σ'.set i none) H' } (σ.set i (some (.ref a))) (upd H a (xo a C dd))) ∧
    (b = false → Wout cls d σ H)
section
variable {X : Cx} {x1 x2 n : Str} {c1 c2 : Value} {i kk : Nat} {body suite : List Stmt} {b₀ : Stmt} {np1 np2 tpos pos pos' : Pos} {tb : WX → TS} {ts : TS} {Wout : WX}
theorem ps_try_tup (hs : X.stack = X.env :: X.outer) (hf : X.env.frame = some X.env.locals) (hex : X.ex = []) (hN : X.N.Nodup) (hi : X.N[i]? = some n) (hln : X.env.kindOf n = some .local) (hc1 : Names X x1 c1) (hc2 : Names X x2 c2) (tk : Takes X Wout)
    (hb : ∀ (W : WX) (pn : List (Addr × Obj)) (xe : Value → Shared → Prop), Takes (X.tr pn xe) W → PassesOwn (model X.prog X.w) X.A X.env xe → PSs (X.tr pn xe) body (tb W))
    (hsu : ∀ (a : Addr) (pn : List (Addr × Obj)), PSs (X.suite a pn) (b₀ :: suite) ts) :
    PS X (.Try body [.ExceptHandler (some (.Tuple [.Name x1 np1, .Name x2 np2] kk tpos)) (some n) (b₀ :: suite) pos'] [] [] pos) (fun D σ H => tb (wTup X.K c1 c2 i ts Wout D) D σ H) := by
  refine ⟨fun pins s σ H D I h => ?_⟩
  have ok := I.ok
  have hfr : X.A.frames = some (X.env :: X.outer) := by rw [ok.frames, hs]
  have hloc : Loc X.env.scope n := .inl hln
  refine wpAny_Try_except ?_
  refine wpAny_mono ((hb (wTup X.K c1 c2 i ts Wout D) (X.pn ++ pins) (fun e s₁ => wpAny (model X.prog X.w) X.A (noteFrame e X.env) (fun _ s₂ => wpAny (model X.prog X.w) X.A (setFlight e none) (fun _ s₃ =>
    wpAny (model X.prog X.w) X.A (handleBy e X.env [.ExceptHandler (some (.Tuple [.Name x1 np1, .Name x2 np2] kk tpos)) (some n) (b₀ :: suite) pos']) (SP X pins D) X.xe s₃) X.xe s₂) X.xe s₁) (fun u s' xx => ?_) PassesOwn.looking).run [] s σ H D (I.toTry _) h) (fun f s1 hsp => ?_) (fun e s1 he => he)
  · -- the catch
    obtain ⟨a, B, sI, pins', σ', H', cls, d, rfl, J', nb, up, sky, na, os, ag, b, hb1, hyes, hno⟩ := xx
    have J : Inv X pins σ' H' sI := J'.ofTry ok
    have sky' : Sky B (X.env :: X.outer) a (Zc cls d) X.env.locals s'.heap := by rw [← hs]; exact sky
    show wpAny (model X.prog X.w) X.A (noteFrame (.ref a) X.env) _ _ _
    refine Sky.land Zc.steady hfr hf sky' fun h3 fl3 up3 => ?_
    have J3 : Inv X pins σ' H' { s' with heap := h3 } := J.landed nb fl3.1 (up.trans up3) os ag
    obtain ⟨oe3, vs3, he3, hz3, hd3⟩ := fl3.there
    have notFr : ∀ {h : Heap} {o : Obj} {vs : Array Value}, h.FunFrames B (X.env :: X.outer) → h.get? a = some o → o.data = .fields vs → a ∉ frs (X.env :: X.outer) := fun {h o vs} ff e dd hm => by
      obtain ⟨_, o', e', hnf⟩ := ff.mem hm
      rw [e] at e'; cases e'
      exact hnf _ dd
    have nfr := notFr fl3.2.2.1 he3 hd3
    have nL : a ≠ X.env.locals := fun z => nfr (List.mem_filterMap.mpr ⟨X.env, List.mem_cons_self, by rw [hf, z]⟩)
    -- it came behind the entry
    have nI : ∀ b o, sI.heap.get? b = some o → b ≠ a := fun b o e z => by
      have q := nb b o e (by rw [z, hs]; exact nfr)
      rw [z, fl3.2.1] at q; cases q
    have n0 : X.s_0.heap.get? a = none := by
      cases e : X.s_0.heap.get? a with
      | none => rfl
      | some o =>
        obtain ⟨o', q⟩ := J.base.there a o e (by rw [hex]; exact fun z => nomatch z)
        exact absurd rfl (nI a o' q)
    have nP : ∀ p ∈ X.pn ++ pins, p.1 ≠ a := fun p hp => nI p.1 p.2 (J.pin p hp).1
    have nC : ∀ x c, X.env.cells.lookup x = some c → c ≠ a := fun x c e => by
      obtain ⟨v, o, ho, _⟩ := J.cell x c e
      exact nI c o ho
    have S3 := Inv_suite0 J3 a
    refine wpAny_handleBy_cons (codeAny_handlers_test ?_) (by intro q; cases q)
    have nm : ∀ {x : Str} {c : Value} {np : Pos} {h' : Heap} {t' : Nat} {Q : Value → Shared → Prop} {E : Value → Shared → Prop}, Names X x c → Q c { s' with heap := h3 } → wpAny (model X.prog X.w) (X.A.mark (some (.ref a))) (eval (.Name x np) X.env) Q E { s' with heap := h3 } := fun {x c np h' t' Q E} hc q => by
      obtain ⟨hg, hdbg, hm | ⟨hm, hv, hnn⟩⟩ := hc
      · exact ld_glob (X := X.suite a (X.pn ++ pins)) S3 hg hm q hdbg
      · exact ld_blt (X := X.suite a (X.pn ++ pins)) S3 hg hm hv q hnn hdbg
    refine wpAny_Tuple ?_
    refine wpAny_items_cons (nm (h' := h3) (t' := 0) hc1 ?_)
    refine wpAny_items_cons (nm (h' := h3) (t' := 0) hc2 ?_)
    refine wpAny_items_nil ⟨by size_fits, ?_⟩
    have kp : ∀ q o, h3.get? q = some o → (h3.push { cls := .type "tuple", data := .seq [c1, c2].toArray }).get? q = some o := fun _ _ z => Heap.get?_push_of_some _ z
    have LT : PySem.W.Looks (model X.prog X.w) h3 (typeOf (.ref a)) cls := fun A Q E s k q => wpAny_typeOf_ref (k _ _ he3) (by rw [hz3.1]; exact q)
    refine (PySem.W.exm_tup2 (J3.kIn.keeps kp) (LT.keeps kp) (Heap.get?_push_size h3 rfl) hb1).here ?_
    have fl5 := flyZ_keeps fl3 kp
    have up5 : s'.heap.UpToSlots (h3.push { cls := .type "tuple", data := .seq [c1, c2].toArray }) := up3.trans (Heap.UpToSlots.of_keeps kp)
    cases b with
    | true =>
      obtain ⟨C, dd, eC, ed, hy2⟩ := hyes rfl
      subst eC ed
      refine codeAny_handlers_suite_as ?_
      refine HandSPX.lands_againZ fl5 fun h4 fl4 up4 => ?_
      have J4 : Inv X pins σ' H' { s' with heap := h4 } := J.landed nb fl4.1 ((up.trans up5).trans up4) os ag
      obtain ⟨oe4, vs4, he4, hz4, hd4⟩ := fl4.there
      have J5 := Inv_track J4 na he4 hz4.1 hz4.2 hd4 n0 nL nP nC
      have S4 := Inv_suite0 J5 a
      refine store_ok (X := X.suite a (X.pn ++ pins)) (v := .ref a) S4 hN hi hloc rfl (fun s5 S5 => ?_) (.inr hln)
      refine wpAny_mono ((hsu a (X.pn ++ pins)).run [] s5 _ _ _ S5 (hy2 a na)) (fun f s6 hsp => ?_) (fun _ _ z => False.elim z)
      have end_ : ∀ {σ6 : L2.St} {H6 : Hp} {Q : Shared → Prop}, Inv (X.suite a (X.pn ++ pins)) [] σ6 H6 s6 → (∀ s7, Inv X pins (σ6.set i none) H6 s7 → Q s7) →
          wpAny (model X.prog X.w) X.A (do bindName X.env n .none; unbindBehindTheSuite X.env n pos') (fun _ s7 => Q s7) X.xe s6 := fun {σ6 H6 Q} S6 hq => gone_ok (Inv_unsuite0 S6 ok) hN hi hln hq
      cases f with
      | next =>
        obtain ⟨σ6, H6, S6, q6⟩ := hsp
        exact end_ S6 fun s7 J7 => ⟨_, _, J7, q6⟩
      | brk =>
        obtain ⟨σ6, H6, S6, q6⟩ := hsp
        exact end_ S6 fun s7 J7 => ⟨_, _, J7, q6⟩
      | cont =>
        obtain ⟨σ6, H6, S6, q6⟩ := hsp
        exact end_ S6 fun s7 J7 => ⟨_, _, J7, q6⟩
      | ret u =>
        obtain ⟨v6, σ6, H6, S6, r6, q6⟩ := hsp
        exact end_ S6 fun s7 J7 => ⟨_, _, _, J7, r6, q6⟩
    | false =>
      show wpAny _ X.A (handleBy (.ref a) X.env []) _ _ _
      refine wpAny_handleBy_nil ?_
      obtain ⟨k1, k2, k3, oe, vs, T, oT, ts', he, hz, hd, h1, hr⟩ := id fl5
      unfold PySem.passOn
      refine wpAny_bind (wpAny_field he hd h1 ?_)
      rw [if_neg (show ¬ ((Value.ref T == Value.none) = true) from by simp)]
      have fin : wpAny (model X.prog X.w) X.A (setFlight (.ref a) X.env.frame) (fun _ s4 => wpAny (model X.prog X.w) X.A (throw (.ref a) : Sem Flow) (SP X pins D) X.xe s4) X.xe { s' with heap := h3.push { cls := .type "tuple", data := .seq [c1, c2].toArray } } := by
        rw [hf]
        refine HandSPX.setFlight_upZ fl5 fun h4 hh4 up4 => wpAny_throw (tk _ _ ?_)
        exact ⟨a, B, sI, pins, σ', H', cls, d, rfl, J, nb, (up.trans up5).trans up4, .inr (.inr (by rw [hs]; exact hh4)), na, os, ag, hno rfl⟩
      first
        | exact wpAny_bind (wpAny_pure (wpAny_bind fin))
        | exact wpAny_bind fin
  · cases f with
    | next =>
      obtain ⟨σ', H', J', q⟩ := hsp
      exact wpAny_execs_nil ⟨σ', H', J'.ofTry ok, q⟩
    | brk =>
      obtain ⟨σ', H', J', q⟩ := hsp
      exact ⟨σ', H', J'.ofTry ok, q⟩
    | cont =>
      obtain ⟨σ', H', J', q⟩ := hsp
      exact ⟨σ', H', J'.ofTry ok, q⟩
    | ret u =>
      obtain ⟨v, σ', H', J', r, q⟩ := hsp
      exact ⟨v, σ', H', J'.ofTry ok, r, q⟩
end
/-! ### its fields -/
/-- e.f of an exception that is tracked -/
def tXv (K : PySem.W.Frag) (f : Str) (te : TE) : TE := fun σ H Q => te σ H fun x H1 => ∃ (a C d : Addr) (fs : List (Str × V)) (v : V), x = .ref a ∧ H1 a = some (xo a C d) ∧ H1 d = some (.xd fs) ∧ fs.lookup f = some v ∧ XfC K C ∧ PySem.W.findIn K (.ref C) f = some none ∧ Q v H1
theorem pe_xv {X : Cx} {e : Expr} {te : TE} {pos : Pos} {n : Str} (he : PE X e te) (hb : attributeBase e n X.env (eval e X.env) = eval e X.env := by rfl) : PE X (.Attribute e n pos) (tXv X.K n te) := by
  refine ⟨fun pins s σ H Q I h => ?_⟩
  refine attr_of hb (thn (he.run pins s σ H _ I h) fun u s1 hh => ?_)
  obtain ⟨x, H1, I1, rx, a, C, d, fs, v, ex, ea, ed, l, T, hno, q⟩ := hh
  subst ex
  obtain rfl : u = Value.ref a := rx
  obtain ⟨oe, vs, ha, hc, hd, hf⟩ := xo_at I1.hok ea
  have hx : ObjOk X.prog X.w H1 s1.heap d (.xd fs) := I1.hok d _ ed
  obtain ⟨mA, hns, hr⟩ := hx
  obtain ⟨od, ho, hl⟩ := lookIn_ns hns
  obtain ⟨u, hu, ru⟩ := RelO.some_of (v := v) (o := mA n) (by rw [← l]; exact hr n)
  have J : PySem.W.InstAt s1.heap a oe C (some od) := ⟨ha, hc, by unfold PySem.W.notCls; rw [hf] <;> rfl, by rw [hd]; exact ho⟩
  exact HandSPX.exc_get I1.kIn J T.ga T.gg T.exC (PySem.W.findObj_own T.hdC hno rfl (by rw [hl, hu])) (handed_of ru) ⟨v, H1, I1.tok _, ru, q⟩
end Dl
/-! Ty: a def that is called while an exception is handled, and raises nothing. -/
namespace Dl
open PySem PySem.Spec PyProof.Rows L2
open L2H (RoomH roomH_of)
structure FnT (P : Program) (w : World) (K : PySem.W.Frag) (mg : Str → Option Value) (base : Heap) (k : Nat) (f : Addr) (fd : FuncData) (ps : List Str) (sp : Sp) : Prop where
  len : ∀ vs H Q E, sp vs H Q E → vs.length = ps.length
  run : ∀ (A : Around) (outer : List Env) (s : Shared) (H : Hp) (args : Args) (us : List Value) (vs : List V) (Q : VK) (E : XK), RoomH k A → Env0 P w K mg base A outer s H → BindsTo s fd args (ps.zip us) → Vals vs us → sp vs H Q E →
    codeAny (model P w) A (.call (.ref f) args) (CR L2.CX0 outer P w H s Q E) s
def cxT (P : Program) (w : World) (K : PySem.W.Frag) (mg : Str → Option Value) (base : Heap) (N : List Str) (qual : Str) (scope : Scope) (f : Addr) (cd : Value) (A : Around) (outer : List Env) (s : Shared) (H : Hp) (E : XK) : Cx :=
  { cxOf L2.CX0 P w K mg base N qual scope f cd A outer s H E with calm := false }
theorem inv_startT {P : Program} {w : World} {K : PySem.W.Frag} {mg : Str → Option Value} {base : Heap} {N ps : List Str} {qual : Str} {scope : Scope} {f : Addr} {cd : Value} {A : Around} {outer : List Env} {s s1 : Shared} {H : Hp} {E : XK} {us : List Value} {vs : List V}
    (S : FnScope N ps scope) (e0 : Env0 P w K mg base A outer s H) (hl : vs.length = ps.length) (r : Vals vs us)
    (x : InCallC s s.heap.objs.size (bindL (envOfC qual scope s.heap.objs.size f cd).kindOf (ps.zip us) fun _ => none) (cellsFrom (s.heap.objs.size + 1) scope.names []) (bindC (envOfC qual scope s.heap.objs.size f cd).kindOf (ps.zip us) fun _ => none) s1) :
    Inv (cxT P w K mg base N qual scope f cd A outer s H E) [] (L2.start N vs) H s1 := by
  have hpl : ps.length ≤ N.length := by have := congrArg List.length S.pre; rw [List.length_take] at this; omega
  obtain ⟨h1, tk, rfl, hk⟩ := x.done
  have noA : ∀ b : Addr, b ∉ (cxT P w K mg base N qual scope f cd A outer s H E).ex := fun b z => absurd (show b ∈ ([] : List Addr) from z) (by simp)
  refine ⟨⟨e0.mod, S.kind, rfl, rfl, Nat.le_refl _, fun y z c h1 h2 => ?_, fun y hy => ?_, fun y c _ h => ?_, (fun z => Bool.noConfusion (show false = true from z)), Around.frames_deeper e0.frames, .inr ⟨rfl, rfl⟩, fun b z => absurd z (noA b), e0.bs, e0.bsz, fun b _ _ => noA b, fun b z => absurd z (noA b), e0.funs, e0.frf⟩,
    rfl, e0.bare, Un.kept hk, ⟨_, x.toInCall.ns, fun i y v h1 h2 h3 => ?_⟩, fun y c h => ⟨_, x.cell y c h⟩, e0.hok.fresh (Nat.le_refl _), fun y c h => ?_, fun q hq => ?_, e0.hok.kept hk, ?_⟩
  · exact name_of_addr x.apart (PySem.mem_of_lookup h1) (PySem.mem_of_lookup h2)
  · have hy : scope.names.lookup y = some .cell ∨ scope.names.lookup y = some .free := hy
    rcases hy with hy | hy
    · exact cell_has hy
    · exact absurd rfl (S.nofree _ (PySem.mem_of_lookup hy))
  · exact Nat.le_of_lt (x.above y c (PySem.mem_of_lookup h))
  · have hi : i < vs.length := by
      unfold L2.start at h2
      by_cases hi : i < vs.length
      · exact hi
      · rw [List.getElem?_append_right (by simpa using hi)] at h2
        rw [List.getElem?_replicate] at h2
        split at h2 <;> cases h2
    have ha : vs[i]? = some v := by
      unfold L2.start at h2
      rw [List.getElem?_append_left (by simpa using hi), List.getElem?_map] at h2
      cases e : vs[i]? with
      | none => rw [e] at h2; cases h2
      | some a => rw [e] at h2; cases h2; rfl
    obtain ⟨u, hu, rv⟩ := r.get ha
    have hp : ps[i]? = some y := by
      rw [← S.pre, List.getElem?_take_of_lt (by omega)]; exact h1
    have ndP : ps.Nodup := by rw [← S.pre]; exact S.nd.sublist (List.take_sublist _ _)
    refine ⟨u, rv, ?_⟩
    rcases S.par y (List.mem_of_getElem? hp) with k | k
    · exact .inl ⟨k, bindL_get ndP hp hu k⟩
    · obtain ⟨c, e⟩ := cell_has (n := s.heap.objs.size + 1) k
      refine .inr ⟨.inl k, c, e, ?_⟩
      have q := x.cell y c e
      rw [bindC_get ndP hp hu (by show scope.names.lookup y ≠ _; rw [k]; decide)] at q
      exact q
  · exact e0.hok.fresh (Nat.le_of_lt (x.above y c (PySem.mem_of_lookup h)))
  · exact absurd (show q ∈ ([] : List (Addr × Obj)) from hq) (by simp)
  · unfold L2.start
    show _ = N.length
    rw [List.length_append, List.length_map, List.length_replicate]
    omega
theorem fn_ofT {P : Program} {w : World} {K : PySem.W.Frag} {mg : Str → Option Value} {base : Heap} {k : Nat} {f : Addr} {name qual : Str} {params : Arguments} {body : List Stmt} {scope : Scope} {dV kV doc pm cdv ct oc : Value} {an od : Option Addr}
    {osl : Array (Option Value)} {N ps : List Str} {sp : Sp} (lk : K.lookup f = some ⟨oc, od, .func (PySem.W.fnOf name qual params body scope dV kV doc pm an cdv ct), osl⟩) (hcd : PySem.W.codeIn K cdv qual = true) (S : FnScope N ps scope)
    (len : ∀ vs H Q E, sp vs H Q E → vs.length = ps.length)
    (hbody : ∀ (A : Around) (outer : List Env) (s : Shared) (H : Hp) (vs : List V) (Q : VK) (E : XK), RoomH k (A.deeper (envOfC qual scope s.heap.objs.size f cdv)) → sp vs H Q E →
      ∃ t, PSs (cxT P w K mg base N qual scope f cdv A outer s H E).nox body t ∧ t { nx := fun _ H' => Q .non H', rt := Q } (L2.start N vs) H) :
    FnT P w K mg base (k + 1) f (PySem.W.fnOf name qual params body scope dV kV doc pm an cdv ct) ps sp := by
  refine ⟨len, fun A outer s H args us vs Q E hr e0 hb r hsp => ?_⟩
  have hl := len _ _ _ _ hsp
  have KX : K.In s.heap := e0.mod.kin.keeps fun b o e => (e0.bs b o e).1
  have lim : s.heap.NoLimit := e0.mod.nolimit.keeps fun b o e => (e0.bs b o e).1
  have hkind : ∀ y ∈ ps.zip us, scope.names.lookup y.1 = some .local ∨ (scope.names.lookup y.1 = some .cell ∧ ((cellsFrom (s.heap.objs.size + 1) scope.names []).lookup y.1).isSome = true) := fun ⟨n, v⟩ hy => by
    rcases S.par n (List.of_mem_zip hy).1 with q | q
    · exact .inl q
    · exact .inr ⟨q, PySem.W.cellsFrom_some _ _ _ (.inl q)⟩
  refine codeAny_call_function hr.depth (KX _ _ lk) rfl S.co S.gen rfl (PySem.W.codeRec_of KX hcd) (hb _ _ _ _ ?_)
  refine wpAny_newFunctionEnv_cells S.kind hkind fun env he s1 x => ?_
  subst he
  refine ⟨lim.keeps x.toInCall.keep, codeAny_func ?_⟩
  obtain ⟨t, ht, hq⟩ := hbody A outer s H vs Q E (hr.deeper _) hsp
  have I : Inv (cxT P w K mg base N qual scope f cdv A outer s H E) [] (L2.start N vs) H s1 := inv_startT S e0 hl r x
  refine wpAny_mono (ht.nox.run [] s1 (L2.start N vs) H _ I hq) (fun fl s' hs => ?_) fun e s' hs => hs
  have fin : ∀ {σ' : L2.St} {H' : Hp} {v : V} {u : Value}, Inv (cxT P w K mg base N qual scope f cdv A outer s H E) [] σ' H' s' → L2.RelV v u → Q v H' → CE outer P w H s Q u s' :=
    fun {σ' H' v u} J rv q => ⟨v, H', J.os, J.bare, J.base, J.hok, rv, q⟩
  cases fl with
  | ret u =>
    obtain ⟨v, σ', H', J, rv, q⟩ := hs
    exact fin J rv q
  | next =>
    obtain ⟨σ', H', J, q⟩ := hs
    exact fin (v := V.non) (u := Value.none) J rfl q
  | brk =>
    obtain ⟨_, _, _, q⟩ := hs
    exact False.elim q
  | cont =>
    obtain ⟨_, _, _, q⟩ := hs
    exact False.elim q
section
variable {X : Cx} {k : Nat} {f : Addr} {fd : FuncData} {ps : List Str} {sp : Sp} {x : Str} {q pos : Pos} {e : Expr} {es : List Expr} {t : TA}
theorem run_fnT {pins : List (Addr × Obj)} {σ : L2.St} {H : Hp} {s : Shared} {Q : VK} {us : List Value} {vs : List V} (F : FnT X.prog X.w X.K X.mg X.base k f fd ps sp) (hr : RoomH k X.A) (hb : Binds X.K fd ps [])
    (I : Inv X pins σ H s) (r : Vals vs us) (h : sp vs H Q L2.E0) : wpAny (model X.prog X.w) X.A (call (.ref f) us) (EP X pins σ Q) X.xe s := by
  have hl : us.length = ps.length := by rw [← r.length]; exact F.len _ _ _ _ h
  have b := hb s us I.kIn (by rw [List.append_nil]; exact hl)
  rw [List.append_nil] at b
  refine wpAny_call (codeAny_mono (F.run X.A X.stack s H ⟨us, []⟩ us vs Q L2.E0 hr I.env0 b r h) fun r s' hq => ?_)
  cases r with
  | error e => exact False.elim hq
  | ok fl =>
    cases fl with
    | ret u => exact I.after hq
    | next => exact False.elim hq
    | brk => exact False.elim hq
    | cont => exact False.elim hq
theorem pe_callT (F : FnT X.prog X.w X.K X.mg X.base k f fd ps sp) (hr : RoomH k X.A) (hg : Gl X x) (hm : X.mg x = some (.ref f)) (hk : PySem.W.keepIn X.K (.ref f) = true) (hb : Binds X.K fd ps [])
    (ha : PA X (e :: es) t) (hdb : (x == ("__debug__" : Str)) = false := by decide) (he : starEach (e :: es) X.env = (false, eval e X.env) :: starEach es X.env := by rfl) (hpl : (backTo pos (starEach es X.env)).any (·.1) = false := by rfl) :
    PE X (.Call (.Name x q) (e :: es) [] pos) (tCall sp [] L2.E0 t) := by
  refine ⟨fun pins s σ H Q I h => ?_⟩
  refine wpAny_Call_Name_kw (ld_glob I hg hm ?_ hdb)
  refine PySem.W.callWith_K (h₀ := X.base) I.ok.mod.kin hk (thn (ha.run pos pins s σ H _ I h) fun us s1 ⟨vs, H1, I1, r, q⟩ => ⟨I1.kIn, ?_⟩) he hpl
  have q2 : sp vs H1 Q L2.E0 := by
    have q3 : sp (vs ++ []) H1 Q L2.E0 := q
    rw [List.append_nil] at q3
    exact q3
  exact run_fnT F hr hb I1 r q2
end
end Dl
/-! Tz: exceptions by data: raise, a def that may raise, fields of an exception, except. -/
namespace Dl
open PySem PySem.Spec PyProof.Rows L2
section
variable {K : PySem.W.Frag} {B : Bt} {G H : Hp} {δ : List Sd} {P : D → Prop} {X : Xc} {O : Out} {te : TE} {ta : TA}
theorem lookup_putD (f g : Str) (y : D) (fs : List (Str × D)) : ((f, y) :: fs).lookup g = if g = f then some y else fs.lookup g := by
  by_cases h : g = f
  · subst h
    simp [List.lookup]
  · have e : (g == f) = false := by simpa using h
    rw [if_neg h]
    simp [List.lookup, e]
theorem lookup_dd : ∀ {fs : List (Str × V)} {ds : List D} {f : Str} {x : D}, Dds K B G (fs.map (·.2)) ds → ((fs.map (·.1)).zip ds).lookup f = some x → ∃ v, fs.lookup f = some v ∧ Dd K B G v x
  | [], _, _, _, _, e => by simp at e
  | (g, v) :: fs, _, f, x, .cons h t, e => by
    rw [List.map_cons, List.zip_cons_cons, lookup_putD] at e
    rw [lookup_put]
    by_cases q : f = g
    · rw [if_pos q] at e ⊢
      cases e
      exact ⟨v, rfl, h⟩
    · rw [if_neg q] at e ⊢
      exact lookup_dd t e
/-- what is known of an own exception class: its fields may be read -/
structure XcF (K : PySem.W.Frag) (C : Addr) (fs : List Str) : Prop where
  x : XfC K C
  n : ∀ f ∈ fs, PySem.W.findIn K (.ref C) f = some none
theorem we_xv {f : Str} (h : WEx K B X te δ fun d => ∃ C ks ds x, d = .exn C ks ds ∧ (ks.zip ds).lookup f = some x ∧ (XfC K C ∧ PySem.W.findIn K (.ref C) f = some none) ∧ P x) : WEx K B X (tXv K f te) δ P := fun G0 H0 σ G H Q s xx q =>
  h G0 H0 σ G H _ s xx fun v d G1 H1 g1 o1 hv ⟨C, ks, ds, x, e, l, T, p⟩ => by
    subst e
    cases hv with
    | exn h1 h2 t =>
      obtain ⟨u, l2, hu⟩ := lookup_dd t l
      exact ⟨_, _, _, _, u, rfl, o1.u _ _ h1, o1.u _ _ h2, l2, T.1, T.2, (q.on g1 o1).nil o1 hu p⟩
/-- what an __init__ promises that stores its n arguments and a code: mk, the fields -/
def spIni (C : Addr) (n : Nat) (mk : List V → List (Str × V)) : Sp := fun vs H Q _ => ∃ (a : Addr) (ws : List V), vs = .ref a :: ws ∧ ws.length = n ∧ H a = some (exo a C none) ∧ ∀ d, H d = none → d ≠ a → Q .non (upd (upd H d (exd d (mk ws))) a (exo a C (some d)))
theorem ini_heap {H : Hp} {a C d : Addr} {fs : List (Str × V)} (na : H a = none) (nd : d ≠ a) : upd (del (upd (upd (upd H a (exo a C none)) d (exd d fs)) a (exo a C (some d))) a) d (.xd fs) = upd H d (.xd fs) := by
  funext b
  by_cases hb : b = d
  · rw [hb, upd_same, upd_same]
  · rw [upd_ne hb, upd_ne hb]
    by_cases ha : b = a
    · rw [ha, del_same, na]
    · rw [del_ne ha, upd_ne ha, upd_ne hb, upd_ne ha]
/-- raise C(e, ..) -/
theorem ws_raise {C : Addr} {n : Nat} {mk : List V → List (Str × V)} {ks : List Str} {mkD : List D → List D} (hn : n ≤ 1000) (hk : ∀ ws : List V, ws.length = n → (mk ws).map (·.1) = ks) (hm : ∀ {G : Hp} {ws : List V} {ds : List D}, Dds K B G ws ds → ws.length = n → Dds K B G ((mk ws).map (·.2)) (mkD ds))
    (h : WAx K B O.x ta δ fun ds => ds.length = n ∧ O.x.ex δ C ks (mkD ds)) : WS K B (fun _ σ H => tMkO C (spIni C n mk) [] ta σ H fun cls d H' => O.x.W cls d σ H') δ O := fun G0 H0 σ G H E s xx _ _ _ _ =>
  h G0 H0 σ G H _ s (xx.ct s) fun vs ds G1 H1 g1 o1 hs ⟨l, p⟩ => by
    have lv : vs.length = n := hs.length.trans l
    refine ⟨by omega, fun a na => ⟨a, vs, by rw [List.append_nil], lv, upd_same, fun d nd hda => ⟨rfl, d, mk vs, upd_same, ?_, ?_, ?_⟩⟩⟩
    · rw [upd_ne hda, upd_same]
    · rw [upd_ne hda] at nd; exact nd
    · rw [upd_ne hda] at nd
      rw [ini_heap na hda]
      have g2 := new_go o1 (x := .xd (mk vs)) nd
      have o2 := new_ok o1 xd_nt nd (x := .xd (mk vs))
      refine ((xx.ct s).on g1 o1) C d ks (mkD ds) _ _ g2 o2 ⟨mk vs, upd_same, hk vs lv, (hm hs lv).mono g2.s⟩ p
/-- a call that may raise -/
theorem we_callX {pre : List D → Prop} {post : List D → D → Prop} {exc : List D → Addr → List Str → List D → Prop} {t : TA} (h : WAx K B X t δ fun ds => pre ds ∧ (∀ d, post ds d → P d) ∧ ∀ C ks es, exc ds C ks es → X.ex δ C ks es) : WEx K B X (tCallS (SpX K pre post exc) (L2.WE X.W) t) δ P := fun G0 H0 σ G H Q s xx q =>
  h G0 H0 σ G H _ s xx fun vs ds G1 H1 g1 o1 hs ⟨p, m, ex⟩ =>
    ⟨B, G1, ds, o1, hs, p, fun v d G2 H2 g2 o2 hd pd => (q.on g1 o1) v d G2 H2 g2 o2 hd (m d pd), fun C d ks es G2 H2 g2 o2 hd pe => (xx.on g1 o1) C d ks es G2 H2 g2 o2 hd (ex C ks es pe)⟩
end
/-! ### defs that may raise -/
section
variable {P : Program} {w : World} {K : PySem.W.Frag} {mg : Str → Option Value} {base : Heap}
structure Clx (P : Program) (w : World) (K : PySem.W.Frag) (mg : Str → Option Value) (base : Heap) (k : Nat) (x : Str) (st : Stmt) (ps : List Str) (sp : Sp) : Prop where
  ex : ∃ (f : Addr) (fd : FuncData), Fun K x x st f fd ∧ FnOk P w K mg base (L2.CX P w) k f fd ps sp ∧ mg x = some (.ref f) ∧ Binds K fd ps []
/-- .. by keywords alone -/
structure Ckx (P : Program) (w : World) (K : PySem.W.Frag) (mg : Str → Option Value) (base : Heap) (k : Nat) (x : Str) (ks : List Str) (sp : Sp) (gV : List V → List V) : Prop where
  ex : ∃ (f : Addr) (fd : FuncData) (ps : List Str) (g : List Value → List Value), FnOk P w K mg base (L2.CX P w) k f fd ps sp ∧ mg x = some (.ref f) ∧ PySem.W.keepIn K (.ref f) = true ∧ KBn K fd ps 0 ks (fun _ ws => g ws) (fun _ zs => gV zs)
theorem clx_of {x : Str} {st : Stmt} {N ps : List Str} {k : Nat} {pre : List D → Prop} {post : List D → D → Prop} {exc : List D → Addr → List Str → List D → Prop} (F : Df K mg x st) (S : FnScope N ps (defScope st))
    (hb : ∀ (kV doc pm : Value) (an : Option Addr) (cdv ct : Value) (us : List Value), us.length = ps.length → bindArgs (PySem.W.fnOf x x (defArgs st) (defBody st) (defScope st) .none kV doc pm an cdv ct) ⟨us, []⟩ = pure (ps.zip us))
    (hl : ∀ ds, pre ds → ds.length = ps.length)
    (h : ∀ (f : Addr) (cdv : Value) (A : Around) (outer : List Env) (s : Shared) (H : Hp) (E : XK), Room k (A.deeper (envOfC x (defScope st) s.heap.objs.size f cdv)) →
      ∃ t, PSs (cxOf (L2.CX P w) P w K mg base N x (defScope st) f cdv A outer s H E) (defBody st) t ∧ ∀ B ds, pre ds → WS K B t (init N ds) { nx := fun _ => post ds .non, rt := post ds, x := { W := fun cls d _ H => E cls d H, ex := fun _ => exc ds } }) : Clx P w K mg base (k + 1) x st ps (SpX K pre post exc) := by
  obtain ⟨f, fd, F, hm⟩ := F.ex
  refine ⟨f, fd, F, F.okX S (fun vs H Q E hsp => ?_) (fun cdv A outer s H vs Q E hr hsp => ?_), hm, F.binds hb⟩
  · obtain ⟨B, G, ds, o, hs, p, q, _⟩ := hsp
    exact hs.length.trans (hl ds p)
  · obtain ⟨B, G, ds, o, hs, p, q, qx⟩ := hsp
    obtain ⟨t, ht, ww⟩ := h f cdv A outer s H E hr
    refine ⟨t, ht, ww B ds p G H _ G H _ (stt_start o hs) (fun σ1 δ1 G1 H1 m s1 C d ks es hd pe => qx C d ks es G1 H1 s1.go s1.ok hd pe) (fun σ1 δ1 G1 H1 _ s1 z => q .non .non G1 H1 s1.go s1.ok .non z) ⟨fun v d G1 H1 g o1 hd z => q v d G1 H1 g o1 hd z, fun _ _ _ _ _ _ _ _ _ _ _ _ z => z.elim⟩ (fun _ _ _ _ _ _ z => z.elim) (fun _ _ _ _ _ _ z => z.elim)⟩
theorem ckx_of {x : Str} {st : Stmt} {k : Nat} {ps ks : List Str} {sp : Sp} {gV : List V → List V} (c : Clx P w K mg base k x st ps sp) (g : List Value → List Value)
    (hb : ∀ (kV doc pm : Value) (an : Option Addr) (cdv ct : Value) (ws : List Value), ws.length = ks.length → bindArgs (PySem.W.fnOf x x (defArgs st) (defBody st) (defScope st) .none kV doc pm an cdv ct) ⟨[], ks.zip ws⟩ = pure (ps.zip (g ws)))
    (hr : ∀ {zs : List V} {ws : List Value}, Vals zs ws → Vals (gV zs) (g ws)) : Ckx P w K mg base k x ks sp gV := by
  obtain ⟨f, fd, F, G, hm, _⟩ := c.ex
  have kp := F.kp
  obtain ⟨oc, od, kV, doc, pm, an, cdv, ct, osl, rfl, lk, hcd⟩ := F.ex
  refine ⟨f, _, ps, g, G, hm, kp, ⟨fun s us ws _ l1 l2 => ?_, fun _ r => hr r⟩⟩
  have e : us = [] := List.length_eq_zero_iff.mp l1
  subst e
  exact .of_eq (hb kV doc pm an cdv ct ws l2)
end
section
variable {X : Cx} {W : WX} {k j : Nat} {x : Str} {st : Stmt} {ps ks : List Str} {sp : Sp} {p pos : Pos} {e : Expr} {es : List Expr} {t tk : TA} {kws : List Keyword} {gV : List V → List V}
theorem pe_cx (c : Clx X.prog X.w X.K X.mg X.base k x st ps sp) (tk : Takes X W) (hr : Room j X.A) (hk : k ≤ j) (hg : Gl X x) (ha : PA X (e :: es) t)
    (hdb : (x == ("__debug__" : Str)) = false := by decide) (he : starEach (e :: es) X.env = (false, eval e X.env) :: starEach es X.env := by rfl) (hpl : (backTo pos (starEach es X.env)).any (·.1) = false := by rfl) :
    PE X (.Call (.Name x p) (e :: es) [] pos) (tCallS sp (L2.WE W) t) := by
  obtain ⟨f, fd, F0, F, hm, b⟩ := c.ex
  exact pe_callS F (hr.mono hk) hg hm F0.kp b (fun σ => passAt tk σ) ha hdb he hpl
/-- f(k = v, ..) that may raise -/
def tCkX (m : Nat) (sp : Sp) (gV : List V → List V) (W : WX) (tk : TA) : TE := fun σ H Q => tk σ H fun zs H2 => zs.length = m ∧ sp (gV zs) H2 Q (L2.WE W σ)
theorem pe_ckx {E : XK} (c : Ckx X.prog X.w X.K X.mg X.base k x ks sp gV) (tk2 : Takes X (fun cls d _ H => E cls d H)) (hr : Room j X.A) (hk : k ≤ j) (hg : Gl X x) (hkw : PK X kws tk)
    (hall : (backToKw pos (keywordEach kws X.env)).all (·.1.isSome) = true := by rfl) (hks : (backToKw pos (keywordEach kws X.env)).filterMap (·.1) = ks := by rfl) (hdb : (x == ("__debug__" : Str)) = false := by decide)
    (hpl : ((backTo pos (starEach [] X.env)).any (·.1) || (backToKw pos (keywordEach kws X.env)).any (·.1.isNone)) = false := by rfl) :
    PE X (.Call (.Name x p) [] kws pos) (tCkX ks.length sp gV (fun cls d _ H => E cls d H) tk) := by
  obtain ⟨f, fd, ps, g, F, hm, kp, b⟩ := c.ex
  refine ⟨fun pins s σ H Q I h => ?_⟩
  refine wpAny_Call_Name_kw (ld_glob I hg hm ?_ hdb)
  refine PySem.W.callWith_KW0 (h₀ := X.base) I.ok.mod.kin kp hall ?_ hpl
  refine thn (hkw.run pos pins s σ H _ I h) fun ws s2 ⟨zs, H2, I2, rz, l2, q2⟩ => ⟨I2.kIn, ?_⟩
  rw [hks]
  exact run_fnN F (hr.mono hk) b (passes_call tk2 fun _ _ _ _ h => h) I2 .nil rz rfl l2 q2
end
section
variable {K : PySem.W.Frag} {B : Bt} {δ : List Sd} {P : D → Prop} {X : Xc}
theorem we_ckx {pre : List D → Prop} {post : List D → D → Prop} {exc : List D → Addr → List Str → List D → Prop} {m : Nat} {gV : List V → List V} {gD : List D → List D} {tk : TA} (hg : ∀ G vs ds, Dds K B G vs ds → Dds K B G (gV vs) (gD ds)) (h : WAx K B X tk δ fun ds => ds.length = m ∧ pre (gD ds) ∧ (∀ d, post (gD ds) d → P d) ∧ ∀ C ks es, exc (gD ds) C ks es → X.ex δ C ks es) : WEx K B X (tCkX m (SpX K pre post exc) gV X.W tk) δ P := fun G0 H0 σ G H Q s xx q =>
  h G0 H0 σ G H _ s xx fun vs ds G1 H1 g1 o1 hs ⟨l, p, mm, ex⟩ =>
    ⟨hs.length.trans l, B, G1, gD ds, o1, hg _ _ _ hs, p, fun v d G2 H2 g2 o2 hd pd => (q.on g1 o1) v d G2 H2 g2 o2 hd (mm d pd), fun C d ks es G2 H2 g2 o2 hd pe => (xx.on g1 o1) C d ks es G2 H2 g2 o2 hd (ex C ks es pe)⟩
end
end Dl
/-! Ta: a lambda handed to a def that calls it in a try and answers ('told', value) or by the error that was caught. -/
namespace Dl
open PySem PySem.Spec PyProof.Rows L2 LamX
open L2H (RoomH roomH_of)
section
variable {X : Cx} {pins : List (Addr × Obj)} {σ : L2.St} {H : Hp} {s : Shared}
/-- x(), in the def that got the lambda; what is raised goes on by the slots as they stand -/
theorem pe_actS {CXg : CXT} {Eg : XK} {Ng : List Str} {qg : Str} {sg : Scope} {g f c' : Addr} {cdg pm ctv : Value} {params : Arguments} {body : Expr} {scope : Scope} {k i : Nat} {a : Str} {pn : List (Addr × Obj)} {xe : Value → Shared → Prop} {W : WX} {tb : XK → TE} {p1 p2 : Pos}
    (I : L2.Inv X pins σ H s) (L : LamS X.env.scope scope) (hf : s.heap.get? f = some (PySem.W.kla_obj "<lambda>" (X.env.qual ++ "<lambda>") params body scope (cloFrom X.env.cells scope.names []) pm c' ctv)) (hfn : H f = none) (hfr : f ∉ frs X.stack)
    (hbind : bindArgs (PySem.W.kla_fn "<lambda>" (X.env.qual ++ "<lambda>") params body scope (cloFrom X.env.cells scope.names []) pm (.ref c') ctv) ⟨[], []⟩ = pure [])
    (tk : Takes ((cxOf CXg X.prog X.w X.K X.mg X.base Ng qg sg g cdg X.A X.stack s H Eg).tr pn xe) W) (hr : Room (k + 1) (X.A.deeper (envOfC qg sg s.heap.objs.size g cdg)))
    (hbody : ∀ (A : Around) (outer : List Env) (s : Shared) (H : Hp) (E : XK), Room k (A.deeper (lamEnv X scope s.heap.objs.size f c')) → PE (lamCx X A outer s H E scope f c') body (tb E))
    (hN : Ng[i]? = some a) (hv : Vis sg a) (hd : (a == ("__debug__" : Str)) = false := by decide) (hcd : (a == ("__classdict__" : Str)) = false := by decide) :
    PE ((cxOf CXg X.prog X.w X.K X.mg X.base Ng qg sg g cdg X.A X.stack s H Eg).tr pn xe) (.Call (.Name a p1) [] [] p2)
      (fun σZ HZ Q => σZ[i]? = some (some (.ref f)) ∧ HZ c' = some (CodeO c' (X.env.qual ++ "<lambda>")) ∧ tb (L2.WE W σZ) σ HZ Q) := by
  refine ⟨fun pinsZ sZ σZ HZ Q IZ h => ?_⟩
  obtain ⟨hs, hc, ht⟩ := h
  refine wpAny_Call_Name_kw (thn ((pe_var (pos := p1) (i := i) hN hv hd hcd).run pinsZ sZ σZ HZ (fun v H1 => v = .ref f ∧ H1 = HZ) IZ ⟨.ref f, hs, rfl, rfl⟩) fun u s1 ⟨v, H1, I1, r1, q1⟩ => ?_)
  obtain ⟨ev, eH⟩ := q1
  subst ev
  rw [eH] at I1
  obtain rfl : u = Value.ref f := r1
  have of1 : s1.heap.get? f = some (PySem.W.kla_obj "<lambda>" (X.env.qual ++ "<lambda>") params body scope (cloFrom X.env.cells scope.names []) pm c' ctv) := I1.base.keep f _ hf hfn hfr (fun z => nomatch (show f ∈ ([] : List Addr) from z))
  refine PySem.W.callWith_F0 ⟨_, _, _, _, of1⟩ ?_
  have un : Un (frs X.stack) [] H HZ s.heap s1.heap := I1.base
  obtain ⟨⟨oc, vs, t, hoc, hdc, hvc⟩, _, _⟩ := I1.hok c' _ hc
  have rc : codeAny (model X.prog X.w) (X.A.deeper (envOfC qg sg s.heap.objs.size g cdg)) (.call (.ref f) ⟨[], []⟩) (CR (L2.CX X.prog X.w) (envOfC qg sg s.heap.objs.size g cdg :: X.stack) X.prog X.w HZ s1 Q (L2.WE W σZ)) s1 := by
    refine PySem.W.kla_callFunE hr.depth of1 rfl L.co L.gen rfl ⟨c', oc, vs, t, rfl, hoc, hdc, hvc⟩ ?_
    rw [hbind]
    refine wpAny_pure (wpAny_newFunctionEnv (fun y hy => (L.own y hy).2) (fun y hy => absurd hy (by simp)) (fun h₁ hns hsb => ⟨I1.nolimit.fresh _ hsb, ?_⟩) L.kind)
    show codeAny _ _ (.expr body (lamEnv X scope s1.heap.objs.size f c')) _ _
    have kp : ∀ b o, s1.heap.get? b = some o → h₁.get? b = some o := fun b o e => hsb.extBut b o (Nat.ne_of_lt (Heap.lt_size e)) (Heap.get?_push_of_some _ e)
    have J : L2.Inv (lamCx X (X.A.deeper (envOfC qg sg s.heap.objs.size g cdg)) (envOfC qg sg s.heap.objs.size g cdg :: X.stack) s1 HZ (L2.WE W σZ) scope f c') [] σ HZ { s1 with heap := h₁, toks := s1.toks + ([] : List (Str × Value)).length } :=
      lam_start2 I L I1.env0 hr.hd un hns kp
    refine PySem.W.kla_codeExpr (wpAny_mono ((hbody _ _ s1 HZ (L2.WE W σZ) (hr.deeper _)).run [] _ _ HZ Q J ht) (fun v s' hq => ?_) fun e s' hq => hq)
    obtain ⟨w', H', J', rv, q⟩ := hq
    exact ⟨w', H', J'.os, J'.bare, J'.base, J'.hok, rv, q⟩
  refine wpAny_call (codeAny_mono rc fun r s' hq => ?_)
  cases r with
  | error e => exact passAt tk σZ pinsZ HZ s1 e s' I1 hq
  | ok fl =>
    cases fl with
    | ret u => exact I1.after hq
    | next => exact False.elim hq
    | brk => exact False.elim hq
    | cont => exact False.elim hq
end
/-- the def that calls what it got -/
def GivesS (X : Cx) (Ng : List Str) (x : Str) (sg : Scope) (g : Addr) (cdg : Value) (bg : List Stmt) (a : Str) (q : Str) (j : Nat) (TT : (XK → Hp → VK → Prop) → Hp → VK → Prop) : Prop :=
  ∀ (f c' : Addr) (s : Shared) (H : Hp) (Q : VK) (tl : XK → Hp → VK → Prop), Room (j + 1) (X.A.deeper (envOfC x sg s.heap.objs.size g cdg)) →
    (∀ (W : WX) (pn : List (Addr × Obj)) (xe : Value → Shared → Prop) (p1 p2 : Pos), Takes ((cxOf C8.CX0 X.prog X.w X.K X.mg X.base Ng x sg g cdg X.A X.stack s H C8.E0).tr pn xe) W →
      PE ((cxOf C8.CX0 X.prog X.w X.K X.mg X.base Ng x sg g cdg X.A X.stack s H C8.E0).tr pn xe) (.Call (.Name a p1) [] [] p2) (fun σZ HZ Q => σZ[0]? = some (some (.ref f)) ∧ HZ c' = some (CodeO c' q) ∧ tl (L2.WE W σZ) HZ Q)) →
    H c' = some (CodeO c' q) → TT tl H Q →
    ∃ t, PSs (cxOf C8.CX0 X.prog X.w X.K X.mg X.base Ng x sg g cdg X.A X.stack s H C8.E0).nox bg t ∧ t { nx := fun _ H' => Q .non H', rt := Q } (L2.start Ng [.ref f]) H
section
variable {X : Cx}
/-- x(lambda: body) -/
theorem pe_lamS {T : List (Addr × Str)} {TT : (XK → Hp → VK → Prop) → Hp → VK → Prop} {x a : Str} {g c P : Addr} {k : Nat} {pg : Arguments} {bg : List Stmt} {sg : Scope} {dV kV doc pm cdv ct oc : Value} {an od : Option Addr} {osl : Array (Option Value)} {Ng : List Str}
    {params : Arguments} {body : Expr} {scope : Scope} {t : XK → TE} {p lpos pos : Pos} (hg : Gl X x) (hm : X.mg x = some (.ref g)) (hk : PySem.W.keepIn X.K (.ref g) = true)
    (lk : X.K.lookup g = some ⟨oc, od, .func (PySem.W.fnOf x x pg bg sg dV kV doc pm an cdv ct), osl⟩) (hcg : PySem.W.codeIn X.K cdv x = true) (hb : L2.Binds X.K (PySem.W.fnOf x x pg bg sg dV kV doc pm an cdv ct) [a] []) (Sg : FnScope Ng [a] sg) (hNg : Ng[0]? = some a) (hva : Vis sg a)
    (hG : GivesS X Ng x sg g cdv bg a (X.env.qual ++ "<lambda>") k TT)
    (TB : TabB X.base X.mg c P) (hcode : X.env.code = .ref c) (hmT : (P, X.env.qual ++ "<lambda>") ∈ T) (hu : ∀ p ∈ T, p.1 = P → p.2 = X.env.qual ++ "<lambda>") (hr : Room (k + 2) X.A) (L : LamS X.env.scope scope) (hdef : defaultsOf params X.env = ([], []))
    (hbind : ∀ (q : Str) (cl : List (Str × Addr)) (pm cv ctv : Value), bindArgs (PySem.W.kla_fn "<lambda>" q params body scope cl pm cv ctv) ⟨[], []⟩ = pure [])
    (hbody : ∀ (A : Around) (outer : List Env) (s : Shared) (H : Hp) (E : XK) (f c' : Addr), Room k (A.deeper (lamEnv X scope s.heap.objs.size f c')) → PE (lamCx X A outer s H E scope f c') body (t E))
    (hdb : (x == ("__debug__" : Str)) = false := by decide) (hd : (a == ("__debug__" : Str)) = false := by decide) (hcd : (a == ("__classdict__" : Str)) = false := by decide) :
    PE X (.Call (.Name x p) [.Lambda params body scope lpos] [] pos) (tLam T TT t) := by
  refine ⟨fun pins s σ H Q I h => ?_⟩
  obtain ⟨hT, h⟩ := h
  refine wpAny_Call_Name_kw (ld_glob I hg hm ?_ hdb)
  refine PySem.W.callWith_K (h₀ := X.base) I.ok.mod.kin hk ?_ (by rfl) (by rfl)
  show wpAny _ _ (spliced ((false, eval (.Lambda params body scope lpos) X.env) :: backTo pos (starEach [] X.env))) _ _ s
  refine Calls.spliced_cons (lam_make2 I TB hcode hmT hu hT hdef (L.has I.ok) fun f c' pm' ctv H1 s' I1 eN T1 hf hfn hfr hco => ?_)
  refine Calls.spliced_nil ⟨I1.kIn, ?_⟩
  have rc : codeAny (model X.prog X.w) X.A (.call (.ref g) ⟨[.ref f], []⟩) (CR C8.CX0 X.stack X.prog X.w H1 s' Q C8.E0) s' := by
    refine run_ofS (N := Ng) (ps := [a]) (us := [.ref f]) (vs := [.ref f]) lk hcg Sg hr I1.env0 (hb s' [.ref f] I1.kIn rfl) (.cons rfl .nil) rfl fun hr' => ?_
    obtain ⟨t', ht', hq'⟩ := hG f c' s' H1 Q (fun E H' Q' => t E σ H' Q') hr' (fun W pn xe p1 p2 tk => pe_actS (i := 0) I1 L hf hfn hfr (hbind _ _ _ _ _) tk hr' (fun A outer s H E hr2 => hbody A outer s H E f c' hr2) hNg hva hd hcd) hco (h H1 eN T1)
    exact ⟨t', ht'.nox, hq'⟩
  refine wpAny_call (codeAny_mono rc fun r s2 hq => ?_)
  cases r with
  | error e => exact (show False from hq).elim
  | ok fl =>
    cases fl with
    | ret u => exact I1.after hq
    | next => exact False.elim hq
    | brk => exact False.elim hq
    | cont => exact False.elim hq
/-- the suite: return ('no', e.code) + fields(e) -/
def tSuite (K : PySem.W.Frag) (spF : Sp) : TS := tRet (tOp (zCat K) (zTup (tCons (tC (.str "no")) (tCons (tXv K "code" (tVar 1)) tNil))) (tCall spF [] L2.E0 (tCons (tVar 1) tNil)))
def TGot (K : PySem.W.Frag) (c1 c2 : Value) (spF : Sp) : (XK → Hp → VK → Prop) → Hp → VK → Prop := fun tl H Q => ∀ f : Addr,
  tl (L2.WE (wTup K c1 c2 1 (tSuite K spF) (fun _ _ _ _ => False) { nx := fun _ H' => Q .non H', rt := Q }) [some (.ref f), none]) H fun v H1 => ([.str "told", v] : List V).length ≤ sizeLine ∧ NewT Q H1 [.str "told", v]
theorem got_gives {a x1 x2 n xf x q : Str} {sg : Scope} {g : Addr} {cdg c1 c2 : Value} {j kf ff kk k2 k3 : Nat} {fdF : FuncData} {psF : List Str} {spF : Sp} {P1 P2 P3 P4 P5 P6 P7 P8 P9 P10 P11 P12 P13 P14 P15 P16 P17 P18 P19 : Pos} {kn kt kq : Nat}
    (Sg : FnScope [a, n] [a] sg) (h1 : sg.names.lookup x1 = some .globalImplicit) (h2 : sg.names.lookup x2 = some .globalImplicit) (d1 : (x1 == ("__debug__" : Str)) = false) (d2 : (x2 == ("__debug__" : Str)) = false) (hn : sg.names.lookup n = some .local)
    (m1 : X.mg x1 = some c1) (m2 : X.mg x2 = some c2) (hgf : sg.names.lookup xf = some .globalImplicit) (mf : X.mg xf = some (.ref ff)) (kf' : PySem.W.keepIn X.K (.ref ff) = true) (bf : Binds X.K fdF psF []) (dF : (xf == ("__debug__" : Str)) = false) (dn : (n == ("__debug__" : Str)) = false) (dnc : (n == ("__classdict__" : Str)) = false)
    (F : FnT X.prog X.w X.K X.mg X.base kf ff fdF psF spF) (hj : kf ≤ j + 1) :
    GivesS X [a, n] x sg g cdg [.Try [.Return (some (.Tuple [.Constant (.str "told") kt P1, .Call (.Name a P2) [] [] P3] k2 P4)) P5] [.ExceptHandler (some (.Tuple [.Name x1 P6, .Name x2 P7] kk P8)) (some n) [.Return (some (.BinOp (.Tuple [.Constant (.str "no") kn P9, .Attribute (.Name n P10) "code" P11] k3 P12) .Add (.Call (.Name xf P13) [.Name n P14] [] P15) P16)) P17] P18] [] [] P19] a q j (TGot X.K c1 c2 spF) := by
  intro f c' s H Q tl hr act hc h
  have vn : Vis sg n := .inl hn
  refine ⟨_, pss_one (ps_try_tup (X := (cxOf C8.CX0 X.prog X.w X.K X.mg X.base [a, n] x sg g cdg X.A X.stack s H C8.E0).nox) (c1 := c1) (c2 := c2) (i := 1) (ts := tSuite X.K spF)
      (tb := fun W => tRet (zTup (tCons (tC (.str "told")) (tCons (fun σZ HZ Q => σZ[0]? = some (some (.ref f)) ∧ HZ c' = some (CodeO c' q) ∧ tl (L2.WE W σZ) HZ Q) tNil))))
      rfl rfl rfl Sg.nd rfl (show sg.names.lookup n = some .local from hn) ⟨h1, d1, .inl m1⟩ ⟨h2, d2, .inl m2⟩ L2.takes0 (fun W pn xe tk _ => pss_one (ps_ret (pe_tupZ (pa_cons pe_str (pa_cons (act W pn xe P2 P3 tk) pa_nil))))) (fun a' pn => ?_)), ?_⟩
  · have hrH : RoomH kf (((cxOf C8.CX0 X.prog X.w X.K X.mg X.base [a, n] x sg g cdg X.A X.stack s H C8.E0).nox.suite a' pn)).A := ⟨(roomH_of hr).mono hj |>.dp, (roomH_of hr).mono hj |>.un⟩
    have ve : ∀ {pp : Pos}, PE ((cxOf C8.CX0 X.prog X.w X.K X.mg X.base [a, n] x sg g cdg X.A X.stack s H C8.E0).nox.suite a' pn) (.Name n pp) (tVar 1) := fun {pp} => pe_var (pos := pp) (i := 1) rfl vn dn dnc
    exact pss_one (ps_ret (pe_op op_catZ (pe_tupZ (pa_cons pe_str (pa_cons (pe_xv ve) pa_nil))) (pe_callT (X := ((cxOf C8.CX0 X.prog X.w X.K X.mg X.base [a, n] x sg g cdg X.A X.stack s H C8.E0).nox.suite a' pn)) F hrH hgf mf kf' bf (pa_cons ve pa_nil) dF)))
  · exact ⟨rfl, hc, h f⟩
end
end Dl
namespace Dl
open PySem PySem.Spec PyProof.Rows L2 LamX
section
variable {K : PySem.W.Frag} {B : Bt} {G H H1 : Hp} {δ : List Sd} {P : D → Prop} {X : Xc}
/-- all but the tables stands: a state by data -/
theorem ext_go (o : Ok B G H) (e : ExtN H H1) (t : Tabs B.T H1) : Go B G H G H1 ∧ Ok B G H1 := by
  refine ⟨⟨Same.refl G, fun a u _ ht h => e a u h ht, fun _ _ _ _ h => h, fun c r h => ⟨r, e _ _ h nt_lst⟩⟩, ⟨fun a u h => e a u (o.u a u h) (o.f a u h), o.b, ?_, t, o.f⟩⟩
  obtain ⟨c, cells, p', r, m, n, h, g', w⟩ := o.x
  exact ⟨c, cells, p', r, m, n, e _ _ h nt_lst, g', w⟩
theorem we_got {c1 c2 : Value} {preF : List D → Prop} {postF : List D → D → Prop} {te : XK → TE} {R : D → Prop} {exc : Addr → List Str → List D → Prop}
    (hb : ∀ E : XK, WEx K B { W := fun cls d _ H => E cls d H, ex := fun _ => exc } (te E) δ R) (hv : ∀ d, R d → P (.tup [.str "told", d]))
    (hx : ∀ C ks ds, exc C ks ds → PySem.W.exmAny K (.ref C) [c1, c2] = some true ∧ WS K B (tSuite K (SpD K preF postF)) [.no, .val (.exn C ks ds)] { nx := fun _ => False, rt := P }) :
    WEx K B X (tLam B.T (TGot K c1 c2 (SpD K preF postF)) te) δ P := fun G0 H0 σ G H Q s xx q => by
  refine ⟨s.ok.t, fun H1 hE hT f => ?_⟩
  obtain ⟨g1, o1⟩ := ext_go s.ok hE hT
  refine hb _ G0 H0 σ G H1 _ (s.on g1 o1) (fun C d ks ds G2 H2 g2 o2 hd pe => ?_) fun v d G2 H2 g2 o2 hd pd => ?_
  · obtain ⟨hm, hw⟩ := hx C ks ds pe
    refine ⟨true, hm, fun _ => ⟨C, d, rfl, rfl, fun a na => ?_⟩, fun z => absurd z (by decide)⟩
    obtain ⟨fs, e1, rfl, e3⟩ := hd
    have hda : d ≠ a := fun z => by
      have z2 := o2.u _ _ e1
      rw [z, na] at z2; cases z2
    have g3 := new_go o2 (x := xo a C d) na
    have o3 := new_ok o2 (xo_nt (a := a) (C := C) (d := d)) na
    have st : Stt K B (upd G2 a (xo a C d)) (upd H2 a (xo a C d)) (upd G2 a (xo a C d)) (upd H2 a (xo a C d)) ([some (V.ref f), none].set 1 (some (V.ref a))) [.no, .val (.exn C (fs.map (·.1)) ds)] := by
      refine ⟨Go.refl, o3, rfl, fun i d' h => ?_, fun i es h => ?_, fun i j es es' x h => ?_⟩
      · match i, h with
        | 0, h => cases h
        | 1, h => cases h; exact ⟨.ref a, rfl, .exn upd_same (by rw [upd_ne hda]; exact e1) (e3.mono g3.s)⟩
        | n + 2, h => cases h
      · match i, h with
        | 0, h => cases h
        | 1, h => cases h
        | n + 2, h => cases h
      · match i, h with
        | 0, h => cases h
        | 1, h => cases h
        | n + 2, h => cases h
    exact hw _ _ _ _ _ _ st xs0 (fun _ _ _ _ _ _ z => z.elim) ⟨fun v d' G4 H4 g4 o4 hd' pd' => (((q.on g1 o1).on g2 o2).on g3 o3) v d' G4 H4 g4 o4 hd' pd', fun _ _ _ _ _ _ _ _ _ _ _ _ z => z.elim⟩ (fun _ _ _ _ _ _ z => z.elim) (fun _ _ _ _ _ _ z => z.elim)
  · refine ⟨by show 2 ≤ sizeLine; decide, fun p ob hp hdn => ?_⟩
    exact ((q.on g1 o1).on g2 o2).new o2 nt_tup hp (.tup ⟨upd_same, hdn⟩ ((Dds.cons (.str "told") (.cons hd .nil)).mono (same_upd (o2.fresh hp)))) (hv d pd)
end
end Dl
namespace Dl
open PySem PySem.Spec PyProof.Rows L2 LamX
/-! ### raise C(..) of an own class whose __init__ stores -/
structure Rz (P : Program) (w : World) (K : PySem.W.Frag) (mg : Str → Option Value) (base : Heap) (k : Nat) (x : Str) (C : Addr) (n : Nat) (mk : List V → List (Str × V)) : Prop where
  ex : ∃ (fI : Addr) (fd : FuncData) (ps : List Str), OexC K C ∧ PySem.W.findIn K (.ref C) "__init__" = some (some (.ref fI)) ∧ PySem.W.typeIn K (.ref fI) = some (.type "function") ∧ FnOk P w K mg base L2.CX0 k fI fd ps (spIni C n mk) ∧ Binds K fd ps [] ∧ mg x = some (.ref C)
/-- what the top tells of such a class -/
structure Er (K : PySem.W.Frag) (mg : Str → Option Value) (x q : Str) (C : Addr) (st : Stmt) (fs : List Str) : Prop where
  o : OexC K C
  xf : XfC K C
  n : ∀ f ∈ fs, PySem.W.findIn K (.ref C) f = some none
  i : ∃ (fI : Addr) (fd : FuncData), Fun K "__init__" q st fI fd ∧ PySem.W.findIn K (.ref C) "__init__" = some (some (.ref fI)) ∧ PySem.W.typeIn K (.ref fI) = some (.type "function")
  g : mg x = some (.ref C)
section
variable {X : Cx} {W : WX} {k j n : Nat} {x : Str} {C : Addr} {mk : List V → List (Str × V)} {e : Expr} {es : List Expr} {ta : TA} {p pos pos2 : Pos}
theorem ps_rz (R : Rz X.prog X.w X.K X.mg X.base k x C n mk) (tk : Takes X W) (hc : X.calm = true) (hr : Room j X.A) (hk : k + 1 ≤ j) (hg : Gl X x) (ha : PA X (e :: es) ta) (hdb : (x == ("__debug__" : Str)) = false := by decide)
    (he : starEach (e :: es) X.env = (false, eval e X.env) :: starEach es X.env := by rfl) (hpl : (backTo pos (starEach es X.env)).any (·.1) = false := by rfl) :
    PS X (.Raise (some (.Call (.Name x p) (e :: es) [] pos)) none pos2) (fun _ σ H => tMkO C (spIni C n mk) [] ta σ H fun cls d H' => W cls d σ H') := by
  obtain ⟨fI, fd, ps, T, i, t, F, b, m⟩ := R.ex
  exact ps_raise hc tk (pmk_oex T i t F (hr.mono hk) b .nil (fun _ _ _ _ _ _ _ h => h.elim) hg m ha hdb he hpl)
end
section
variable {P : Program} {w : World} {K : PySem.W.Frag} {mg : Str → Option Value} {base : Heap}
/-- __init__(self, f): self.f = f; self.code = z -/
theorem rz1 {x q f z : Str} {C : Addr} {st : Stmt} {k : Nat} (E : Er K mg x q C st [f, ("code" : Str)]) (S : FnScope [("self" : Str), f] [("self" : Str), f] (defScope st)) (hf : (f == ("__debug__" : Str)) = false) (hf2 : (f == ("__classdict__" : Str)) = false)
    (hb : ∀ (kV doc pm : Value) (an : Option Addr) (cdv ct : Value) (us : List Value), us.length = 2 → bindArgs (PySem.W.fnOf "__init__" q (defArgs st) (defBody st) (defScope st) .none kV doc pm an cdv ct) ⟨us, []⟩ = pure ([("self" : Str), f].zip us))
    {p1 p2 p3 p4 p5 p6 p7 p8 : Pos} {KZ : Nat} (eb : defBody st = [.Assign [.Attribute (.Name "self" p1) f p2] (.Name f p3) p4, .Assign [.Attribute (.Name "self" p5) "code" p6] (.Constant (.str z) KZ p7) p8])
    (sw1 : ∀ (f0 : Addr) (cdv : Value) (A : Around) (outer : List Env) (s : Shared) (H : Hp) (E : XK), swapsWith (.Name f p3) (some (.Attribute (.Name "self" p1) f p2)) p4.line (cxOf L2.CX0 P w K mg base [("self" : Str), f] q (defScope st) f0 cdv A outer s H E).nox.env = pure false)
    (sw2 : ∀ (f0 : Addr) (cdv : Value) (A : Around) (outer : List Env) (s : Shared) (H : Hp) (E : XK), swapsWith (.Constant (.str z) KZ p7) (some (.Attribute (.Name "self" p5) "code" p6)) p8.line (cxOf L2.CX0 P w K mg base [("self" : Str), f] q (defScope st) f0 cdv A outer s H E).nox.env = pure false) :
    Rz P w K mg base (k + 1) x C 1 (fun ws => [("code", .str z), (f, ws.headD .non)]) := by
  obtain ⟨fI, fd, F, i, t⟩ := E.i
  refine ⟨fI, fd, [("self" : Str), f], E.o, i, t, F.ok S (fun vs H Q E' h => ?_) (fun cdv A outer s H vs Q E' hr h => ?_), F.binds hb, E.g⟩
  · obtain ⟨a, ws, rfl, l, _⟩ := h
    rw [List.length_cons, l]; rfl
  · obtain ⟨a, ws, rfl, l, hA, hq⟩ := h
    obtain ⟨v, rfl⟩ : ∃ v, ws = [v] := by
      match ws, l with
      | [v], _ => exact ⟨v, rfl⟩
    rw [eb]
    have vs0 : Vis (defScope st) "self" := (S.par "self" (by simp)).elim .inl (fun h => .inr (.inl h))
    have vs1 : Vis (defScope st) f := (S.par f (by simp)).elim .inl (fun h => .inr (.inl h))
    refine ⟨_, pss_cons (ps_ost (pe_var (i := 0) rfl vs0) (pe_var (i := 1) rfl vs1 hf hf2) (sw1 _ _ _ _ _ _ _)) (pss_one (ps_ost (pe_var (i := 0) rfl vs0) pe_str (sw2 _ _ _ _ _ _ _))), ?_⟩
    refine ⟨v, rfl, .ref a, rfl, a, C, rfl, E.o, E.n f (by simp), .inl ⟨hA, fun dx nd ne => ?_⟩⟩
    refine ⟨.ref a, rfl, a, C, rfl, E.o, E.n "code" (by simp), .inr ⟨dx, [(f, v)], upd_same, ?_, (by show 1 ≤ 900; decide), ?_⟩⟩
    · rw [upd_ne ne, upd_same]
    · have e : upd (upd (upd H dx (exd dx [(f, v)])) a (exo a C (some dx))) dx (exd dx [("code", .str z), (f, v)]) = upd (upd H dx (exd dx [("code", .str z), (f, v)])) a (exo a C (some dx)) := by
        funext b
        by_cases hb : b = dx
        · rw [hb, upd_same, upd_ne ne, upd_same]
        · rw [upd_ne hb]
          by_cases ha : b = a
          · rw [ha, upd_same, upd_same]
          · rw [upd_ne ha, upd_ne ha, upd_ne hb, upd_ne hb]
      show Q .non (upd (upd (upd H dx (exd dx [(f, v)])) a (exo a C (some dx))) dx (exd dx [("code", .str z), (f, v)]))
      rw [e]
      exact hq dx nd ne
end
end Dl
namespace Dl
open PySem L2
section
variable {K : PySem.W.Frag} {B : Bt} {δ : List Sd} {te : TE} {O : Out}
/-- a, b = a list of two, a tuple of two; a, b, c = x, y, z -/
theorem ws_unl2 {i j : Nat} (h : WEx K B O.x te δ fun d => ∃ a b, d = .lst [a, b] ∧ O.nx ((δ.set i (.val a)).set j (.val b))) : WS K B (tAsg te (gLst K 2 (gCons (gName i) (gCons (gName j) gNil)))) δ O := fun G0 H0 σ G H E s xx n _ _ _ =>
  h G0 H0 σ G H _ s (xx.ct s) fun v d G1 H1 g o hd ⟨a, b, e, p⟩ => by
    subst e
    cases hd with
    | lst hg t =>
      cases t with
      | cons h1 t =>
        cases t with
        | cons h2 t =>
          cases t
          exact ⟨_, _, rfl, SqL.of (o.u _ _ hg), rfl, _, _, rfl, _, _, rfl, rfl, n _ _ G1 H1 g.s (((s.on g o).setVal i h1).setVal j h2) p⟩
theorem ws_unt2 {i j : Nat} (h : WEx K B O.x te δ fun d => ∃ a b, d = .tup [a, b] ∧ O.nx ((δ.set i (.val a)).set j (.val b))) : WS K B (tAsg te (gTup K 2 (gCons (gName i) (gCons (gName j) gNil)))) δ O := fun G0 H0 σ G H E s xx n _ _ _ =>
  h G0 H0 σ G H _ s (xx.ct s) fun v d G1 H1 g o hd ⟨a, b, e, p⟩ => by
    subst e
    cases hd with
    | tup hg t =>
      cases t with
      | cons h1 t =>
        cases t with
        | cons h2 t =>
          cases t
          exact ⟨_, _, rfl, SqT.ofZ (o.u _ _ hg.1), rfl, _, _, rfl, _, _, rfl, rfl, n _ _ G1 H1 g.s (((s.on g o).setVal i h1).setVal j h2) p⟩
theorem ws_par3 {i j l : Nat} {ta : TA} (h : WAx K B O.x ta δ fun ds => ∃ a b c, ds = [a, b, c] ∧ O.nx (((δ.set i (.val a)).set j (.val b)).set l (.val c))) : WS K B (tPar3 i j l ta) δ O := fun G0 H0 σ G H E s xx n _ _ _ =>
  h G0 H0 σ G H _ s (xx.ct s) fun vs ds G1 H1 g o hs ⟨a, b, c, e, p⟩ => by
    subst e
    cases hs with
    | cons h1 t1 =>
      cases t1 with
      | cons h2 t2 =>
        cases t2 with
        | cons h3 t3 =>
          cases t3
          exact ⟨_, _, _, rfl, n _ _ G1 H1 g.s ((((s.on g o).setVal i h1).setVal j h2).setVal l h3) p⟩
end
end Dl
namespace Dl
open PySem L2
theorem u65 {k : Nat} {A : Around} (hr : Room k A) : A.units + 65 < cLine := by have := hr.un; omega
end Dl
namespace Dl
open PySem PySem.Spec PyProof.Rows L2
open L2H (RoomH roomH_of)
section
variable {P : Program} {w : World} {K : PySem.W.Frag} {mg : Str → Option Value} {base : Heap}
/-- a def that may be called where an error is handled -/
structure ClHot (P : Program) (w : World) (K : PySem.W.Frag) (mg : Str → Option Value) (base : Heap) (k : Nat) (x : Str) (ps : List Str) (sp : Sp) : Prop where
  ex : ∃ (ff : Addr) (fd : FuncData), FnT P w K mg base k ff fd ps sp ∧ mg x = some (.ref ff) ∧ PySem.W.keepIn K (.ref ff) = true ∧ Binds K fd ps []
theorem clHot_of {x : Str} {st : Stmt} {N ps : List Str} {k : Nat} {pre : List D → Prop} {post : List D → D → Prop} (F : Df K mg x st) (S : FnScope N ps (defScope st))
    (hb : ∀ (kV doc pm : Value) (an : Option Addr) (cdv ct : Value) (us : List Value), us.length = ps.length → bindArgs (PySem.W.fnOf x x (defArgs st) (defBody st) (defScope st) .none kV doc pm an cdv ct) ⟨us, []⟩ = pure (ps.zip us))
    (hl : ∀ ds, pre ds → ds.length = ps.length)
    (h : ∀ (f : Addr) (cdv : Value) (A : Around) (outer : List Env) (s : Shared) (H : Hp) (E : XK), RoomH k (A.deeper (envOfC x (defScope st) s.heap.objs.size f cdv)) →
      ∃ t, PSs (cxT P w K mg base N x (defScope st) f cdv A outer s H E).nox (defBody st) t ∧ ∀ B ds, pre ds → WS K B t (init N ds) { nx := fun _ => post ds .non, rt := post ds }) : ClHot P w K mg base (k + 1) x ps (SpD K pre post) := by
  obtain ⟨f, fd, F, hm⟩ := F.ex
  have kp := F.kp
  have hbd := F.binds hb
  obtain ⟨oc, od, kV, doc, pm, an, cdv, ct, osl, rfl, lk, hcd⟩ := F.ex
  refine ⟨f, _, fn_ofT lk hcd S (fun vs H Q E hsp => ?_) (fun A outer s H vs Q E hr hsp => ?_), hm, kp, hbd⟩
  · obtain ⟨B, G, ds, o, hs, p, q⟩ := hsp
    exact hs.length.trans (hl ds p)
  · obtain ⟨B, G, ds, o, hs, p, q⟩ := hsp
    obtain ⟨t, ht, ww⟩ := h f cdv A outer s H E hr
    exact ⟨t, ht, ww B ds p G H _ G H _ (stt_start o hs) xs0 (fun σ1 δ1 G1 H1 _ s1 z => q .non .non G1 H1 s1.go s1.ok .non z) ⟨fun v d G1 H1 g o1 hd z => q v d G1 H1 g o1 hd z, fun _ _ _ _ _ _ _ _ _ _ _ _ z => z.elim⟩ (fun _ _ _ _ _ _ z => z.elim) (fun _ _ _ _ _ _ z => z.elim)⟩
end
end Dl
/-! Ua: a tuple of deep data: its least item, the place of an item; rules of HandS' form, then by plain data. -/
namespace Dl
open PySem PySem.Spec PyProof.Rows L2
section
variable {X : Cx}
/-- t.index(x) -/
def rIdxT (K : PySem.W.Frag) : V → List V → Hp → VK → Prop := fun x ws H Q => ∃ (a : Addr) (ys : List V) (y : V) (d : PyData) (ds : List PyData) (j : Nat) (z : PyData), x = .ref a ∧ ws = [y] ∧ SqT K H a ys ∧ DpAll K H ys ds ∧ Dp K H y d ∧
  PyData.canLayAll0 ds = true ∧ d.canLay0 = true ∧ d.depth ≤ 60 ∧ ds[j]? = some z ∧ PyData.eqv z d = true ∧ (∀ (m : Nat) (z' : PyData), m < j → ds[m]? = some z' → PyData.eqv z' d = false) ∧ Q (.int (j : Nat)) H
theorem mt_idxT (hu : X.A.units + 65 < cLine) : MtR X "tuple.index" (rIdxT X.K) := by
  intro pins s σ H x ws v us Q I rx rws h
  obtain ⟨a, ys, y, d, ds, j, z, rfl, rfl, hs, ha, hy, hxs, hd, hdp, hz, hzj, hno, q⟩ := h
  cases rx
  obtain ⟨u, rfl, ru⟩ := vals1 rws
  obtain ⟨bs, r1⟩ := Dp.reads I d y u hy ru
  obtain ⟨its, rv, pl, hlen⟩ := I.tuple hs
  obtain ⟨as, r2⟩ := Dp.readsAll I ds ys its ha rv
  have hmap : its.map (SeqAt.readOf s.heap) = ds := SeqAt.readsAll_map ds its as hxs r2
  have hn : its.length = ds.length := by rw [← hmap, List.length_map]
  obtain ⟨⟨cls, dd, dt, sl⟩, ho, hc, n, hdt⟩ := pl
  simp only at hc hdt
  subst hc
  subst hdt
  have hjd := (List.getElem?_eq_some_iff.mp hz).1
  have hj : j < its.toArray.size := by rw [List.size_toArray, hn]; exact hjd
  have e0 : ∀ (m : Nat) (hm : m < its.toArray.size), ds[m]? = some (SeqAt.readOf s.heap its.toArray[m]) := fun m hm => by
    have hm' : m < its.length := by simpa using hm
    rw [← hmap, List.getElem?_map, List.getElem?_eq_getElem hm']
    simp
  have hroom : X.A.units + 1 + min (PyData.depthAll ds) d.depth < cLine := by
    have : min (PyData.depthAll ds) d.depth ≤ d.depth := Nat.min_le_right ..
    omega
  have eqs : ∀ y, y ∈ its.toArray → SeqAt.EqAt X.A.in1 s y u (PyData.eqv (SeqAt.readOf s.heap y) d) := SeqAt.items_eqAt (vs := its.toArray) (A := X.A) (show ReadsAll s.heap its.toArray.toList ds as from r2) r1 hxs hd hroom
  refine call_meets PySem.F.slot_tuple_index ⟨_, ho, rfl⟩ PySem.F.entry_tuple_index (PySem.F.args_tuple_index_2 _ _)
    (SeqAt.tuple_index2_found a its.toArray n dd sl u (fun m => PyData.eqv ((ds[m]?).getD .none) d) j hj (Nat.zero_le _) hj ?_ ?_) ⟨ho, fun m hm => ?_, ?_⟩
  · show PyData.eqv ((ds[j]?).getD .none) d = true
    rw [hz]; exact hzj
  · intro m hm _ hmj
    show PyData.eqv ((ds[m]?).getD .none) d = false
    rw [e0 m hm]
    exact hno m _ hmj (e0 m hm)
  · have := eqs its.toArray[m] (Array.getElem_mem hm)
    have e1 : PyData.eqv ((ds[m]?).getD .none) d = PyData.eqv (SeqAt.readOf s.heap its.toArray[m]) d := by rw [e0 m hm]; rfl
    exact e1 ▸ this
  · exact ⟨.int (j : Nat), H, I.tok _, ⟨_, rfl⟩, q⟩
/-! ### pairs of numbers -/
abbrev Pr2 := Int × Int
def pairP (p : Pr2) : PyData := .tuple [.int p.1, .int p.2]
def pairD (p : Pr2) : D := .tup [.int p.1, .int p.2]
def ltPr (p q : Pr2) : Bool := decide (p.1 < q.1 ∨ (p.1 = q.1 ∧ p.2 < q.2))
def minPr (p : Pr2) (ps : List Pr2) : Pr2 := ps.foldl (fun a y => if ltPr y a = true then y else a) p
theorem lay_pairP (p : Pr2) : (pairP p).canLay0 = true := by simp [pairP, PyData.canLay0, PyData.canLayAll0]
theorem lay_pairPs : ∀ ps : List Pr2, PyData.canLayAll0 (ps.map pairP) = true
  | [] => by simp [PyData.canLayAll0]
  | p :: ps => by simp [PyData.canLayAll0, lay_pairP p, lay_pairPs ps]
theorem dep_pairP (p : Pr2) : (pairP p).depth ≤ 2 := by simp [pairP, PyData.depth, PyData.depthAll]
theorem dep_pairPs : ∀ ps : List Pr2, PyData.depthAll (ps.map pairP) ≤ 2
  | [] => by simp [PyData.depthAll]
  | p :: ps => by
    have h1 := dep_pairP p
    have h2 := dep_pairPs ps
    simp only [List.map_cons, PyData.depthAll]
    omega
theorem eqv_pairP (p q : Pr2) : PyData.eqv (pairP p) (pairP q) = decide (p = q) := by
  rw [Bool.eq_iff_iff]
  unfold pairP
  simp [PyData.eqv, PyData.eqvAll, Prod.ext_iff]
theorem lt_pairP (p q : Pr2) : PySem.W.dataLt (pairP p) (pairP q) = ltPr p q := PySem.W.dataLt_ii _ _ _ _
theorem min_pairP (ps : List Pr2) : ∀ p : Pr2, PySem.W.minD (pairP p) (ps.map pairP) = pairP (minPr p ps) := by
  induction ps with
  | nil => intro p; rfl
  | cons q ps ih =>
    intro p
    unfold PySem.W.minD minPr at ih ⊢
    rw [List.map_cons, List.foldl_cons, List.foldl_cons, lt_pairP]
    by_cases h : ltPr q p = true
    · rw [if_pos h, if_pos h]; exact ih q
    · rw [if_neg h, if_neg h]; exact ih p
theorem alike_pairP (ps : List Pr2) : PySem.W.AlikeAll (ps.map pairP) := by
  constructor
  · intro x hx y hy
    obtain ⟨p, _, rfl⟩ := List.mem_map.mp hx
    obtain ⟨q, _, rfl⟩ := List.mem_map.mp hy
    simp [pairP, PySem.W.alike, PySem.W.alikeAll]
  · intro x hx
    obtain ⟨p, _, rfl⟩ := List.mem_map.mp hx
    exact fun z => nomatch z
/-- min(t), of a tuple of pairs -/
def rMinT (K : PySem.W.Frag) : List V → Hp → VK → Prop := fun ws H Q => ∃ (a : Addr) (ys : List V) (p : Pr2) (ps : List Pr2), ws = [.ref a] ∧ SqT K H a ys ∧ DpAll K H ys ((p :: ps).map pairP) ∧
  ∀ (i : Nat) (y : V), ys[i]? = some y → (p :: ps)[i]? = some (minPr p ps) → Q y H
theorem call_minT (hc : X.calm = true) (hu : X.A.units + 65 < cLine) : CallR X (.builtin "min") (rMinT X.K) := by
  intro pins s σ H vs us Q I r h
  obtain ⟨a, ys, p, ps, rfl, hs, ha, q⟩ := h
  obtain ⟨its, rv, pl, _⟩ := I.tuple hs
  rw [Vals.ref1 r]
  obtain ⟨as, r2⟩ := Dp.readsAll I _ ys its ha rv
  have hmap : its.map (SeqAt.readOf s.heap) = (p :: ps).map pairP := SeqAt.readsAll_map _ its as (lay_pairPs _) r2
  have hdp := dep_pairPs (p :: ps)
  refine PySem.W.min_tuple_data (vs := its.toArray) (x := pairP p) (xs := ps.map pairP) (I.ok.hd hc) (show s.heap.IsTuple a its.toArray from pl) (show ReadsAll s.heap its.toArray.toList ((p :: ps).map pairP) as from r2) (alike_pairP (p :: ps)) (show X.A.units + 1 + PyData.depthAll ((p :: ps).map pairP) < cLine by omega) fun i v h' tk bs hi rd keep => ?_
  have hi' : its[i]? = some v := by simpa using hi
  have hyl : ys.length = its.length := rv.length
  have hil : i < its.length := (List.getElem?_eq_some_iff.mp hi').1
  have hy : ys[i]? = some ys[i] := List.getElem?_eq_getElem (by omega)
  obtain ⟨w, hw, rw'⟩ := rv.get hy
  have ew : w = v := by rw [hi'] at hw; exact (Option.some.inj hw).symm
  subst ew
  obtain ⟨cs, rd0, hl2, _, _⟩ := PySem.W.readsAll_at r2 i w hi'
  have hlen2 : i < (p :: ps).length := by simpa using hl2
  have e1 : ((p :: ps).map pairP).getD i .none = pairP (p :: ps)[i] := by
    rw [List.getD_eq_getElem?_getD, List.getElem?_map, List.getElem?_eq_getElem hlen2]
    rfl
  rw [e1] at rd0
  have rd1 := PySem.W.reads_keeps keep rd0
  rw [min_pairP] at rd
  have e2 : pairP (p :: ps)[i] = pairP (minPr p ps) := (SeqAt.readOf_eq (lay_pairP _) rd1).symm.trans (SeqAt.readOf_eq (lay_pairP _) rd)
  have e3 : (p :: ps)[i] = minPr p ps := by
    have := eqv_pairP (p :: ps)[i] (minPr p ps)
    rw [e2, eqv_pairP] at this
    simpa using this
  exact ⟨ys[i], H, I.kept keep, rw', q i _ hy (by rw [List.getElem?_eq_getElem hlen2, e3])⟩
end
/-! ### by plain data -/
section
variable {K : PySem.W.Frag} {B : Bt} {P : D → Prop} {δ : List Sd} {X : Xc}
theorem dp_pr {G H : Hp} {v : V} {p : Pr2} (o : Ok B G H) (h : Dd K B G v (pairD p)) : Dp K H v (pairP p) := by
  unfold pairD at h
  cases h with
  | tup hg t =>
    cases t with
    | cons h1 t =>
      cases t with
      | cons h2 t =>
        cases t
        cases h1
        cases h2
        exact .tup (SqT.ofZ (o.u _ _ hg.1)) (.cons (.int _) (.cons (.int _) .nil))
theorem dpa_pr {G H : Hp} (o : Ok B G H) : ∀ (ps : List Pr2) {vs : List V}, Dds K B G vs (ps.map pairD) → DpAll K H vs (ps.map pairP)
  | [], _, .nil => .nil
  | _ :: ps, _, .cons h t => .cons (dp_pr o h) (dpa_pr o ps t)
/-- min(t) -/
theorem rc_minT {p : Pr2} {ps : List Pr2} (h : P (pairD (minPr p ps))) : RC K B (rMinT K) [.tup ((p :: ps).map pairD)] P := fun G H vs Q o hs q => by
  cases hs with
  | cons h1 t1 =>
    cases t1
    cases h1 with
    | tup hg t =>
      refine ⟨_, _, p, ps, rfl, SqT.ofZ (o.u _ _ hg.1), dpa_pr o (p :: ps) t, fun i y hy e => ?_⟩
      obtain ⟨d, hd, hdd⟩ := t.get' hy
      rw [List.getElem?_map, e] at hd
      cases hd
      exact q.nil o hdd h
/-- t.index(p) -/
theorem we_idxT {to : TE} {ta : TA} (h : WEx K B X to δ fun a => ∃ ps : List Pr2, a = .tup (ps.map pairD) ∧ WAx K B X ta δ fun ds => ∃ p, ds = [pairD p] ∧ p ∈ ps ∧ P (.int (ps.idxOf p : Nat))) : WEx K B X (tMG tyZ (rIdxT K) to ta) δ P := fun G0 H0 σ G H Q s xx q =>
  h G0 H0 σ G H _ s xx fun x a G1 H1 g1 o1 hx ⟨ps, e, w⟩ => by
    subst e
    cases hx with
    | tup hg t =>
      refine ⟨⟨_, _, _, rfl, o1.u _ _ hg.1, hg.2⟩, w G0 H0 σ G1 H1 _ (s.on g1 o1) (xx.on g1 o1) fun vs ds G2 H2 g2 o2 hs ⟨p, e2, hm, hp⟩ => ?_⟩
      subst e2
      cases hs with
      | cons h2 t2 =>
        cases t2
        have tt := t.mono g2.s
        have hl : ps.idxOf p < ps.length := List.idxOf_lt_length_of_mem hm
        refine ⟨_, _, _, pairP p, ps.map pairP, ps.idxOf p, pairP p, rfl, rfl, SqT.ofZ (o2.u _ _ (g2.s _ _ hg.1)), dpa_pr o2 ps tt, dp_pr o2 h2, lay_pairPs ps, lay_pairP p, Nat.le_trans (dep_pairP p) (by decide), ?_, ?_, ?_, ((q.on g1 o1).on g2 o2).nil o2 (.int _) hp⟩
        · rw [List.getElem?_map, List.getElem?_eq_getElem hl, List.getElem_idxOf hl]
          rfl
        · rw [eqv_pairP, decide_eq_true rfl]
        · intro m z hmj hz
          rw [List.getElem?_map] at hz
          cases e3 : ps[m]? with
          | none => rw [e3] at hz; cases hz
          | some p' =>
            rw [e3] at hz
            cases hz
            rw [eqv_pairP, decide_eq_false_iff_not]
            intro e4
            subst e4
            have := List.not_of_lt_findIdx (p := (· == p')) hmj
            have e5 : ps[m]'(by omega) = p' := by
              have := List.getElem?_eq_some_iff.mp e3
              exact this.2
            simp [e5] at this
end
end Dl
/-! Ub: a comprehension over pairs: for a, b in xs. -/
namespace Dl
open PySem PySem.Spec PyProof.Rows L2
section
variable {K : PySem.W.Frag} {B : Bt} {P : D → Prop} {δ : List Sd} {X : Xc} {tt : TT}
/-- a comprehension of one clause over a pair of names, by a word -/
theorem we_lcP {wi : TI} {i j : Nat} (hij : i ≠ j) {te : TE} (h : WIx K B X wi δ fun its => its.length ≤ 1000 ∧ ∃ I : Nat → List D → Prop, I 0 [] ∧ (∀ k d acc, its[k]? = some d → I k acc → ∃ d1 d2, d = .tup [d1, d2] ∧ WT K B tt ((δ.set i (.val d1)).set j (.val d2)) fun b => if b = true then WE K B te ((δ.set i (.val d1)).set j (.val d2)) fun y => I (k + 1) (acc ++ [y]) else I (k + 1) acc) ∧ ∀ acc, I its.length acc → P (.lst acc)) :
    WEx K B X (tLc wi (gTup K 2 (gCons (gName i) (gCons (gName j) gNil))) tt te [i, j]) δ P := fun G0 H0 σ G H Q s xx q =>
  h G0 H0 σ G H _ s xx fun J its G1 H1 g1 o1 it ⟨hlen, I, i0, turn, last⟩ => by
    intro A hA
    have s1 := s.on g1 o1
    have q1 := q.on g1 o1
    have nAB := o1.neB hA
    have gA1 : G1 A = none := o1.fresh hA
    have nn : ∀ (a : Addr), H1 a ≠ none → a ≠ A := fun a h e => h (e ▸ hA)
    refine ⟨fun k m H => m = its.length - k ∧ k ≤ its.length ∧ ∃ G vs acc, Go B G1 H1 G H ∧ G A = none ∧ Ok B G H ∧ H A = some (.lst vs) ∧ Dds K B G vs acc ∧ acc.length ≤ k ∧ I k acc,
      ⟨_, rfl, Nat.zero_le _, G1, [], [], loose_go o1 hA, gA1, loose_ok o1 hA, upd_same, .nil, Nat.le_refl _, i0⟩, ?_⟩
    rintro k m H2 ⟨rfl, hk, G2, vs, acc, g2, gA, o2, hV, hD, hL, ik⟩
    obtain ⟨f1, f2, f3⟩ := it G2 H2 k g2.s o2
    have st : Stt K B G0 H0 G2 H2 σ δ := s1.on g2 o2
    by_cases hlt : k < its.length
    · refine .inr ⟨f1 hlt, fun H' => ∃ G vs acc, Go B G1 H1 G H' ∧ G A = none ∧ Ok B G H' ∧ H' A = some (.lst vs) ∧ Dds K B G vs acc ∧ acc.length ≤ k + 1 ∧ I (k + 1) acc,
        fun H' hN => ⟨its.length - (k + 1), by omega, rfl, hlt, hN⟩, fun x H3 y => ?_⟩
      obtain ⟨d, G3, e1, g3, o3, hd⟩ := f2 x H3 hlt y
      obtain ⟨d1, d2, ed, tn⟩ := turn k d acc e1 ik
      subst ed
      cases hd with
      | tup hg ht =>
      cases ht with
      | cons hd1 ht =>
      cases ht with
      | cons hd2 ht =>
      cases ht
      rename_i x1 x2
      have s3 : Stt K B G0 H0 G3 H3 (((wipe σ [i, j]).set i (some x1)).set j (some x2)) ((δ.set i (.val d1)).set j (.val d2)) := by
        have z := ((((st.on g3 o3).wipe1 j).wipe1 i).setVal i hd1).setVal j hd2
        have ez : (((δ.set j Sd.no).set i Sd.no).set i (.val d1)).set j (.val d2) = (δ.set i (.val d1)).set j (.val d2) := by
          rw [List.set_set, List.set_comm (l := δ) _ _ (Ne.symm hij), List.set_set]
        rw [ez] at z
        exact z
      have hV3 := g3.k A _ nAB nt_lst hV
      have gA3 := g3.n A _ nt_lst hV gA
      refine ⟨_, _, rfl, SqT.ofZ (o3.u _ _ hg.1), rfl, _, _, rfl, _, _, rfl, rfl, ?_, tn G0 H0 _ G3 H3 _ s3 ctx0 fun b G4 H4 g4 o4 w => ?_⟩
      · show ((((((σ.set j none).set i none).set i (some x1)).set j (some x2)).set j none).set i none) = (σ.set j none).set i none
        apply List.ext_getElem?
        intro n
        simp only [List.getElem?_set, List.length_set]
        by_cases h1 : i = n <;> by_cases h2 : j = n <;> simp [h1, h2]
      have hV4 := g4.k A _ nAB nt_lst hV3
      have gA4 := g4.n A _ nt_lst hV3 gA3
      have go4 : Go B G1 H1 G4 H4 := (g2.trans o2 g3).trans o3 g4
      have hD4 : Dds K B G4 vs acc := (hD.mono g3.s).mono g4.s
      cases b with
      | false => exact ⟨G4, vs, acc, go4, gA4, o4, hV4, hD4, Nat.le_succ_of_le hL, w⟩
      | true =>
        refine w G0 H0 _ G4 H4 _ (s3.on g4 o4) ctx0 fun y e G5 H5 g5 o5 hy w5 => ?_
        have hV5 := g5.k A _ nAB nt_lst hV4
        have gA5 := g5.n A _ nt_lst hV4 gA4
        have go5 : Go B G1 H1 G5 H5 := go4.trans o4 g5
        refine ⟨vs, hV5, Nat.lt_of_le_of_lt (by rw [hD.length]; omega : vs.length ≤ 1000) (by decide), G5, vs ++ [y], acc ++ [e], ?_, gA5, write_ok o5 hV5 gA5 nAB, upd_same, (hD4.mono g5.s).append (.cons hy .nil), by rw [List.length_append, List.length_singleton]; omega, w5⟩
        refine ⟨go5.s, fun a o nb ht h => ?_, go5.n, fun c r h => ?_⟩
        · rw [upd_ne (nn a (by rw [h]; exact fun z => nomatch z))]; exact go5.k a o nb ht h
        · obtain ⟨r', h'⟩ := go5.c c r h
          exact ⟨r', by rw [upd_ne nAB.symm]; exact h'⟩
    · have ek : k = its.length := by omega
      subst ek
      refine .inl ⟨f3 rfl, q1 (.ref A) (.lst acc) (upd G2 A (.lst vs)) H2 ⟨g2.s.trans (same_upd gA), g2.k, fun a o ht h g => ?_, g2.c⟩ (freeze_ok o2 nt_lst nAB gA hV) (.lst upd_same (hD.mono (same_upd gA))) (last acc ik)⟩
      rw [upd_ne (nn a (by rw [h]; exact fun z => nomatch z))]
      exact g2.n a o ht h g
end
end Dl
/-! Uc: t[::-1] of any tuple. -/
namespace Dl
open PySem PySem.Spec PyProof.Rows L2 HT
section
variable {prog : Program} {w : World} {A : Around} {E : Value → Shared → Prop} {s : Shared}
theorem sliceApplied_back {sl : Addr} {tk : Tok} {n : Nat} {Q : Int × Int × Nat → Shared → Prop} (hs : s.heap.IsSliceOf sl .none .none (.int (-1) tk))
    (h : Q ((n : Int) - 1, -1, n) s) : wpAny (model prog w) A (Builtin.Slice.sliceApplied (.ref sl) (pure ((n : Nat) : Int))) Q E s := by
  obtain ⟨os, hos, hcs, hds⟩ := id hs
  unfold Builtin.Slice.sliceApplied Builtin.Slice.sliceFields
  refine wpAny_bind (wpAny_bind (wpAny_field hos hds (x := .none) rfl (wpAny_bind (wpAny_field hos hds (x := .none) rfl (wpAny_bind (wpAny_field hos hds (x := .int (-1) tk) rfl (wpAny_pure ?_)))))))
  refine wpAny_bind (slicePart_int ?_)
  show wpAny _ _ (if ((-1 : Int) == 0) = true then _ else _) _ _ s
  rw [if_neg (by decide)]
  refine wpAny_bind (slicePart_none (wpAny_bind (slicePart_none (wpAny_bind (wpAny_pure ?_)))))
  have e : Builtin.Slice.slicePlaces ((n : Int) - 1) (-1) (-1) = n := by
    unfold Builtin.Slice.slicePlaces
    rw [if_neg (by decide), show (- -1 : Int) = 1 from rfl, Int.ediv_one]
    split <;> omega
  show wpAny _ _ (pure ((n : Int) - 1, (-1 : Int), Builtin.Slice.slicePlaces ((n : Int) - 1) (-1) (-1))) _ _ s
  rw [e]
  exact wpAny_pure h
theorem getItem_tuple_back {t sl : Addr} {items : List Value} {tk : Tok} {Q : Value → Shared → Prop} (ht : IsTup s.heap t items.toArray) (hz : items.length ≤ sizeLine) (hs : s.heap.IsSliceOf sl .none .none (.int (-1) tk))
    (h : Q (.ref s.heap.objs.size) { s with heap := s.heap.push { cls := .type "tuple", data := .seq items.reverse.toArray } }) : wpAny (model prog w) A (getItem (.ref t) (.ref sl)) Q E s := by
  have htake : sizeOk (.seq items.reverse.toArray) := by
    show items.reverse.toArray.size ≤ sizeLine
    rw [List.size_toArray, List.length_reverse]
    exact hz
  obtain ⟨os, hos, hcs, hds⟩ := id hs
  have hTs : s.TypeIs (.ref sl) "slice" := ⟨os, hos, hcs⟩
  unfold getItem
  try with_reducible refine wpAny_holding ?_
  first | refine wpAny_bind (wpAny_pure ?_) | skip
  refine wpAny_bind (wpAny_sequenceKey ht.typeIs (by decide) ?_)
  refine wpAny_bind (wpAny_callSpecial?_slot (name := Str.ofString "__getitem__") ht.typeIs PyProof.Rows.slot_tuple_getitem
    (wpAny_call_entry PyProof.Rows.slot_tuple_getitem ht.typeIs entry_tuple_getitem ?_ (args_tuple_getitem _ _)))
  show wpAny _ _ (Builtin.Tuple.tupleItemsOf (.ref t) >>= _) _ _ s
  refine wpAny_bind (tupleItemsOf_ ht ?_)
  refine wpAny_bind (wpAny_typeOf hTs ?_)
  rw [if_pos (by decide)]
  refine wpAny_bind (sliceApplied_back (n := items.toArray.size) hs ?_)
  have eb : (((items.toArray.size : Int) - 1 == 0 && (-1 : Int) == 1 && items.toArray.size == items.toArray.size) = true) = False := by
    have : ((-1 : Int) == 1) = false := by decide
    rw [this, Bool.and_false, Bool.false_and]
    simp
  have er : ((List.range items.toArray.size).filterMap fun (k : Nat) => items.toArray[((items.toArray.size : Int) - 1 + (k : Int) * -1).toNat]?) = items.reverse := by
    rw [List.size_toArray]
    have key : ∀ m : Nat, m ≤ items.length → ((List.range m).filterMap fun (k : Nat) => items.toArray[((items.length : Int) - 1 + (k : Int) * -1).toNat]?) = (items.drop (items.length - m)).reverse := by
      intro m
      induction m with
      | zero => intro _; rw [Nat.sub_zero, List.drop_length]; rfl
      | succ m ih =>
        intro hm
        have e1 : ((items.length : Int) - 1 + (m : Int) * -1).toNat = items.length - (m + 1) := by omega
        have hlt : items.length - (m + 1) < items.length := by omega
        rw [List.range_succ, List.filterMap_append, ih (by omega), List.drop_eq_getElem_cons hlt, List.reverse_cons, show items.length - (m + 1) + 1 = items.length - m by omega]
        congr 1
        simp only [List.filterMap_cons, List.filterMap_nil, e1, List.getElem?_toArray, List.getElem?_eq_getElem hlt]
    rw [key _ (Nat.le_refl _), Nat.sub_self, List.drop_zero]
  show wpAny _ _ (if ((items.toArray.size : Int) - 1 == 0 && (-1 : Int) == 1 && items.toArray.size == items.toArray.size) = true then _ else _) _ _ s
  rw [if_neg (by rw [eb]; exact id)]
  rw [er]
  first
    | exact wpAny_bind (m := Builtin.Tuple.tupleExact _) (wpAny_newObj_type (wpAny_pure ⟨_, rfl, wpAny_pure h⟩) htake)
    | exact wpAny_bind (m := Builtin.Tuple.tupleExact _) (wpAny_newObj_type (wpAny_bind (wpAny_pure (wpAny_pure ⟨_, rfl, wpAny_pure h⟩))) htake)
    | exact wpAny_bind (wpAny_bind (m := Builtin.Tuple.tupleExact _) (wpAny_newObj_type (wpAny_pure (wpAny_pure ⟨_, rfl, wpAny_pure h⟩)) htake))
    | exact wpAny_bind (wpAny_bind (m := Builtin.Tuple.tupleExact _) (wpAny_newObj_type (wpAny_pure ⟨_, rfl, wpAny_pure h⟩) htake))
end
section
variable {X : Cx}
/-- t[::-1] -/
def tBackT (K : PySem.W.Frag) (te : TE) : TE := fun σ H Q => te σ H fun x H1 => ∃ a xs, x = .ref a ∧ SqT K H1 a xs ∧ NewT Q H1 xs.reverse
theorem pe_backT {e : Expr} {te : TE} {k : Nat} {p1 p2 p3 pos : Pos} (he : PE X e te) : PE X (.Subscript e (.Slice none none (some (.UnaryOp .USub (.Constant (.int 1) k p1) p2)) p3) pos) (tBackT X.K te) := by
  refine ⟨fun pins s σ H Q I h => ?_⟩
  refine Subscript_ (thn (he.run pins s σ H _ I h) fun v s1 ⟨x, H1, I1, r1, q1⟩ => ?_)
  obtain ⟨a, xs, ex, hx, q⟩ := q1
  subst ex
  cases r1
  have hst : PO X (some (.UnaryOp .USub (.Constant (.int 1) k p1) p2)) (tPart (tUn (rU fun i => .int (-i)) (tC (.int 1)))) := po_some (pe_un un_neg pe_int)
  refine wpAny_Slice (thn (po_none.run pins s1 σ H1 (fun o H2 => o = none ∧ H2 = H1) I1 ⟨rfl, rfl⟩) fun vl s2 ⟨l, H2, I2, pl, el, e2⟩ => ?_)
  subst el e2
  refine thn (po_none.run pins s2 σ H2 (fun o H3 => o = none ∧ H3 = H2) I2 ⟨rfl, rfl⟩) fun vu s3 ⟨u', H3, I3, pu, eu, e3⟩ => ?_
  subst eu e3
  refine thn (hst.run pins s3 σ H3 (fun o H4 => o = some (-1) ∧ H4 = H3) I3 ⟨1, rfl, -1, rfl, rfl, rfl⟩) fun vs s4 ⟨o, H4, I4, ps, eo, e4⟩ => ?_
  subst eo e4
  have I5 : Inv X pins σ H4 { s4 with heap := s4.heap.push { cls := .type "slice", data := .fields #[vl, vu, vs] } } := I4.kept (t' := s4.toks) fun b ob q => Heap.get?_push_of_some _ q
  obtain ⟨its, r, ht, hz⟩ := I5.tuple hx
  cases pl
  cases pu
  cases ps with
  | int _ tk =>
    show wpAny (model X.prog X.w) X.A (subscriptTail e (.Slice none none (some (.UnaryOp .USub (.Constant (.int 1) k p1) p2)) p3) (.ref a) (.ref s4.heap.objs.size)) (EP X pins σ Q) X.xe { s4 with heap := s4.heap.push { cls := .type "slice", data := .fields #[.none, .none, .int (-1) tk] } }
    refine tail_any (ops := [.ref a, .ref s4.heap.objs.size]) ht.typeIs (PyProof.Rows.slot_tuple_getitem.lookup) ?_ (by with_unfolding_all rfl)
    refine getItem_tuple_back ht (by rw [← r.length]; exact hz) (Heap.IsSliceOf.new _ _ _ _) ?_
    exact newT_ep (its := its.reverse) I5 r.reverse (by rw [List.length_reverse]; exact hz) q
end
section
variable {K : PySem.W.Frag} {B : Bt} {P : D → Prop} {δ : List Sd} {Xe : Xc} {te : TE}
theorem we_backT (h : WEx K B Xe te δ fun d => ∃ ds, d = .tup ds ∧ P (.tup ds.reverse)) : WEx K B Xe (tBackT K te) δ P := fun G0 H0 σ G H Q s xx q =>
  h G0 H0 σ G H _ s xx fun x d G1 H1 g1 o1 hx ⟨ds, e, p⟩ => by
    subst e
    cases hx with
    | tup hg t => exact ⟨_, _, rfl, SqT.ofZ (o1.u _ _ hg.1), fun r ob hr hd => (q.on g1 o1).new o1 nt_tup hr (.tup ⟨upd_same, hd⟩ (t.rev.mono (same_upd (o1.fresh hr)))) p⟩
end
end Dl
/-! Ve: list(zip(t, u)) of two tuples, at the library's level. -/
namespace Lz
open PySem PySem.Calls PyProof.Rows PyProof.V PySem.Spec
section
variable {P : Program} {w : World} {A : Around} {E : Value → Shared → Prop} {s : Shared} {z TI TO T i1 i2 l1 l2 : Addr} {f : Bool} {oT : Obj} {k1 k2 : Nat} {xs ys : Array Value} {x y : Value}
theorem held_item {R : Value → Shared → Prop} (D : ZipApart z TI TO i1 i2 l1 l2) (q0 : IsZipHeld s.heap z TI TO T f) (qT : s.heap.get? T = some oT) (qI : IsPair s.heap TI (.ref i1) (.ref i2))
    (q1 : s.heap.IsTupleIter i1 l1 k1) (q2 : s.heap.IsTupleIter i2 l2 k2) (q3 : s.heap.IsTuple l1 xs) (q4 : s.heap.IsTuple l2 ys) (ex : xs[k1]? = some x) (ey : ys[k2]? = some y)
    (h : ∀ g, IsZipHeld g z TI TO T true → g.IsTupleIter i1 l1 (k1 + 1) → g.IsTupleIter i2 l2 (k2 + 1) → IsPair g s.heap.objs.size x y → g.objs.size = s.heap.objs.size + 1 →
      (∀ c o, c ≠ z → c ≠ i1 → c ≠ i2 → s.heap.get? c = some o → g.get? c = some o) → R (.ref s.heap.objs.size) { s with heap := g }) :
    wpAny (model P w) A (Builtin.«zip.__next__» ⟨[.ref z], []⟩) (fun fin t => ∃ v, fin = .done (.ret v) ∧ R v t) E s := by
  show wpAny _ _ (field (.ref z) 2 >>= _) _ _ _; refine wpAny_bind (wpAny_field q0 rfl (x := .bool false) rfl ?_); show wpAny _ _ (field (.ref z) 3 >>= _) _ _ _
  refine wpAny_bind (wpAny_field q0 rfl (x := .ref TI) rfl (wpAny_bind (wpAny_seqItems qI rfl ?_))); show wpAny _ _ (Builtin.SmallTypes.ownedTupleIsFree (.ref z) >>= _) _ _ _
  refine wpAny_bind (wpAny_tupleHeld_zip q0 qT fun g1 p0 m1 => ?_); simp only [Bool.false_eq_true, if_false]; refine wpAny_bind ?_; rw [← Array.forIn_toList]
  simp only [List.forIn_cons, List.forIn_nil]; refine wpAny_bind (wpAny_bind (wpAny_holding ?_)); show wpAny _ _ (Builtin.SmallTypes.nextOf (.ref i1) >>= _) _ _ _
  refine wpAny_bind (RZ.nextOf_tuple_item (s := { s with heap := g1 }) (q1.extBut m1.extBut D.i1z) (q3.extBut m1.extBut D.l1z) ex fun g2 p1 m2 => wpAny_pure (wpAny_pure ?_))
  refine wpAny_bind (wpAny_bind (wpAny_holding ?_)); show wpAny _ _ (Builtin.SmallTypes.nextOf (.ref i2) >>= _) _ _ _
  refine wpAny_bind (RZ.nextOf_tuple_item (s := { s with heap := g2 }) ((q2.extBut m1.extBut D.i2z).extBut m2.extBut D.i12.symm) ((q4.extBut m1.extBut D.l2z).extBut m2.extBut D.l2i1) ey fun g3 p2 m3 => wpAny_pure (wpAny_pure (wpAny_pure ?_)))
  show wpAny _ _ (newTuple [x, y] >>= _) _ _ _; refine wpAny_bind (wpAny_newTuple ?_)
  have eN : g3.objs.size = s.heap.objs.size := by rw [m3.1, m2.1, m1.1]
  have p3 : IsZipHeld g3 z TI TO T true := m3.extBut _ _ D.i2z.symm (m2.extBut _ _ D.i1z.symm p0)
  have kp : ∀ c o, c ≠ z → c ≠ i1 → c ≠ i2 → s.heap.get? c = some o → g3.get? c = some o := fun c o a b d e => m3.extBut _ _ d (m2.extBut _ _ b (m1.extBut _ _ a e))
  have p4 : g3.IsTupleIter i1 l1 (k1 + 1) := p1.extBut m3.extBut D.i12
  refine wpAny_pure ⟨_, rfl, ?_⟩; show R (.ref g3.objs.size) _
  have p5 : IsPair (g3.push { cls := .type "tuple", data := .seq #[x, y] }) g3.objs.size x y := Heap.get?_push_size _ rfl
  have p6 : (g3.push { cls := .type "tuple", data := .seq #[x, y] }).objs.size = g3.objs.size + 1 := Heap.size_push ..
  rw [eN] at p5 p6 ⊢
  exact h _ (Heap.get?_push_of_some _ p3) (p4.at fun o e => Heap.get?_push_of_some _ e) (p2.at fun o e => Heap.get?_push_of_some _ e) p5 p6 fun c o a b d e => Heap.get?_push_of_some _ (kp c o a b d e)
theorem held_end {R : Fin → Shared → Prop} (hh : A.handled = none) (D : ZipApart z TI TO i1 i2 l1 l2) (q0 : IsZipHeld s.heap z TI TO T f) (qT : s.heap.get? T = some oT) (qI : IsPair s.heap TI (.ref i1) (.ref i2))
    (q1 : s.heap.IsTupleIter i1 l1 k1) (q3 : s.heap.IsTuple l1 xs) (ex : xs[k1]? = none)
    (h : ∀ g e, (∀ c o, c ≠ z → c ≠ i1 → s.heap.get? c = some o → g.get? c = some o) → (∃ o, g.get? e = some o ∧ o.cls = .type "StopIteration") → E (.ref e) { s with heap := g }) :
    wpAny (model P w) A (Builtin.«zip.__next__» ⟨[.ref z], []⟩) R E s := by
  show wpAny _ _ (field (.ref z) 2 >>= _) _ _ _; refine wpAny_bind (wpAny_field q0 rfl (x := .bool false) rfl ?_); show wpAny _ _ (field (.ref z) 3 >>= _) _ _ _
  refine wpAny_bind (wpAny_field q0 rfl (x := .ref TI) rfl (wpAny_bind (wpAny_seqItems qI rfl ?_))); show wpAny _ _ (Builtin.SmallTypes.ownedTupleIsFree (.ref z) >>= _) _ _ _
  refine wpAny_bind (wpAny_tupleHeld_zip q0 qT fun g1 p0 m1 => ?_); simp only [Bool.false_eq_true, if_false]; refine wpAny_bind ?_; rw [← Array.forIn_toList]
  simp only [List.forIn_cons, List.forIn_nil]; refine wpAny_bind (wpAny_bind (wpAny_holding ?_)); show wpAny _ _ (Builtin.SmallTypes.nextOf (.ref i1) >>= _) _ _ _
  exact wpAny_bind (RZ.nextOf_tuple_end (s := { s with heap := g1 }) hh (q1.extBut m1.extBut D.i1z) (q3.extBut m1.extBut D.l1z) ex fun g2 e m2 he => h g2 e (fun c o a b x => m2 _ _ b (m1.extBut _ _ a x)) he)
/-- where a zip of two tuples stands, ahead of its turn k -/
structure St (xs ys : Array Value) (z TI TO i1 i2 l1 l2 S : Addr) (k : Nat) (h : Heap) : Prop where
  ti : IsPair h TI (.ref i1) (.ref i2)
  a : h.IsTupleIter i1 l1 k
  b : h.IsTupleIter i2 l2 k
  x : h.IsTuple l1 xs
  y : h.IsTuple l2 ys
  m : (IsZip h z TI TO .none ∧ ∃ a b, IsPair h TO a b) ∨ ∃ T f oT, IsZipHeld h z TI TO T f ∧ h.get? T = some oT ∧ T ≠ z ∧ T ≠ i1 ∧ T ≠ i2 ∧ T ≠ S
theorem St.keep {S : Addr} {k : Nat} {h g : Heap} (t : St xs ys z TI TO i1 i2 l1 l2 S k h) (hS : S ≠ z ∧ S ≠ TI ∧ S ≠ TO ∧ S ≠ i1 ∧ S ≠ i2 ∧ S ≠ l1 ∧ S ≠ l2) (kp : ∀ c o, c ≠ S → h.get? c = some o → g.get? c = some o) : St xs ys z TI TO i1 i2 l1 l2 S k g := by
  obtain ⟨n1, n2, n3, n4, n5, n6, n7⟩ := hS
  refine ⟨kp _ _ n2.symm t.ti, t.a.at fun o e => kp _ o n4.symm e, t.b.at fun o e => kp _ o n5.symm e, t.x.at fun o e => kp _ o n6.symm e, t.y.at fun o e => kp _ o n7.symm e, ?_⟩
  rcases t.m with ⟨q, a, b, r⟩ | ⟨T, f, oT, q, r, r1, r2, r3, r4⟩
  · exact .inl ⟨kp _ _ n1.symm q, a, b, kp _ _ n3.symm r⟩
  · exact .inr ⟨T, f, oT, kp _ _ n1.symm q, kp _ _ r4 r, r1, r2, r3, r4⟩
theorem turn {S : Addr} {k : Nat} {R : Option Value → Shared → Prop} (D : ZipApart z TI TO i1 i2 l1 l2) (t : St xs ys z TI TO i1 i2 l1 l2 S k s.heap) (hS : S < s.heap.objs.size) (ex : xs[k]? = some x) (ey : ys[k]? = some y)
    (h : ∀ g, St xs ys z TI TO i1 i2 l1 l2 S (k + 1) g → IsPair g s.heap.objs.size x y → g.objs.size = s.heap.objs.size + 1 → (∀ c o, c ≠ z → c ≠ TO → c ≠ i1 → c ≠ i2 → s.heap.get? c = some o → g.get? c = some o) → R (some (.ref s.heap.objs.size)) { s with heap := g }) :
    wpAny (model P w) A (pyNext (.ref z)) R E s := by
  have lt : ∀ {c o}, s.heap.get? c = some o → s.heap.objs.size ≠ c := fun e => Nat.ne_of_gt (Heap.lt_size e)
  have n1 : s.heap.objs.size ≠ i1 := let ⟨_, e, _⟩ := t.a; lt e
  have n2 : s.heap.objs.size ≠ i2 := let ⟨_, e, _⟩ := t.b; lt e
  rcases t.m with ⟨q, a, b, r⟩ | ⟨T, f, oT, q, r, r1, r2, r3, r4⟩
  · refine RZ.pyNext_zipT_item D q t.ti r t.a t.b t.x t.y ex ey fun g a1 a2 a3 a4 a5 a6 kp => h g ⟨kp _ _ D.TIz D.TITO D.TIi1 D.TIi2 t.ti, a3, a4, t.x.at fun o e => kp _ o D.l1z D.l1TO D.l1i1 D.l1i2 e, t.y.at fun o e => kp _ o D.l2z D.l2TO D.l2i1 D.l2i2 e, ?_⟩ a5 a6 kp
    exact .inr ⟨s.heap.objs.size, false, _, a1, a5, lt q, n1, n2, Nat.ne_of_gt hS⟩
  · have ty : s.TypeIs (.ref z) "zip" := ⟨_, q, rfl⟩
    unfold pyNext
    refine wpAny_bind (wpAny_attempt (wpAny_callSpecial?_slot (name := Str.ofString "__next__") ty F.slot_zip_next (wpAny_call_entry F.slot_zip_next ty F.entry_zip_next (held_item D q r t.ti t.a t.b t.x t.y ex ey fun g a1 a3 a4 a5 a6 kp => wpAny_pure (h g ?_ a5 a6 fun c o c1 _ c3 c4 e => kp c o c1 c3 c4 e)) (F.args_zip_next_1 _))))
    exact ⟨kp _ _ D.TIz D.TIi1 D.TIi2 t.ti, a3, a4, t.x.at fun o e => kp _ o D.l1z D.l1i1 D.l1i2 e, t.y.at fun o e => kp _ o D.l2z D.l2i1 D.l2i2 e, .inr ⟨T, true, oT, a1, kp _ _ r1 r2 r3 r, r1, r2, r3, r4⟩⟩
theorem last {S : Addr} {k : Nat} {R : Option Value → Shared → Prop} (hh : A.handled = none) (D : ZipApart z TI TO i1 i2 l1 l2) (t : St xs ys z TI TO i1 i2 l1 l2 S k s.heap) (ex : xs[k]? = none)
    (h : ∀ g, (∀ c o, c ≠ z → c ≠ TO → c ≠ i1 → c ≠ i2 → s.heap.get? c = some o → g.get? c = some o) → R none { s with heap := g }) : wpAny (model P w) A (pyNext (.ref z)) R E s := by
  rcases t.m with ⟨q, a, b, r⟩ | ⟨T, f, oT, q, r, r1, r2, r3, r4⟩
  · exact RZ.pyNext_zipT_end hh D q t.ti r t.a t.b t.x t.y (.inl ex) h
  · have ty : s.TypeIs (.ref z) "zip" := ⟨_, q, rfl⟩
    unfold pyNext
    refine wpAny_bind (wpAny_attempt (wpAny_callSpecial?_slot (name := Str.ofString "__next__") ty F.slot_zip_next (wpAny_call_entry F.slot_zip_next ty F.entry_zip_next (held_end hh D q r t.ti t.a t.x ex fun g e kp he => ?_) (F.args_zip_next_1 _))))
    obtain ⟨o, ho, hc⟩ := he
    exact wpAny_bind (wpAny_isInstance (T := "StopIteration") (b := true) ⟨o, ho, hc⟩ isSubtype_stop (wpAny_pure (h _ fun c o c1 _ c3 _ e => kp c o c1 c3 e)))
/-- the new tuples: above lo, rising, with the pairs -/
structure Got (xs ys : Array Value) (lo : Addr) (h : Heap) (as : List Addr) : Prop where
  rise : as.Pairwise (· < ·)
  above : ∀ a ∈ as, lo < a
  pairs : ∀ (j : Nat) (a : Addr), as[j]? = some a → ∃ x y, xs[j]? = some x ∧ ys[j]? = some y ∧ IsPair h a x y
theorem Got.there {lo : Addr} {h : Heap} {as : List Addr} (g : Got xs ys lo h as) {a : Addr} (ha : a ∈ as) : a < h.objs.size := by
  obtain ⟨j, hj⟩ := List.mem_iff_getElem?.mp ha
  obtain ⟨_, _, _, _, e⟩ := g.pairs j a hj
  exact Heap.lt_size e
theorem loop {S : Addr} {R : Result → Shared → Prop} (hh : A.handled = none) (D : ZipApart z TI TO i1 i2 l1 l2) (hl : xs.size = ys.size) (hn : xs.size ≤ sizeLine) (below : z < S ∧ TI < S ∧ TO < S ∧ i1 < S ∧ i2 < S ∧ l1 < S ∧ l2 < S) (res : Value) {h0 : Heap} {N : Nat} (hN : N ≤ z ∧ N ≤ TO ∧ N ≤ i1 ∧ N ≤ i2 ∧ N ≤ S)
    (fin : ∀ g tk acc c as, (∀ b o, b < N → h0.get? b = some o → g.get? b = some o) → g.get? S = some { cls := .type "list", dict := none, data := .seq acc c, slots := #[] } → as.length = xs.size → Got xs ys S g as → acc.toList = as.map Value.ref → R (.ok (.ret res)) { s with heap := g, toks := tk }) :
    ∀ (k i : Nat) (h : Heap) (tk c : Nat) (acc : Array Value) (as : List Addr), xs.size - i = k → i ≤ xs.size → St xs ys z TI TO i1 i2 l1 l2 S i h → (∀ b o, b < N → h0.get? b = some o → h.get? b = some o) →
      h.get? S = some { cls := .type "list", dict := none, data := .seq acc c, slots := #[] } → acc.toList = as.map Value.ref → as.length = i → Got xs ys S h as →
      codeAny (model P w) A (.builtin "list.extend.loop" ⟨[.ref S, .ref z, res], []⟩) R { s with heap := h, toks := tk } := by
  obtain ⟨b1, b2, b3, b4, b5, b6, b7⟩ := below
  obtain ⟨N1, N2, N3, N4, N5⟩ := hN
  have hS : S ≠ z ∧ S ≠ TI ∧ S ≠ TO ∧ S ≠ i1 ∧ S ≠ i2 ∧ S ≠ l1 ∧ S ≠ l2 := ⟨Nat.ne_of_gt b1, Nat.ne_of_gt b2, Nat.ne_of_gt b3, Nat.ne_of_gt b4, Nat.ne_of_gt b5, Nat.ne_of_gt b6, Nat.ne_of_gt b7⟩
  have lo : ∀ b, b < N → b ≠ z ∧ b ≠ TO ∧ b ≠ i1 ∧ b ≠ i2 ∧ b ≠ S := fun b hb => ⟨Nat.ne_of_lt (Nat.lt_of_lt_of_le hb N1), Nat.ne_of_lt (Nat.lt_of_lt_of_le hb N2), Nat.ne_of_lt (Nat.lt_of_lt_of_le hb N3), Nat.ne_of_lt (Nat.lt_of_lt_of_le hb N4), Nat.ne_of_lt (Nat.lt_of_lt_of_le hb N5)⟩
  have hi' : ∀ b, S ≤ b → b ≠ z ∧ b ≠ TO ∧ b ≠ i1 ∧ b ≠ i2 := fun b hb => ⟨Nat.ne_of_gt (Nat.lt_of_lt_of_le b1 hb), Nat.ne_of_gt (Nat.lt_of_lt_of_le b3 hb), Nat.ne_of_gt (Nat.lt_of_lt_of_le b4 hb), Nat.ne_of_gt (Nat.lt_of_lt_of_le b5 hb)⟩
  intro k
  induction k with
  | zero =>
    intro i h tk c acc as hk hi st keep qS qa ql G
    refine codeAny_builtin PySem.F.entry_extend_loop ?_; rw [Around.under_plainId PySem.F.plain_extend_loop _]; show wpAny _ A.in1 (pyNext (.ref z) >>= _) _ _ _
    refine wpAny_bind (last (s := { s with heap := h, toks := tk }) (A := A.in1) hh D st (Array.getElem?_eq_none (by omega)) fun g kp => wpAny_pure ?_)
    have up : ∀ b o, S ≤ b → h.get? b = some o → g.get? b = some o := fun b o hb e => kp b o (hi' b hb).1 (hi' b hb).2.1 (hi' b hb).2.2.1 (hi' b hb).2.2.2 e
    refine fin g tk acc c as (fun b o hb e => kp b o (lo b hb).1 (lo b hb).2.1 (lo b hb).2.2.1 (lo b hb).2.2.2.1 (keep b o hb e)) (up S _ (Nat.le_refl _) qS) (by omega) ⟨G.rise, G.above, fun j a hj => ?_⟩ qa
    obtain ⟨u, v, e1, e2, e3⟩ := G.pairs j a hj
    exact ⟨u, v, e1, e2, up a _ (Nat.le_of_lt (G.above a (List.mem_of_getElem? hj))) e3⟩
  | succ k ih =>
    intro i h tk c acc as hk hi st keep qS qa ql G
    have hlt : i < xs.size := by omega
    have ex := Array.getElem?_eq_getElem hlt
    have ey := Array.getElem?_eq_getElem (show i < ys.size by omega)
    have hsz : acc.size = i := by rw [← Array.length_toList, qa, List.length_map, ql]
    refine codeAny_builtin PySem.F.entry_extend_loop ?_; rw [Around.under_plainId PySem.F.plain_extend_loop _]; show wpAny _ A.in1 (pyNext (.ref z) >>= _) _ _ _
    refine wpAny_bind (turn (s := { s with heap := h, toks := tk }) (S := S) D st (Heap.lt_size qS) ex ey fun g st' ht hz kp => ?_)
    dsimp only at ht hz kp ⊢
    have hSl : S < h.objs.size := Heap.lt_size qS
    have kpS : ∀ b o, S ≤ b → h.get? b = some o → g.get? b = some o := fun b o hb e => kp b o (hi' b hb).1 (hi' b hb).2.1 (hi' b hb).2.2.1 (hi' b hb).2.2.2 e
    have qS' := kpS S _ (Nat.le_refl _) qS
    have up : ∀ b o, b ≠ S → g.get? b = some o → (g.update S (Obj.mapSeq (·.push (Value.ref h.objs.size)))).get? b = some o := fun b o hb e => (Heap.get?_update_other _ _ (Ne.symm hb)).trans e
    show wpAny _ A.in1 (updateSeq S (·.push (Value.ref h.objs.size)) >>= _) _ _ _; refine wpAny_bind ?_
    refine wpAny_updateSeq qS' rfl (wpAny_pure ⟨plainId_quiet PySem.F.plain_extend_loop _, ih (i + 1) _ tk _ (acc.push (Value.ref h.objs.size)) (as ++ [h.objs.size]) (by omega) hlt (st'.keep hS up)
      (fun b o hb e => up b o (lo b hb).2.2.2.2 (kp b o (lo b hb).1 (lo b hb).2.1 (lo b hb).2.2.1 (lo b hb).2.2.2.1 (keep b o hb e))) (Heap.get?_update_self _ qS' rfl) (by rw [Array.toList_push, qa, List.map_append]; rfl) (by rw [List.length_append, ql]; rfl) ⟨?_, ?_, ?_⟩⟩) (by rw [hsz]; omega) (by show (acc.push (Value.ref h.objs.size)).size ≤ sizeLine + 1; rw [Array.size_push, hsz]; omega)
    · exact List.pairwise_append.mpr ⟨G.rise, List.pairwise_singleton _ _, fun a ha b hb => by rw [List.mem_singleton.mp hb]; exact G.there ha⟩
    · intro a ha
      rcases List.mem_append.mp ha with ha | ha
      · exact G.above a ha
      · rw [List.mem_singleton.mp ha]; exact hSl
    · intro j b hj
      rcases Nat.lt_trichotomy j as.length with h1 | h1 | h1
      · rw [List.getElem?_append_left h1] at hj
        obtain ⟨u, v, e1, e2, e3⟩ := G.pairs j b hj
        have hb := G.above b (List.mem_of_getElem? hj)
        exact ⟨u, v, e1, e2, up b _ (Nat.ne_of_gt hb) (kpS b _ (Nat.le_of_lt hb) e3)⟩
      · subst h1
        have hb : h.objs.size = b := by simpa using hj
        subst hb
        exact ⟨_, _, by rw [ql]; exact ex, by rw [ql]; exact ey, up _ _ (Nat.ne_of_gt hSl) ht⟩
      · have e0 : (as ++ [h.objs.size])[j]? = none := List.getElem?_eq_none (by rw [List.length_append, List.length_singleton]; omega)
        rw [e0] at hj; cases hj
end
theorem zip_nolen : typeLookup (.type "zip") "__len__" = pure none := by rw [typeLookup_type, builtinLookup_eq_fast]; kernel_rfl
theorem zip_nohint : typeLookup (.type "zip") "__length_hint__" = pure none := by rw [typeLookup_type, builtinLookup_eq_fast]; kernel_rfl
section
variable {P : Program} {w : World} {A : Around} {E : Value → Shared → Prop} {s : Shared} {l1 l2 : Addr} {xs ys : Array Value}
theorem hint {r : Addr} (hT : s.TypeIs (.ref r) "zip") {Q : Bool → Shared → Prop} (h : Q true s) : wpAny (model P w) A (Builtin.List.listLengthHint (.ref r)) Q E s := by
  unfold Builtin.List.listLengthHint
  refine wpAny_bind (wpAny_specialOf hT zip_nolen ?_)
  show wpAny _ _ (specialOf (Value.ref r) (Str.ofString "__length_hint__") >>= _) _ _ _
  refine wpAny_bind (wpAny_specialOf hT zip_nohint ?_)
  exact wpAny_pure h
variable {z TI TO i1 i2 : Addr}
theorem grow {R : Result → Shared → Prop} (hh : A.handled = none) (D : ZipApart z TI TO i1 i2 l1 l2) (hl : xs.size = ys.size) (hn : xs.size ≤ sizeLine) {S : Addr} (below : z < S ∧ TI < S ∧ TO < S ∧ i1 < S ∧ i2 < S ∧ l1 < S ∧ l2 < S) {N : Nat} (hN : N ≤ z ∧ N ≤ TO ∧ N ≤ i1 ∧ N ≤ i2 ∧ N ≤ S)
    (q0 : IsZip s.heap z TI TO .none) {a b : Value} (q1 : IsPair s.heap TO a b) (st : St xs ys z TI TO i1 i2 l1 l2 S 0 s.heap) (c0 : Nat) (qS : s.heap.get? S = some { cls := .type "list", data := .seq #[] c0 })
    (fin : ∀ g tk acc c as, (∀ b o, b < N → s.heap.get? b = some o → g.get? b = some o) → g.get? S = some { cls := .type "list", dict := none, data := .seq acc c, slots := #[] } → as.length = xs.size → Got xs ys S g as → acc.toList = as.map Value.ref → R (.ok (.ret .none)) { s with heap := g, toks := tk }) :
    wpAny (model P w) A.in1 (Builtin.List.listExtendWith (.ref S) (.ref z) .none) (fun fin t => match fin with | .done f => R (.ok f) t | .again c' => c'.quiet = true ∧ codeAny (model P w) A c' R t) (fun e t => R (.error e) t) s := by
  have hS : S ≠ z ∧ S ≠ TI ∧ S ≠ TO ∧ S ≠ i1 ∧ S ≠ i2 ∧ S ≠ l1 ∧ S ≠ l2 := by
    obtain ⟨b1, b2, b3, b4, b5, b6, b7⟩ := below
    exact ⟨Nat.ne_of_gt b1, Nat.ne_of_gt b2, Nat.ne_of_gt b3, Nat.ne_of_gt b4, Nat.ne_of_gt b5, Nat.ne_of_gt b6, Nat.ne_of_gt b7⟩
  unfold Builtin.List.listExtendWith
  refine wpAny_bind (wpAny_typeOf (T := "zip") ⟨_, q0, rfl⟩ ?_)
  have e1 : Builtin.List.listSameRef (.ref S) (.ref z) = false := by simp [Builtin.List.listSameRef, hS.1]
  have e2 : (Value.type "zip" == Value.type "list") = false := by decide
  have e3 : (Value.type "zip" == Value.type "tuple") = false := by decide
  simp only [e1, e2, e3, Bool.or_false, Bool.false_eq_true, if_false]
  refine wpAny_bind (wpAny_pyIter_zip q0 (wpAny_bind (wpAny_holding (hint ⟨_, q0, rfl⟩ ?_))))
  refine wpAny_ite_split (fun _ => ?_) (fun hab => absurd rfl hab); refine wpAny_bind (wpAny_rule (wpAny_bind ?_))
  show wpAny _ _ (updateSeq S (·.push .none) >>= fun _ => updateSeq S (·.pop)) _ _ _; refine wpAny_bind (wpAny_updateSeq qS rfl ?_)
  have s2 := Heap.get?_update_self (Obj.mapSeq (·.push Value.none)) qS rfl
  refine wpAny_updateSeq (hz := by seq_fits) s2 rfl ?_
  have s3 := Heap.get?_update_self (Obj.mapSeq (·.pop)) s2 rfl
  have oth : ∀ b o, b ≠ S → s.heap.get? b = some o → ((s.heap.update S (Obj.mapSeq (·.push Value.none))).update S (Obj.mapSeq (·.pop))).get? b = some o := fun b o hb e => (Heap.get?_update_other _ _ (Ne.symm hb)).trans ((Heap.get?_update_other _ _ (Ne.symm hb)).trans e)
  refine wpAny_pure ⟨plainId_quiet PySem.F.plain_extend_loop _, loop (s := s) (h0 := s.heap) hh D hl hn below .none hN fin xs.size 0 _ _ _ #[] [] (Nat.sub_zero _) (Nat.zero_le _) (st.keep hS oth) (fun b o hb e => oth b o (Nat.ne_of_lt (Nat.lt_of_lt_of_le hb hN.2.2.2.2)) e) s3 rfl rfl ⟨List.Pairwise.nil, (fun _ h => nomatch h), (fun j a h => by simp at h)⟩⟩
/-- list(z), z a new zip of two tuples -/
theorem call_list {Q : Value → Shared → Prop} (hh : A.handled = none) (D : ZipApart z TI TO i1 i2 l1 l2) (hl : xs.size = ys.size) (hn : xs.size ≤ sizeLine) {N : Nat} (hN : N ≤ z ∧ N ≤ TO ∧ N ≤ i1 ∧ N ≤ i2 ∧ N ≤ s.heap.objs.size) (below : z < s.heap.objs.size ∧ TI < s.heap.objs.size ∧ TO < s.heap.objs.size ∧ i1 < s.heap.objs.size ∧ i2 < s.heap.objs.size ∧ l1 < s.heap.objs.size ∧ l2 < s.heap.objs.size)
    (q0 : IsZip s.heap z TI TO .none) {a b : Value} (q1 : IsPair s.heap TO a b) (qI : IsPair s.heap TI (.ref i1) (.ref i2)) (p1 : s.heap.IsTupleIter i1 l1 0) (p2 : s.heap.IsTupleIter i2 l2 0) (p3 : s.heap.IsTuple l1 xs) (p4 : s.heap.IsTuple l2 ys)
    (fin : ∀ g tk acc c as, (∀ b o, b < N → s.heap.get? b = some o → g.get? b = some o) → g.get? s.heap.objs.size = some { cls := .type "list", dict := none, data := .seq acc c, slots := #[] } → as.length = xs.size → Got xs ys s.heap.objs.size g as → acc.toList = as.map Value.ref → Q (.ref s.heap.objs.size) { s with heap := g, toks := tk }) :
    wpAny (model P w) A (call (.type "list") [.ref z]) Q E s := by
  refine callType_codes (Q₁ := fun obj t => obj = .ref s.heap.objs.size ∧ t = { s with heap := s.heap.push { cls := .type "list", data := .seq #[] } }) PySem.F.called_list (PySem.F.typeCall_list_1 _) PySem.F.entry_list_init (code_list_new _ ⟨rfl, rfl⟩) fun obj t h1 => ?_
  obtain ⟨rfl, rfl⟩ := h1
  have qS : (s.heap.push { cls := .type "list", data := .seq #[] }).get? s.heap.objs.size = some { cls := .type "list", data := .seq #[] } := Heap.get?_push_size _ rfl
  have up : ∀ b o, s.heap.get? b = some o → (s.heap.push { cls := .type "list", data := .seq #[] }).get? b = some o := fun b o e => Heap.get?_push_of_some _ e
  refine ⟨⟨_, qS, rfl⟩, PySem.F.args_list_init_2 _ _, ?_⟩
  show wpAny _ _ (do let old ← Builtin.List.listItems (.ref s.heap.objs.size); Builtin.List.listUpdate (.ref s.heap.objs.size) (fun _ => #[]); letGo old.toList.reverse; Builtin.List.listExtendWith (.ref s.heap.objs.size) (.ref z) .none) _ _ _
  refine wpAny_bind ?_
  unfold Builtin.List.listItems
  refine wpAny_bind (wpAny_seqItems qS rfl (wpAny_pure ?_))
  show wpAny _ _ (updateSeq s.heap.objs.size (fun _ => #[]) >>= fun _ => letGo (#[] : Array Value).toList.reverse >>= fun _ => Builtin.List.listExtendWith (.ref s.heap.objs.size) (.ref z) .none) _ _ _
  refine wpAny_bind (wpAny_updateSeq qS rfl (wpAny_bind (wpAny_letGo ?_)))
  have s2 := Heap.get?_update_self (Obj.mapSeq (fun _ => (#[] : Array Value))) qS rfl
  have oth : ∀ b o, b < s.heap.objs.size → s.heap.get? b = some o → ((s.heap.push { cls := .type "list", data := .seq #[] }).update s.heap.objs.size (Obj.mapSeq (fun _ => (#[] : Array Value)))).get? b = some o := fun b o hb e => (Heap.get?_update_other _ _ (Nat.ne_of_gt hb)).trans (up b o e)
  obtain ⟨b1, b2, b3, b4, b5, b6, b7⟩ := below
  refine grow (A := A.in1) hh D hl hn ⟨b1, b2, b3, b4, b5, b6, b7⟩ hN (oth z _ b1 q0) (oth TO _ b3 q1) ⟨oth TI _ b2 qI, p1.at fun o e => oth _ o b4 e, p2.at fun o e => oth _ o b5 e, p3.at fun o e => oth _ o b6 e, p4.at fun o e => oth _ o b7 e, .inl ⟨oth z _ b1 q0, a, b, oth TO _ b3 q1⟩⟩ _ s2 fun g tk acc c as kp k1 k2 k3 k4 => ?_
  exact ⟨rfl, fin g tk acc c as (fun b o hb e => kp b o hb (oth b o (Nat.lt_of_lt_of_le hb hN.2.2.2.2) e)) k1 k2 k3 k4⟩
end
end Lz
/-! Vf: list(zip(t, u)) of two tuples, by data. -/
namespace Dl
open PySem PySem.Spec PyProof.Rows L2
abbrev ZR := Addr × Obj × V × V
abbrev zO (r : ZR) : HO := .frz r.2.1 (.tup [r.2.2.1, r.2.2.2])
def putZ : Hp → List ZR → Hp
  | H, [] => H
  | H, r :: rs => putZ (upd H r.1 (zO r)) rs
theorem putZ_off {b : Addr} : ∀ (rs : List ZR) (H : Hp), b ∉ rs.map (·.1) → putZ H rs b = H b
  | [], _, _ => rfl
  | r :: rs, H, h => by
    show putZ (upd H r.1 (zO r)) rs b = H b
    rw [List.map_cons] at h
    rw [putZ_off rs _ (fun z => h (List.mem_cons_of_mem _ z)), upd_ne (fun z => h (by rw [z]; exact List.mem_cons_self))]
theorem putZ_at : ∀ (rs : List ZR) (H : Hp), (rs.map (·.1)).Nodup → ∀ r ∈ rs, putZ H rs r.1 = some (zO r)
  | [], _, _, _, h => by cases h
  | q :: rs, H, n, r, h => by
    rw [List.map_cons] at n
    have n' := List.nodup_cons.mp n
    show putZ (upd H q.1 (zO q)) rs r.1 = _
    rcases List.mem_cons.mp h with e | h
    · rw [e, putZ_off rs _ n'.1, upd_same]
    · exact putZ_at rs _ n'.2 r h
theorem mk_rs {g : Heap} : ∀ (as : List Addr) (its jts : List Value) (xs ys : List V), Vals xs its → Vals ys jts → as.length = xs.length → xs.length = ys.length →
    (∀ (j : Nat) (a : Addr), as[j]? = some a → ∃ u v, its[j]? = some u ∧ jts[j]? = some v ∧ IsPair g a u v) →
    ∃ rs : List ZR, rs.map (·.1) = as ∧ rs.map (fun r => (r.2.2.1, r.2.2.2)) = xs.zip ys ∧ ∀ r ∈ rs, ∃ u v, r.2.1 = { cls := .type "tuple", data := .seq #[u, v] } ∧ IsPair g r.1 u v ∧ RelV r.2.2.1 u ∧ RelV r.2.2.2 v
  | [], _, _, [], _, _, _, _, _, _ => ⟨[], rfl, by simp, fun _ h => nomatch h⟩
  | [], _, _, _ :: _, _, _, _, h, _, _ => by cases h
  | _ :: _, _, _, [], _, _, _, h, _, _ => by cases h
  | _ :: _, _, _, _ :: _, [], _, _, _, h, _ => by cases h
  | a :: as, u0 :: _, v0 :: _, x :: xs, y :: ys, .cons rx tx, .cons ry ty, h1, h2, hp => by
    obtain ⟨rs, e1, e2, e3⟩ := mk_rs as _ _ xs ys tx ty (Nat.succ.inj h1) (Nat.succ.inj h2) (fun j b e => hp (j + 1) b (by simpa using e))
    obtain ⟨u, v, q1, q2, q3⟩ := hp 0 a rfl
    simp only [List.getElem?_cons_zero, Option.some.injEq] at q1 q2
    subst q1 q2
    refine ⟨(a, { cls := .type "tuple", data := .seq #[u0, v0] }, x, y) :: rs, by rw [List.map_cons, e1], by rw [List.map_cons, e2]; rfl, fun r hr => ?_⟩
    rcases List.mem_cons.mp hr with e | hr
    · rw [e]; exact ⟨_, _, rfl, q3, rx, ry⟩
    · exact e3 r hr
/-- what list(zip(t, u)) of two tuples makes -/
def NewZ (Q : VK) (H : Hp) (xs ys : List V) : Prop := ∀ (p : Addr) (rs : List ZR), H p = none → (∀ r ∈ rs, H r.1 = none ∧ r.2.1.dict = none) → (rs.map (·.1)).Nodup → p ∉ rs.map (·.1) → rs.map (fun r => (r.2.2.1, r.2.2.2)) = xs.zip ys →
  Q (.ref p) (upd (putZ H rs) p (.lst (rs.map fun r => V.ref r.1)))
theorem refs_vals : ∀ rs : List ZR, Vals (rs.map fun r => V.ref r.1) ((rs.map (·.1)).map Value.ref)
  | [] => .nil
  | _ :: rs => .cons rfl (refs_vals rs)
section
variable {X : Cx} {pins : List (Addr × Obj)} {σ : L2.St} {H : Hp} {s : Shared} {Q : VK}
theorem newZ_ep {xs ys : List V} {its jts : List Value} (I : Inv X pins σ H s) (rx : Vals xs its) (ry : Vals ys jts) (hz : xs.length ≤ sizeLine) (hl : xs.length = ys.length) {g : Heap} {tk c : Nat} {acc : Array Value} {as : List Addr} {p : Addr}
    (kp : ∀ b o, s.heap.get? b = some o → g.get? b = some o) (hp : s.heap.objs.size ≤ p) (gS : g.get? p = some { cls := .type "list", dict := none, data := .seq acc c, slots := #[] }) (hlen : as.length = its.toArray.size) (G : Lz.Got its.toArray jts.toArray p g as) (ea : acc.toList = as.map Value.ref) (q : NewZ Q H xs ys) :
    EP X pins σ Q (.ref p) { s with heap := g, toks := tk } := by
  have la : as.length = xs.length := by rw [hlen, List.size_toArray, rx.length]
  obtain ⟨rs, e1, e2, e3⟩ := mk_rs (g := g) as its jts xs ys rx ry la hl (fun j a e => by
    obtain ⟨u, v, h1, h2, h3⟩ := G.pairs j a e
    exact ⟨u, v, by simpa using h1, by simpa using h2, h3⟩)
  have nd : (rs.map (·.1)).Nodup := by
    rw [e1]
    exact List.Pairwise.imp (fun {a b} (h : a < b) => Nat.ne_of_lt h) G.rise
  have fr : ∀ b, s.heap.objs.size ≤ b → H b = none := fun b h => I.hok.fresh h
  have hi : ∀ r ∈ rs, p < r.1 := fun r h => G.above r.1 (by rw [← e1]; exact List.mem_map_of_mem h)
  have hpn : p ∉ rs.map (·.1) := fun z => by rw [e1] at z; exact Nat.lt_irrefl _ (G.above p z)
  have lr : rs.length ≤ sizeLine := by
    have : rs.length = as.length := by rw [← e1, List.length_map]
    omega
  have dn : ∀ r ∈ rs, r.2.1.dict = none := fun r h => by obtain ⟨u, v, e, _⟩ := e3 r h; rw [e]
  have frr : ∀ r ∈ rs, H r.1 = none := fun r h => fr _ (Nat.le_trans hp (Nat.le_of_lt (hi r h)))
  have off : ∀ b, b ≠ p → b ∉ rs.map (·.1) → upd (putZ H rs) p (.lst (rs.map fun r => V.ref r.1)) b = H b := fun b h1 h2 => by rw [upd_ne h1, putZ_off rs H h2]
  have up : ∀ b u, H b = some u → upd (putZ H rs) p (.lst (rs.map fun r => V.ref r.1)) b = some u := fun b u e => by
    rw [off b (fun z => by rw [z, fr p hp] at e; cases e) (fun z => by
      obtain ⟨r, hr, er⟩ := List.mem_map.mp z
      rw [← er, frr r hr] at e; cases e)]
    exact e
  refine ⟨.ref p, upd (putZ H rs) p (.lst (rs.map fun r => V.ref r.1)), ?_, rfl, q p rs (fr p hp) (fun r h => ⟨frr r h, dn r h⟩) nd hpn e2⟩
  refine I.call' (ch := []) rfl ⟨fun b o z _ _ _ => kp b o z, fun b o z _ _ _ => ⟨o.slots, kp b o z⟩, fun b o z n _ => ?_, fun b o z _ => ⟨o, kp b o z⟩, fun b ws z => up b _ z, fun b o u z => up b _ z, fun b ps z => ⟨#[], by rw [up b _ z]; simp⟩⟩ (fun b u z => ?_) I.bare fun b z => by simp at z
  · have hb := Heap.lt_size z
    rw [off b (fun w => by rw [w] at hb; exact absurd hb (Nat.not_lt.mpr hp)) (fun w => by
      obtain ⟨r, hr, er⟩ := List.mem_map.mp w
      rw [← er] at hb
      exact absurd hb (Nat.not_lt.mpr (Nat.le_trans hp (Nat.le_of_lt (hi r hr)))))]
    exact n
  · by_cases h1 : b = p
    · rw [h1, upd_same] at z
      cases z
      rw [h1]
      refine ⟨by rw [List.length_map]; exact lr, acc.toList, c, by rw [ea, ← e1]; exact refs_vals rs, ?_⟩
      rw [Array.toArray_toList]
      exact gS
    · by_cases h2 : b ∈ rs.map (·.1)
      · obtain ⟨r, hr, er⟩ := List.mem_map.mp h2
        rw [upd_ne h1, ← er, putZ_at rs H nd r hr] at z
        cases z
        obtain ⟨u, v, f1, f2, f3, f4⟩ := e3 r hr
        rw [← er]
        refine ⟨by rw [f1]; exact f2, by show 2 ≤ sizeLine; decide, [u, v], .cons f3 (.cons f4 .nil), ⟨_, f2, rfl, _, rfl⟩⟩
      · rw [off b h1 h2] at z
        exact (I.hok b u z).stay (fun d v _ y => kp d v y) (fun d y => up d _ y) fun d ws y => up d _ y
/-- list(zip(t, u)) -/
def tLz (K : PySem.W.Frag) (ta : TA) : TE := fun σ H Q => ta σ H fun vs H1 => ∃ a b xs ys, vs = [.ref a, .ref b] ∧ SqT K H1 a xs ∧ SqT K H1 b ys ∧ xs.length = ys.length ∧ NewZ Q H1 xs ys
theorem pe_lz {e e2 : Expr} {ta : TA} {p p2 pos cpos : Pos} (hc : X.calm = true) (hg : Gl X "list") (hm : X.mg "list" = none) (hg2 : Gl X "zip") (hm2 : X.mg "zip" = none) (ha : PA X [e, e2] ta)
    (hs : starEach [.Call (.Name "zip" p2) [e, e2] [] cpos] X.env = (false, eval (.Call (.Name "zip" p2) [e, e2] [] cpos) X.env) :: starEach [] X.env := by rfl)
    (hs2 : starEach [e, e2] X.env = (false, eval e X.env) :: starEach [e2] X.env := by rfl) (hpl : (backTo cpos (starEach [e2] X.env)).any (·.1) = false := by rfl) (hv : bootBuiltins "list" = some (.type "list") := by decide +kernel) :
    PE X (.Call (.Name "list" p) [.Call (.Name "zip" p2) [e, e2] [] cpos] [] pos) (tLz X.K ta) := by
  refine ⟨fun pins s σ H Q I hq => ?_⟩
  refine wpAny_Call_Name_kw (ld_blt I hg hm hv (PyProof.Rows.callWith_type1 ?_ hs rfl)); rw [hs]
  show wpAny _ _ (spliced ((false, eval (.Call (.Name "zip" p2) [e, e2] [] cpos) X.env) :: backTo pos (starEach [] X.env))) _ _ s
  refine Calls.spliced_cons (Call_ (ld_blt I hg2 hm2 PyProof.Rows.boot_zip (PyProof.Rows.callWith_type1 (thn (ha.run cpos pins s σ H _ I hq) fun us s1 ⟨vs, H1, I1, r1, q1⟩ => ?_) hs2 hpl)))
  obtain ⟨a, b, xs, ys, ex, hx, hy, hl, q⟩ := q1
  subst ex
  cases r1 with
  | cons r rr =>
    cases rr with
    | cons r' rr =>
      cases rr
      cases r
      cases r'
      obtain ⟨its, rv, k1, hz⟩ := I1.tuple hx
      obtain ⟨jts, rw, k2, _⟩ := I1.tuple hy
      obtain ⟨o1, ho1, _⟩ := id k1
      obtain ⟨o2, ho2, _⟩ := id k2
      have la := Heap.lt_size ho1
      have lb := Heap.lt_size ho2
      refine RZ.call_zipT (show s1.heap.IsTuple a its.toArray from k1) (show s1.heap.IsTuple b jts.toArray from k2) fun h' hz' hTI hTO h1 h2 hsz hk => Calls.spliced_nil ?_
      refine Lz.call_list (s := { s1 with heap := h' }) (N := s1.heap.objs.size) (xs := its.toArray) (ys := jts.toArray) (I1.ok.hd hc) (PySem.W.ktu_apart s1.heap.objs.size a b la lb) (by simp only [List.size_toArray]; rw [← rv.length, ← rw.length]; exact hl) (by simp only [List.size_toArray]; rw [← rv.length]; exact hz) ⟨Nat.le_add_right _ _, Nat.le_add_right _ _, Nat.le_refl _, Nat.le_add_right _ _, ?_⟩ ⟨?_, ?_, ?_, ?_, ?_, ?_, ?_⟩ hz' hTO hTI h1 h2 (let ⟨o, ho, r⟩ := k1; ⟨o, hk _ _ ho, r⟩) (let ⟨o, ho, r⟩ := k2; ⟨o, hk _ _ ho, r⟩) fun g tk acc c as kp gS ln G ea => ?_
      · show s1.heap.objs.size ≤ h'.objs.size; rw [hsz]; exact Nat.le_add_right _ _
      · show _ < h'.objs.size; rw [hsz]; exact Nat.add_lt_add_left (by decide) _
      · show _ < h'.objs.size; rw [hsz]; exact Nat.add_lt_add_left (by decide) _
      · show _ < h'.objs.size; rw [hsz]; exact Nat.add_lt_add_left (by decide) _
      · show _ < h'.objs.size; rw [hsz]; exact Nat.lt_add_of_pos_right (by decide)
      · show _ < h'.objs.size; rw [hsz]; exact Nat.add_lt_add_left (by decide) _
      · show _ < h'.objs.size; rw [hsz]; exact Nat.lt_of_lt_of_le la (Nat.le_add_right _ _)
      · show _ < h'.objs.size; rw [hsz]; exact Nat.lt_of_lt_of_le lb (Nat.le_add_right _ _)
      · exact newZ_ep (p := h'.objs.size) I1 rv rw hz hl (fun b o z => kp b o (Heap.lt_size z) (hk b o z)) (by rw [hsz]; exact Nat.le_add_right _ _) gS ln G ea q
end
section
variable {K : PySem.W.Frag} {B : Bt} {P : D → Prop} {δ : List Sd} {X : Xc} {G H : Hp}
theorem putZ_ok : ∀ (rs : List ZR) (G H : Hp), Ok B G H → (∀ r ∈ rs, H r.1 = none ∧ r.2.1.dict = none) → (rs.map (·.1)).Nodup → Go B G H (putZ G rs) (putZ H rs) ∧ Ok B (putZ G rs) (putZ H rs)
  | [], _, _, o, _, _ => ⟨Go.refl, o⟩
  | r :: rs, G, H, o, h, n => by
    rw [List.map_cons] at n
    have n' := List.nodup_cons.mp n
    have h0 := (h r List.mem_cons_self).1
    have o1 := new_ok (x := zO r) o nt_tup h0
    obtain ⟨g2, o2⟩ := putZ_ok rs _ _ o1 (fun q hq => ⟨by
      rw [upd_ne (fun z => n'.1 (by rw [← z]; exact List.mem_map_of_mem hq))]
      exact (h q (List.mem_cons_of_mem _ hq)).1, (h q (List.mem_cons_of_mem _ hq)).2⟩) n'.2
    exact ⟨(new_go o h0).trans o1 g2, o2⟩
theorem putZ_dds {G0 : Hp} : ∀ (rs : List ZR) (xs ys : List V) (as bs : List D), Dds K B G0 xs as → Dds K B G0 ys bs → rs.map (fun r => (r.2.2.1, r.2.2.2)) = xs.zip ys → (∀ r ∈ rs, G0 r.1 = some (zO r) ∧ r.2.1.dict = none) →
    Dds K B G0 (rs.map fun r => V.ref r.1) ((as.zip bs).map fun q => .tup [q.1, q.2])
  | [], [], _, _, _, .nil, _, _, _ => by simp; exact .nil
  | [], _ :: _, [], _, _, _, .nil, _, _ => by simp; exact .nil
  | [], _ :: _, _ :: _, _, _, _, _, e, _ => by simp at e
  | _ :: _, [], _, _, _, _, _, e, _ => by simp at e
  | _ :: _, _ :: _, [], _, _, _, _, e, _ => by simp at e
  | r :: rs, x :: xs, y :: ys, _, _, .cons hx tx, .cons hy ty, e, h => by
    rw [List.map_cons, List.zip_cons_cons] at e
    injection e with e1 e2
    have h0 := h r List.mem_cons_self
    have ih := putZ_dds rs xs ys _ _ tx ty e2 fun q hq => h q (List.mem_cons_of_mem _ hq)
    rw [Prod.mk.injEq] at e1
    refine .cons (.tup ⟨h0.1, h0.2⟩ ?_) ih
    rw [e1.1, e1.2]
    exact .cons hx (.cons hy .nil)
theorem we_lz {ta : TA} (h : WAx K B X ta δ fun ds => ∃ as bs, ds = [.tup as, .tup bs] ∧ as.length = bs.length ∧ P (.lst ((as.zip bs).map fun q => .tup [q.1, q.2]))) : WEx K B X (tLz K ta) δ P := fun G0 H0 σ G H Q s xx q =>
  h G0 H0 σ G H _ s xx fun vs ds G1 H1 g o hs ⟨as, bs, e, hl, hp⟩ => by
    subst e
    cases hs with
    | cons h1 t =>
      cases t with
      | cons h2 t =>
        cases t
        cases h1 with
        | tup g1 d1 =>
          cases h2 with
          | tup g2 d2 =>
            refine ⟨_, _, _, _, rfl, SqT.ofZ (o.u _ _ g1.1), SqT.ofZ (o.u _ _ g2.1), by rw [d1.length, d2.length]; exact hl, fun p rs f1 f2 f3 f4 f5 => ?_⟩
            obtain ⟨g3, o3⟩ := putZ_ok rs G1 H1 o f2 f3
            have fp : putZ H1 rs p = none := by rw [putZ_off rs _ f4]; exact f1
            have at3 : ∀ r ∈ rs, putZ G1 rs r.1 = some (zO r) ∧ r.2.1.dict = none := fun r hr => ⟨putZ_at rs G1 f3 r hr, (f2 r hr).2⟩
            have d3 := putZ_dds rs _ _ _ _ (d1.mono g3.s) (d2.mono g3.s) f5 at3
            exact q _ _ _ _ ((g.trans o g3).trans o3 (new_go o3 fp)) (new_ok o3 nt_lst fp) (.lst upd_same (d3.mono (same_upd (o3.fresh fp)))) hp
end
end Dl
/-! Vg: a, b, *c = t, t a tuple. -/
namespace Lz
open PySem PySem.Calls PyProof.Rows PyProof.V PySem.Spec
section
variable {P : Program} {w : World} {A : Around} {E : Value → Shared → Prop} {s : Shared}
/-- a tuple's iterator, k items ahead of it gone -/
theorem walk_from (hh : A.handled = none) (I t : Addr) (hne : t ≠ I) (items : Array Value) (k : Nat) (hk : k ≤ items.size) :
    Walks P w A I [I, t] [I] (items.size - k) (fun i v => items[k + i]? = some v) (fun i h => h.IsTupleIter I t (k + i) ∧ h.IsTuple t items) where
  sub := (PySem.Walks.tuple (prog := P) (w := w) hh I t hne items).sub
  frame := fun i h h' st q => (PySem.Walks.tuple (prog := P) (w := w) hh I t hne items).frame (k + i) h h' st q
  item := fun i s Q E hi st hQ => (PySem.Walks.tuple (prog := P) (w := w) hh I t hne items).item (k + i) s Q E (by omega) st fun v h' tk a b c => hQ v h' tk a b c
  done := fun s Q E st hQ => (PySem.Walks.tuple (prog := P) (w := w) hh I t hne items).done s Q E (by rw [show k + (items.size - k) = items.size by omega] at st; exact st) hQ
  self := fun i s Q E st hQ => (PySem.Walks.tuple (prog := P) (w := w) hh I t hne items).self (k + i) s Q E st hQ
theorem unpack_star {t : Addr} {items : Array Value} {k : Nat} {R : List Value → Shared → Prop} (hh : A.handled = none) (ht : s.heap.IsTuple t items) (hk : k ≤ items.size) (hz : items.size ≤ sizeLine)
    (h : ∀ (g : Heap) (tk : Nat), (∀ b o, s.heap.get? b = some o → g.get? b = some o) → R (items.toList.take k ++ [.ref g.objs.size]) { s with heap := g.push { cls := .type "list", data := .seq (items.toList.drop k).toArray }, toks := tk }) :
    wpAny (model P w) A (unpackItems (.ref t) (k + 1) (some k)) R E s := by
  have hne : t ≠ s.heap.objs.size := let ⟨o, ho, _⟩ := ht; Nat.ne_of_lt (Heap.lt_size ho)
  unfold unpackItems
  refine wpAny_bind ?_
  unfold notIterableAtAll
  refine wpAny_bind (wpAny_specialOf ht.typeIs F.slot_tuple_iter.lookup (wpAny_pure ?_))
  simp only [Bool.false_eq_true, if_false]
  refine wpAny_bind (wpAny_holding (wpAny_pyIter_tuple ht (wpAny_bind (wpAny_holding (wpAny_draw_tuple hne k 0 _ _ ⟨_, Heap.get?_push_size _ rfl, rfl, rfl⟩ (ht.push _) (by omega) fun g1 p1 m1 => ?_)))))
  have q1 : g1.IsTuple t items := (ht.push _).extBut m1.extBut hne
  rw [List.drop_zero, if_neg (by rw [List.length_take, Array.length_toList]; omega)]
  have sz : s.heap.objs.size < g1.objs.size := let ⟨_, e, _⟩ := p1; Heap.lt_size e
  have tl : t < g1.objs.size := let ⟨_, e, _⟩ := q1; Heap.lt_size e
  refine wpAny_bind (wpAny_holding (wpAny_collect_iter (s := { s with heap := g1 }) (T := "tuple_iterator") (.inr (.inr (.inr rfl))) (walk_from (A := A.in1) hh s.heap.objs.size t hne items k hk).toS (fun i s' st => st.1.typeIs) ⟨by simpa using p1, q1⟩ (fun b hb => ?_) List.mem_cons_self (fun s' acc mv ac => ?_) (by omega)))
  · rcases List.mem_cons.mp hb with e | hb
    · rw [e]; exact sz
    · rw [List.mem_singleton.mp hb]; exact tl
  have eacc : acc.toList = items.toList.drop k := by
    apply List.ext_getElem?
    intro j
    rw [List.getElem?_drop, Array.getElem?_toList, Array.getElem?_toList]
    cases e : acc[j]? with
    | some v => exact (ac.2 j v e).symm
    | none =>
      have hj : acc.size ≤ j := Array.getElem?_eq_none_iff.mp e
      rw [ac.1] at hj
      exact (Array.getElem?_eq_none (by omega)).symm
  rw [eacc]
  have hm : k + 1 - 1 - k = 0 := by omega
  simp only [hm, Nat.not_lt_zero, if_false, Nat.sub_zero, List.take_length, List.drop_length, List.append_nil]
  obtain ⟨hp, g, d, tk, os⟩ := s'
  obtain ⟨m1', m2, m3, m4, m5⟩ := mv
  simp only at m2 m3 m4
  subst m2 m3 m4
  refine wpAny_bind (wpAny_newObj_type ?_ (by show (items.toList.drop k).toArray.size ≤ sizeLine; rw [List.size_toArray, List.length_drop, Array.length_toList]; omega))
  refine wpAny_pure (h _ tk fun b o e => m1' b o (fun z => ?_) (m1.extBut b o (Nat.ne_of_lt (Heap.lt_size e)) (Heap.get?_push_of_some _ e)))
  rw [List.mem_singleton.mp z] at e
  exact absurd (Heap.lt_size e) (Nat.lt_irrefl _)
end
end Lz
namespace Dl
open PySem PySem.Spec PyProof.Rows L2
section
variable {X : Cx}
theorem pgs_star {e : Expr} {es : List Expr} {t : TG} {u : TGs} {p : Pos} (h1 : PG X e t) (h2 : PGs X es u) (hs : (assignEach (.Starred e p :: es) X.env).map (·.2) = assign e X.env :: (assignEach es X.env).map (·.2) := by rfl) : PGs X (.Starred e p :: es) (gCons t u) :=
  ⟨fun pins s σ H vs us Q I r h => by
    obtain ⟨v, vr, e1, h⟩ := h
    subst e1
    cases r with
    | cons r rr =>
      rw [hs]
      exact assignInOrder_cons (thn (h1.run pins s σ H _ _ _ I r h) fun _ s1 ⟨σ1, H1, I1, q1⟩ => h2.run pins s1 σ1 H1 _ _ Q I1 rr q1)⟩
/-- (a, .., *c) = a tuple -/
def gStar (K : PySem.W.Frag) (k : Nat) (t : TGs) : TG := fun v σ H Q => ∃ a xs, v = .ref a ∧ SqT K H a xs ∧ k ≤ xs.length ∧ ∀ l, H l = none → t (xs.take k ++ [.ref l]) σ (upd H l (.lst (xs.drop k))) Q
theorem pg_star {es : List Expr} {k c : Nat} {t : TGs} {pos : Pos} (hc : X.calm = true) (h : PGs X es t) (hn : (assignEach es X.env).length = k + 1 := by rfl) (hst : (assignEach es X.env).findIdx? (·.1) = some k := by rfl) : PG X (.Tuple es c pos) (gStar X.K k t) := by
  refine ⟨fun pins s σ H v u Q I r hw => ?_⟩
  obtain ⟨a, xs, e1, hq, hl, hw⟩ := hw
  subst e1
  cases r
  obtain ⟨its, rv, ht, hz⟩ := I.tuple hq
  have el := rv.length
  rw [assign_Tuple]
  refine wpAny_bind (wpAny_standAt ?_)
  unfold unpack
  rw [hn, hst]
  refine wpAny_bind (wpAny_holding (Lz.unpack_star (items := its.toArray) (I.ok.hd hc) (show s.heap.IsTuple a its.toArray from ht) (by rw [List.size_toArray]; omega) (by rw [List.size_toArray]; omega) fun g tk kp => ?_))
  have I1 : Inv X pins σ H { s with heap := g, toks := tk } := I.kept kp
  have hg : (g.push { cls := .type "list", data := .seq (its.drop k).toArray }).get? g.objs.size = some { cls := .type "list", data := .seq (its.drop k).toArray } := Heap.get?_push_size _ rfl
  have hf : H g.objs.size = none := I1.hok.fresh (Nat.le_refl _)
  have I2 : Inv X pins σ (upd H g.objs.size (.lst (xs.drop k))) { s with heap := g.push { cls := .type "list", data := .seq (its.drop k).toArray }, toks := tk } :=
    I1.laid (t' := tk) (fun b u e => Heap.get?_push_of_some _ e) (Nat.le_refl _) ⟨by rw [List.length_drop]; omega, its.drop k, 0, rv.drop k, hg⟩
  exact h.run pins _ σ _ _ _ Q I2 ((rv.take k).append (.cons (show RelV (V.ref g.objs.size) (Value.ref g.objs.size) from rfl) .nil)) (hw g.objs.size hf)
end
section
variable {K : PySem.W.Frag} {B : Bt} {P : D → Prop} {δ : List Sd} {O : Out} {te : TE}
theorem ws_star2 {i j l : Nat} (h : WEx K B O.x te δ fun d => ∃ a b r, d = .tup (a :: b :: r) ∧ O.nx (((δ.set i (.val a)).set j (.val b)).set l (.val (.lst r)))) : WS K B (tAsg te (gStar K 2 (gCons (gName i) (gCons (gName j) (gCons (gName l) gNil))))) δ O := fun G0 H0 σ G H E s xx n _ _ _ =>
  h G0 H0 σ G H _ s (xx.ct s) fun v d G1 H1 g o hd ⟨a, b, r, e, p⟩ => by
    subst e
    cases hd with
    | tup hg t =>
      cases t with
      | cons h1 t =>
        cases t with
        | cons h2 t =>
          rename_i vs
          refine ⟨_, _, rfl, SqT.ofZ (o.u _ _ hg.1), by simp, fun q hq => ⟨_, _, rfl, _, _, rfl, _, _, rfl, rfl, ?_⟩⟩
          have g2 := new_go (x := HO.lst vs) o hq
          have o2 := new_ok (x := HO.lst vs) o nt_lst hq
          exact n _ _ _ _ (g.s.trans g2.s) ((((s.on (g.trans o g2) o2).setVal i (h1.mono g2.s)).setVal j (h2.mono g2.s)).setVal l (.lst upd_same (t.mono g2.s))) p
end
end Dl
/-! Vh: a loop over a list or a tuple, whichever it is; sorted(ints); a, b, c, d = t; bounds of products. -/
namespace Dl
open PySem PySem.Spec PyProof.Rows L2
/-- for .. in xs, a list or a tuple -/
def iAny (K : PySem.W.Frag) (tl : TE) : TI := fun σ H R => tl σ H fun x H1 => ∃ a, x = .ref a ∧ (((∃ xs, SqL K H1 a xs) ∧ R (Itl K a) H1) ∨ ((∃ xs, SqT K H1 a xs) ∧ R (Itt K a) H1))
theorem pi_any {X : Cx} {tg l : Expr} {tl : TE} (hl : PE X l tl) : PI X tg l (iAny X.K tl) := by
  refine ⟨fun pins s σ H R I h => thn (hl.run pins s σ H _ I h) fun v s1 ⟨x, H1, I1, r1, a, e, q1⟩ => ?_⟩
  subst e
  cases r1
  have fp : ∀ b, b ∈ [s1.heap.objs.size] → FpOk X pins H1 b := fun b hb => by
    rw [List.mem_singleton.mp hb]
    exact I1.fpOk (Nat.le_refl _) (I1.hok.fresh (Nat.le_refl _))
  rcases q1 with ⟨⟨xs, hq⟩, q⟩ | ⟨⟨xs, hq⟩, q⟩
  · obtain ⟨its, rv, p, hz⟩ := I1.list hq
    exact wpAny_pyIter_list p.isList ⟨s1.heap.objs.size, [s1.heap.objs.size], _, _, H1, rfl, I1.kept (t' := s1.toks) fun b o e => Heap.get?_push_of_some _ e, turn_list a _, ⟨_, Heap.get?_push_size _ rfl, rfl, rfl⟩, fp, q⟩
  · obtain ⟨its, rv, p, hz⟩ := I1.tuple hq
    exact wpAny_pyIter_tuple (show s1.heap.IsTuple a its.toArray from p) ⟨s1.heap.objs.size, [s1.heap.objs.size], _, _, H1, rfl, I1.kept (t' := s1.toks) fun b o e => Heap.get?_push_of_some _ e, turn_tuple a _, ⟨_, Heap.get?_push_size _ rfl, rfl, rfl⟩, fp, q⟩
section
variable {K : PySem.W.Frag} {B : Bt} {δ : List Sd} {X : Xc} {O : Out} {te : TE} {Q : D → Prop}
theorem wi_any {P : List D → Prop} (h : WEx K B X te δ fun d => ∃ ds, (d = .lst ds ∨ d = .tup ds) ∧ P ds) : WIx K B X (iAny K te) δ P := fun G0 H0 σ G H R s xx q =>
  h G0 H0 σ G H _ s xx fun x a G1 H1 g1 o1 hx ⟨ds, e, p⟩ => by
    rcases e with e | e
    · subst e
      cases hx with
      | lst h t => exact ⟨_, rfl, .inl ⟨⟨_, SqL.of (o1.u _ _ h)⟩, q _ ds G1 H1 g1 o1 (it_list h t) p⟩⟩
    · subst e
      cases hx with
      | tup h t => exact ⟨_, rfl, .inr ⟨⟨_, SqT.ofZ (o1.u _ _ h.1)⟩, q _ ds G1 H1 g1 o1 (it_tup h t) p⟩⟩
theorem Dds.ofInts {G : Hp} : ∀ ns : List Int, Dds K B G (ns.map V.int) (ns.map D.int)
  | [] => .nil
  | _ :: ns => .cons (.int _) (Dds.ofInts ns)
theorem rc_sortI {ns : List Int} (h : ∀ ms : List Int, ms.Perm ns → ms.Pairwise (· ≤ ·) → Q (.lst (ms.map D.int))) : RC K B (rSortedI K) [.lst (ns.map D.int)] Q := fun G H vs R o hs q => by
  cases hs with
  | cons h1 t1 =>
    cases t1
    cases h1 with
    | lst hg t =>
      refine ⟨_, ns, rfl, by rw [← Dds.ints t]; exact SqL.of (o.u _ _ hg), fun ms p h1 h2 h3 => ?_⟩
      exact q.new o nt_lst h3 (.lst upd_same (Dds.ofInts ms)) (h ms h1 h2)
theorem ws_unt4 {i j l m : Nat} (h : WEx K B O.x te δ fun d => ∃ a b c e, d = .tup [a, b, c, e] ∧ O.nx ((((δ.set i (.val a)).set j (.val b)).set l (.val c)).set m (.val e))) : WS K B (tAsg te (gTup K 4 (gCons (gName i) (gCons (gName j) (gCons (gName l) (gCons (gName m) gNil)))))) δ O := fun G0 H0 σ G H E s xx n _ _ _ =>
  h G0 H0 σ G H _ s (xx.ct s) fun v d G1 H1 g o hd ⟨a, b, c, e, ed, p⟩ => by
    subst ed
    cases hd with
    | tup hg t =>
      cases t with
      | cons h1 t =>
        cases t with
        | cons h2 t =>
          cases t with
          | cons h3 t =>
            cases t with
            | cons h4 t =>
              cases t
              exact ⟨_, _, rfl, SqT.ofZ (o.u _ _ hg.1), rfl, _, _, rfl, _, _, rfl, _, _, rfl, _, _, rfl, rfl, n _ _ G1 H1 g.s (((((s.on g o).setVal i h1).setVal j h2).setVal l h3).setVal m h4) p⟩
end
theorem mulB {x y m n : Int} (hx : -m ≤ x ∧ x ≤ m) (hy : -n ≤ y ∧ y ≤ n) : -(m * n) ≤ x * y ∧ x * y ≤ m * n := by
  have h1 : x.natAbs ≤ m.natAbs := by omega
  have h2 : y.natAbs ≤ n.natAbs := by omega
  have h3 : (x * y).natAbs ≤ m.natAbs * n.natAbs := by rw [Int.natAbs_mul]; exact Nat.mul_le_mul h1 h2
  have h4 : ((m.natAbs * n.natAbs : Nat) : Int) = m * n := by
    rw [Int.natCast_mul, Int.natAbs_of_nonneg (by omega), Int.natAbs_of_nonneg (by omega)]
  omega
end Dl
/-! Vi: {elt for t0 in i0 if .. for t1 in i1 if ..}, elt a tuple of ints. -/
namespace S2
open PySem PySem.Spec PyProof.Rows L2
abbrev sc2 (elt t0 i0 : Expr) (f0 : List Expr) (t1 i1 : Expr) (f1 : List Expr) (scope : Scope) (pos : Pos) : Expr := .SetComp elt [⟨t0, i0, f0, 0⟩, ⟨t1, i1, f1, 0⟩] scope pos
section
variable {P : Program} {w : World} {A : Around} {R : Result → Shared → Prop} {s : Shared} {elt t0 i0 t1 i1 : Expr} {f0 f1 : List Expr} {scope : Scope} {pos : Pos} {it acc : Value} {env : Env}
theorem turn_out : compTurn (sc2 elt t0 i0 f0 t1 i1 f1 scope pos) 0 it acc env = (do
    standAt i0.pos
    match ← pyNext it with
    | none => pure (.done .next)
    | some u =>
      letOwnedTupleGo t0 it u
      assign t0 env u
      let mut b := true
      for c in f0 do
        if b then b ← isTrue c env (eval c env)
      if b then
        let y ← eval i1 env
        standAt i1.pos
        let z ← foldedSetIterable i1 env y
        let _ ← runOwn (.compStart (sc2 elt t0 i0 f0 t1 i1 f1 scope pos) 1 (← holding [z] (pyIter z)) acc env) env
      again (.compLoop (sc2 elt t0 i0 f0 t1 i1 f1 scope pos) 0 it acc env)) := by rfl
theorem turn_in : compTurn (sc2 elt t0 i0 f0 t1 i1 f1 scope pos) 1 it acc env = (do
    standAt i1.pos
    match ← pyNext it with
    | none => pure (.done .next)
    | some u =>
      letOwnedTupleGo t1 it u
      assign t1 env u
      let mut b := true
      for c in f1 do
        if b then b ← isTrue c env (eval c env)
      if b then
        (do let y ← eval elt env; standAt elt.pos; let _ ← call (.builtin "set.add") [acc, y])
      again (.compLoop (sc2 elt t0 i0 f0 t1 i1 f1 scope pos) 1 it acc env)) := by rfl
/-- the tests of a clause -/
abbrev tests (env : Env) (fs : List Expr) : Sem Bool := forIn fs true fun c r => if r = true then do let b ← isTrue c env (eval c env); pure (ForInStep.yield b) else pure (ForInStep.yield r)
abbrev Nb (P : Program) (w : World) (A : Around) (env : Env) (R : Result → Shared → Prop) : Value → Shared → Prop := notedBy (model P w) A env fun e t => R (.error e) t
theorem loop_out (hs : ∀ x, foldedSetIterable i1 env x = pure x) (I : Nat → Shared → Prop)
    (step : ∀ n s, I n s → wpAny (model P w) A (pyNext it) (fun r t => match r with
      | none => R (.ok .next) t
      | some u => wpAny (model P w) A (letOwnedTupleGo t0 it u) (fun _ t => wpAny (model P w) A (assign t0 env u) (fun _ t => wpAny (model P w) A (tests env f0) (fun b t =>
          if b = true then wpAny (model P w) A (eval i1 env) (fun x t => wpAny (model P w) A (pyIter x) (fun it1 t =>
            codeAny (model P w) A (.compStart (sc2 elt t0 i0 f0 t1 i1 f1 scope pos) 1 it1 acc env) (fun r t => match r with
              | .ok _ => ∃ m, m < n ∧ I m t
              | .error _ => False) t) (Nb P w A env R) t) (Nb P w A env R) t
          else ∃ m, m < n ∧ I m t) (Nb P w A env R) t) (Nb P w A env R) t) (Nb P w A env R) t) (Nb P w A env R) s)
    (n : Nat) (h : I n s) : codeAny (model P w) A (.compLoop (sc2 elt t0 i0 f0 t1 i1 f1 scope pos) 0 it acc env) R s := by
  refine codeAny_loop rfl I (fun n s hI => ?_) n h
  show wpAny _ A ((compTurn (sc2 elt t0 i0 f0 t1 i1 f1 scope pos) 0 it acc env).onRaise (fun x => do noteFrame x env; theTreesLotGoes x)) _ _ s
  refine wpAny_noted ?_; rw [turn_out]
  refine wpAny_bind (wpAny_standAt (wpAny_bind (wpAny_mono (step n s hI) (fun r t k => ?_) fun _ _ z => z)))
  cases r with
  | none => exact wpAny_pure k
  | some u =>
    refine wpAny_bind (wpAny_mono k (fun _ t k => wpAny_bind (wpAny_mono k (fun _ t k => wpAny_bind (wpAny_mono k (fun b t k => ?_) fun _ _ z => z)) fun _ _ z => z)) fun _ _ z => z)
    cases b with
    | false => exact wpAny_pure ⟨rfl, k⟩
    | true =>
      refine wpAny_bind (wpAny_mono k (fun x t k => wpAny_bind (wpAny_standAt (wpAny_bind (wpAny_of_eq (hs x) (wpAny_bind (wpAny_holding (wpAny_mono k (fun it1 t k => ?_) fun _ _ z => z))))))) fun _ _ z => z)
      refine wpAny_bind (wpAny_runOwn ?_); rw [Around.mark_none]
      refine codeAny_mono k fun r t hr => ?_
      cases r with
      | ok f => first | exact wpAny_pure ⟨rfl, hr⟩ | exact wpAny_bind (wpAny_pure (wpAny_pure ⟨rfl, hr⟩))
      | error e => exact hr.elim
theorem loop_in (I : Nat → Shared → Prop)
    (step : ∀ n s, I n s → wpAny (model P w) A (pyNext it) (fun r t => match r with
      | none => R (.ok .next) t
      | some u => wpAny (model P w) A (letOwnedTupleGo t1 it u) (fun _ t => wpAny (model P w) A (assign t1 env u) (fun _ t => wpAny (model P w) A (tests env f1) (fun b t =>
          if b = true then wpAny (model P w) A (eval elt env) (fun x t => wpAny (model P w) A (call (.builtin "set.add") [acc, x]) (fun _ t => ∃ m, m < n ∧ I m t) (Nb P w A env R) t) (Nb P w A env R) t
          else ∃ m, m < n ∧ I m t) (Nb P w A env R) t) (Nb P w A env R) t) (Nb P w A env R) t) (Nb P w A env R) s)
    (n : Nat) (h : I n s) : codeAny (model P w) A (.compLoop (sc2 elt t0 i0 f0 t1 i1 f1 scope pos) 1 it acc env) R s := by
  refine codeAny_loop rfl I (fun n s hI => ?_) n h
  show wpAny _ A ((compTurn (sc2 elt t0 i0 f0 t1 i1 f1 scope pos) 1 it acc env).onRaise (fun x => do noteFrame x env; theTreesLotGoes x)) _ _ s
  refine wpAny_noted ?_; rw [turn_in]
  refine wpAny_bind (wpAny_standAt (wpAny_bind (wpAny_mono (step n s hI) (fun r t k => ?_) fun _ _ z => z)))
  cases r with
  | none => exact wpAny_pure k
  | some u =>
    refine wpAny_bind (wpAny_mono k (fun _ t k => wpAny_bind (wpAny_mono k (fun _ t k => wpAny_bind (wpAny_mono k (fun b t k => ?_) fun _ _ z => z)) fun _ _ z => z)) fun _ _ z => z)
    cases b with
    | false => exact wpAny_pure ⟨rfl, k⟩
    | true => exact wpAny_bind (wpAny_bind (wpAny_mono k (fun x t k => wpAny_bind (wpAny_standAt (wpAny_bind (wpAny_mono k (fun _ t k => wpAny_pure (wpAny_pure ⟨rfl, k⟩)) fun _ _ z => z)))) fun _ _ z => z))
theorem start_in (h0 : codeAny (model P w) A (.compLoop (sc2 elt t0 i0 f0 t1 i1 f1 scope pos) 1 it acc env) R s)
    (h : wpAny (model P w) A (pyIter it) (fun it' t => codeAny (model P w) A (.compLoop (sc2 elt t0 i0 f0 t1 i1 f1 scope pos) 1 it' acc env) R t) (Nb P w A env R) s) :
    codeAny (model P w) A (.compStart (sc2 elt t0 i0 f0 t1 i1 f1 scope pos) 1 it acc env) R s := by
  refine codeAny_of_tree ?_
  show wpAny _ _ ((compStart (sc2 elt t0 i0 f0 t1 i1 f1 scope pos) 1 it acc env).onRaise (fun x => do noteFrame x env; standAt theWindowsPlace)) _ _ s
  refine wpAny_notedAt ?_; unfold compStart; show wpAny _ _ (ask >>= _) _ _ s
  refine wpAny_bind (wpAny_askSetting (wpAny_ite ?_)); split
  · first | exact wpAny_bind (wpAny_pure (wpAny_pure (And.intro rfl h0))) | exact wpAny_pure (And.intro rfl h0)
  · first
      | exact wpAny_bind (wpAny_rule (wpAny_bind (wpAny_standAt (wpAny_bind (wpAny_mono h (fun _ t k => wpAny_pure (And.intro rfl k)) fun _ _ z => z)))))
      | (refine wpAny_bind (wpAny_rule ?_); show wpAny _ _ (standAt i1.pos >>= _) _ _ s; exact wpAny_bind (wpAny_standAt (wpAny_bind (wpAny_mono h (fun _ t k => wpAny_pure (And.intro rfl k)) fun _ _ z => z))))
end
section
variable {X : Cx}
/-- set.add of a tuple of ints -/
theorem addT {pins : List (Addr × Obj)} {σ : L2.St} {H : Hp} {s : Shared} {E : Value → Shared → Prop} {D t : Addr} {k : List Int} {L : List (Addr × List Int)} {Q : Value → Shared → Prop} (I : Inv X pins σ H s) (hD : H D = some (SetTO X.prog X.w D L)) (hL : ∀ p ∈ L, SqT X.K H p.1 (p.2.map V.int)) (ht : SqT X.K H t (k.map V.int)) (hu : X.A.units + 64 < cLine) (few : L.length + 1 < 64)
    (h : ∀ L' s', (k ∈ L.map (·.2) → L' = L) → (k ∉ L.map (·.2) → L'.Perm ((t, k) :: L)) → Inv X pins σ (upd H D (SetTO X.prog X.w D L')) s' → Q .none s') : wpAny (model X.prog X.w) X.A (call (.builtin "set.add") [.ref D, .ref t]) Q E s := by
  have R0 : SetT0 X.prog X.w s.heap D L := (I.hok D _ hD).1
  obtain ⟨es, ep, tb, R⟩ := R0.full fun p hp => I.isT (hL p hp)
  obtain ⟨o, ho, hex, hd⟩ := R.ob
  have hT : s.TypeIs (.ref D) "set" := ⟨o, ho, hex.1⟩
  refine wpAny_call_entry F.slot_set_add hT F.entry_set_add ?_ (F.args_set_add_2 _ _)
  unfold Builtin.«set.add» Builtin.Frozenset.oneOther; simp only [List.isEmpty_nil, bind_assoc]
  unfold Builtin.Frozenset.addrOf setAdd; refine wpAny_bind (wpAny_pure ?_); try dsimp only
  refine wpAny_bind (wpAny_pure ?_); try dsimp only
  refine wpAny_bind (wpAny_holding (wpAny_bind (wpAny_pyHash_tuple (show X.A.units + 1 < cLine by omega) (I.isT ht) ?_)))
  refine add_at (s := { s with toks := s.toks + (k.length + 1) }) (R.keep (fun _ e => e) R.tup) (I.isT ht) (show X.A.units + 1 < cLine by omega) few fun b g L' es' ep' t' sb R' c1 c2 => ?_
  show wpAny _ _ (ret Value.none) _ _ _; refine wpAny_pure ⟨_, rfl, h L' _ c1 c2 ?_⟩
  obtain ⟨o', ho', _⟩ := R'.ob
  exact I.write (e := D) (t' := s.toks + (k.length + 1)) (by rw [hD]; trivial) (.inl rfl) (fun b u hb hu => (sb.2 b hb).trans hu) ⟨o', ho'⟩ (setTO_new R'.t0)
/-- {elt for g in wi if tt for g1 in wi1 if tt1}: D the new set -/
def tS2 (K : PySem.W.Frag) (P : Program) (w : World) (wi : TI) (g : TG) (tt : TT) (wi1 : TI) (g1 : TG) (tt1 : TT) (te : TE) (vs vs1 : List Nat) : TE := fun σ H Q => wi σ H fun J H1 => ∀ D, H1 D = none → ∃ W : Nat → Nat → Hp → Prop, (∃ m, W 0 m (upd H1 D (SetTO P w D []))) ∧ ∀ i m H, W i m H →
  (J.stop i H ∧ Q (.ref D) H) ∨ (J.go i H ∧ ∃ Nx : Hp → Prop, (∀ H', Nx H' → ∃ m', m' < m ∧ W (i + 1) m' H') ∧ ∀ x H', J.yld i H x H' → g x (wipe σ vs) H' fun σ2 H2 => wipe σ2 vs = wipe σ vs ∧ tt σ2 H2 fun b H3 =>
    if b = true then wi1 σ2 H3 fun J1 H4 => ∃ W1 : Nat → Nat → Hp → Prop, (∃ m, W1 0 m H4) ∧ ∀ j k H, W1 j k H →
      (J1.stop j H ∧ Nx H) ∨ (J1.go j H ∧ ∃ Nx1 : Hp → Prop, (∀ H', Nx1 H' → ∃ k', k' < k ∧ W1 (j + 1) k' H') ∧ ∀ x H', J1.yld j H x H' → g1 x (wipe σ2 vs1) H' fun σ3 H5 => wipe σ3 vs1 = wipe σ2 vs1 ∧ tt1 σ3 H5 fun b H6 =>
        if b = true then te σ3 H6 fun y H7 => ∃ t n L, y = .ref t ∧ SqT K H7 t (n.map V.int) ∧ H7 D = some (SetTO P w D L) ∧ (∀ p ∈ L, SqT K H7 p.1 (p.2.map V.int)) ∧ L.length + 1 < 64 ∧ ∀ L', (n ∈ L.map (·.2) → L' = L) → (n ∉ L.map (·.2) → L'.Perm ((t, n) :: L)) → Nx1 (upd H7 D (SetTO P w D L')) else Nx1 H6)
    else Nx H3)
theorem pe_s2 {elt tg iter tg1 iter1 : Expr} {fs fs1 : List Expr} {scope : Scope} {own : List (Str × Nat)} {vs1 : List Nat} {pos : Pos} {wi wi1 : TI} {g g1 : TG} {tt tt1 : TT} {te : TE} (hc : X.calm = true) (hN : X.N.Nodup) (hu : X.A.units + 64 < cLine) (hi : PI X tg iter wi) (ok : BlkOk X.N X.env.scope scope own) (hv : ∀ i ∈ vs1, i ∈ own.map (·.2))
    (hg : ∀ (s : Shared) (H : Hp) (C : Addr) (cl : List (Str × Addr)) (fp : List Addr), PG (X.blk s H scope (compEnvC scope cl C X.env) fp) tg g) (ht : ∀ (s : Shared) (H : Hp) (C : Addr) (cl : List (Str × Addr)) (fp : List Addr), PTs (X.blk s H scope (compEnvC scope cl C X.env) fp) fs tt)
    (hi1 : ∀ (s : Shared) (H : Hp) (C : Addr) (cl : List (Str × Addr)) (fp : List Addr), PI (X.blk s H scope (compEnvC scope cl C X.env) fp) tg1 iter1 wi1) (hg1 : ∀ (s : Shared) (H : Hp) (C : Addr) (cl : List (Str × Addr)) (fp : List Addr), PG (X.blk s H scope (compEnvC scope cl C X.env) fp) tg1 g1)
    (ht1 : ∀ (s : Shared) (H : Hp) (C : Addr) (cl : List (Str × Addr)) (fp : List Addr), PTs (X.blk s H scope (compEnvC scope cl C X.env) fp) fs1 tt1) (he : ∀ (s : Shared) (H : Hp) (C : Addr) (cl : List (Str × Addr)) (fp : List Addr), PE (X.blk s H scope (compEnvC scope cl C X.env) fp) elt te)
    (hs : ∀ x, foldedSetIterable iter X.env x = pure x := by intro _; rfl) (hs1 : ∀ env x, foldedSetIterable iter1 env x = pure x := by intro _ _; rfl) :
    PE X (sc2 elt tg iter fs tg1 iter1 fs1 scope pos) (tS2 X.K X.prog X.w wi g tt wi1 g1 tt1 te (own.map (·.2)) vs1) := by
  refine ⟨fun pins s σ H Q I h => ?_⟩
  have cells : ∀ y ∈ scope.names, y.2 = .free → ∃ c, X.env.cells.lookup y.1 = some c := fun y hy e => (ok.free y hy e).elim (fun z => I.ok.has _ (.inl z)) fun z => I.ok.has _ (.inr z)
  show wpAny (model X.prog X.w) X.A (comprehension (sc2 elt tg iter fs tg1 iter1 fs1 scope pos) scope X.env _ (newSet (.type "set")) _ (eval iter X.env)) _ X.xe s
  refine wpAny_comprehension_free rfl hs (closure_ok cells) ok.kind (fun y hy e => by rw [ok.uniq y hy, e]) (thn (hi.run pins s σ H _ I h) fun _ t1 k => thn k fun _ t2 ⟨it, fp, tn, J, H2, e, I2, T, st2, f2, q⟩ => ?_)
  subst e
  refine PpSet.newSet_ok (newEnv_comp ?_)
  generalize eD : t2.heap.objs.size = D
  have nD : H2 D = none := I2.hok.fresh (Nat.le_of_eq eD)
  obtain ⟨W, ⟨m0, w0⟩, turn⟩ := q D nD
  generalize e3 : ({ t2 with heap := t2.heap.push { cls := .type "set", dict := none, data := .set #[] 0 (.fresh 0 0 (!X.w.params.followText "set-order")) } } : Shared) = t3
  have p3 : t3.heap = t2.heap.push { cls := .type "set", dict := none, data := .set #[] 0 (.fresh 0 0 (!X.w.params.followText "set-order")) } := by rw [← e3]
  have k3 : ∀ b o, t2.heap.get? b = some o → t3.heap.get? b = some o := fun b o z => by rw [p3]; exact Heap.get?_push_of_some _ z
  have I3 : Inv X pins σ (upd H2 D (SetTO X.prog X.w D [])) t3 := by
    rw [← e3]
    refine I2.laid (t' := t2.toks) (fun b o z => Heap.get?_push_of_some _ z) (Nat.le_of_eq eD) (setTO_new (setTR_fresh (h := t2.heap.push _) ?_).t0)
    rw [← eD]; exact Heap.get?_push_size _ rfl
  have below : ∀ b ∈ fp, b < t2.heap.objs.size := fun b hb => let ⟨_, z, _⟩ := T.obj _ _ st2 b hb; Heap.lt_size z
  have f3 : ∀ b ∈ fp, FpOk X pins (upd H2 D (SetTO X.prog X.w D [])) b ∧ b < t3.heap.objs.size := fun b hb => by
    have lt := below b hb
    refine ⟨⟨?_, (f2 b hb).2⟩, by rw [p3, Heap.size_push]; exact Nat.lt_succ_of_lt lt⟩
    rw [upd_ne (by rw [← eD]; exact Nat.ne_of_lt lt)]; exact (f2 b hb).1
  have st3 : tn 0 t3.heap := T.keep _ _ _ st2 fun b _ o z => k3 b o z
  have I4 := block_start I3 ok hN f3
  generalize eC : cellsFrom (t3.heap.objs.size + 1) scope.names (cloFrom X.env.cells scope.names []) = cl at I4
  have qg := hg t3 (upd H2 D (SetTO X.prog X.w D [])) t3.heap.objs.size cl fp
  have qt := ht t3 (upd H2 D (SetTO X.prog X.w D [])) t3.heap.objs.size cl fp
  have qi1 := hi1 t3 (upd H2 D (SetTO X.prog X.w D [])) t3.heap.objs.size cl fp
  have qg1 := hg1 t3 (upd H2 D (SetTO X.prog X.w D [])) t3.heap.objs.size cl fp
  have qt1 := ht1 t3 (upd H2 D (SetTO X.prog X.w D [])) t3.heap.objs.size cl fp
  have qe := he t3 (upd H2 D (SetTO X.prog X.w D [])) t3.heap.objs.size cl fp
  show codeAny (model X.prog X.w) X.A (.compStart (sc2 elt tg iter fs tg1 iter1 fs1 scope pos) 0 (.ref it) (.ref D) (compEnvC scope cl t3.heap.objs.size X.env)) (compPost (model X.prog X.w) X.A X.xe none (EP X pins σ Q) (.ref D) t3.heap.objs.size) _
  have nfp : ∀ b ∈ fp, (upd H2 D (SetTO X.prog X.w D [])) b = none := fun b hb => (f3 b hb).1.1
  generalize eE : compEnvC scope cl t3.heap.objs.size X.env = ce at I4 qg qt qi1 qg1 qt1 qe ⊢
  have eL : ce.locals = t3.heap.objs.size := by rw [← eE]; rfl
  generalize upd H2 D (SetTO X.prog X.w D []) = H3 at I3 I4 qg qt qi1 qg1 qt1 qe w0 nfp f3
  generalize e4 : ({ t3 with heap := pushCells (t3.heap.push { cls := .type "dict", data := .dict #[] }) scope.names } : Shared) = t4 at I4 ⊢
  have st4 : tn 0 t4.heap := T.keep _ _ _ st3 fun b _ o z => by rw [← e4]; exact pushCells_keeps _ _ _ _ (Heap.get?_push_of_some _ z)
  have still : ∀ {τ : L2.St} {G : Hp} {t : Shared}, Inv (X.blk t3 H3 scope ce fp) [] τ G t → (∀ b ∈ fp, G b = none) → ∀ b ∈ fp, FpOk (X.blk t3 H3 scope ce fp) [] G b := fun {τ G t} J n b hb => ⟨n b hb, (J.ok.exf b hb).1, J.ok.exfs b hb, .inl hb, fun x c z => (J.ok.exf b hb).2 x c z, fun p hp => absurd (show p ∈ ([] : List (Addr × Obj)) ++ [] from hp) (by simp)⟩
  have all : codeAny (model X.prog X.w) X.A (.compLoop (sc2 elt tg iter fs tg1 iter1 fs1 scope pos) 0 (.ref it) (.ref D) ce) (compPost (model X.prog X.w) X.A X.xe none (EP X pins σ Q) (.ref D) t3.heap.objs.size) t4 := by
    refine loop_out (hs1 ce) (fun n t => ∃ i G, Inv (X.blk t3 H3 scope ce fp) [] (wipe σ (own.map (·.2))) G t ∧ tn i t.heap ∧ (∀ b ∈ fp, G b = none) ∧ W i n G) ?_ m0 ⟨0, H3, I4, st4, nfp, w0⟩
    rintro n t5 ⟨i, H5, I5, st5, n5, w5⟩
    rcases turn i n H5 w5 with ⟨stop, fin⟩ | ⟨go, Nx, hNx, step⟩
    · refine thnF (T.done (X.blk t3 H3 scope ce fp) rfl rfl rfl hc i [] t5 _ H5 (fun _ _ => False) I5 (still I5 n5) st5 stop) fun r t6 ⟨hr, I6⟩ => ?_
      subst hr
      have I7 : Inv X pins σ H5 t6 := I3.call' (ch := fp) I6.os I6.base I6.hok I6.bare fun b hb => ⟨(f3 b hb).1.2.2.2.1, (f3 b hb).1.2.1, (f3 b hb).1.2.2.2.2.1, (f3 b hb).1.2.2.2.2.2⟩
      have nC : H5 t3.heap.objs.size = none := by rw [← eL]; exact I6.free
      obtain ⟨m, hm, _⟩ := I6.loc
      have hm : t6.heap.Ns ce.locals m := hm
      rw [eL] at hm
      have fC := I3.fpOk (Nat.le_refl _) nC
      obtain ⟨c0, c1, c2, c3, c4, c5⟩ := fC
      exact ⟨m, hm, fun h'' sb => ⟨.ref D, H5, I7.turned (t' := t6.toks) (fun b o hb z => (sb.2 b hb).trans z) c0 c1 c3 c4 c5, rfl, fin⟩⟩
    · refine thnF (T.item (X.blk t3 H3 scope ce fp) rfl rfl rfl hc i [] t5 _ H5 (fun _ _ => False) I5 (still I5 n5) st5 go) fun r t6 ⟨u, hr, k6⟩ => ?_
      subst hr
      refine thnF k6 fun _ t7 ⟨x, H7, I7, r7, y7, st7, n7⟩ => ?_
      have J7 := I7.pinned (still I7 n7) (T.obj _ _ st7)
      refine thnF (qg.run _ t7 _ H7 x u _ J7 r7 (step x H7 y7)) fun _ t8 ⟨σ8, H8, I8, w8, q8⟩ => thnF (qt.run _ t8 σ8 H8 _ I8 q8) fun b t9 ⟨H9, I9, q9⟩ => ?_
      have fin : ∀ {τ : L2.St} {t : Shared} {G : Hp}, Inv (X.blk t3 H3 scope ce fp) ([] ++ pinsAt fp t7.heap) τ G t → (wipe σ (own.map (·.2))).length = τ.length → (∀ (j : Nat) v, (wipe σ (own.map (·.2)))[j]? = some (some v) → τ[j]? = some (some v)) → Nx G →
          ∃ m, m < n ∧ ∃ i G, Inv (X.blk t3 H3 scope ce fp) [] (wipe σ (own.map (·.2))) G t ∧ tn i t.heap ∧ (∀ b ∈ fp, G b = none) ∧ W i m G := fun {τ t G} J hl hk nx => by
        obtain ⟨m', hm, w'⟩ := hNx G nx
        have pin : ∀ b ∈ fp, ∀ o, t7.heap.get? b = some o → t.heap.get? b = some o ∧ G b = none := fun b hb o z => let y := J.pin (b, o) (List.mem_append_right _ (List.mem_append_right _ (mem_pinsAt hb z))); ⟨y.1, y.2.1⟩
        exact ⟨m', hm, i + 1, G, (J.unpinned (pins := [])).weak hl hk, T.keep _ _ _ st7 fun b hb o z => (pin b hb o z).1, fun b hb => let ⟨o, z, _⟩ := T.obj _ _ st7 b hb; (pin b hb o z).2, w'⟩
      have l8 : (wipe σ (own.map (·.2))).length = σ8.length := by rw [← w8, wipe_length]
      have k8 : ∀ (j : Nat) v, (wipe σ (own.map (·.2)))[j]? = some (some v) → σ8[j]? = some (some v) := fun j v z => by rw [← w8] at z; exact (wipe_some z).1
      have k9 : ∀ (j : Nat) v, (wipe σ (own.map (·.2)))[j]? = some (some v) → (wipe σ8 vs1)[j]? = some (some v) := fun j v z => by
        rw [← w8] at z
        obtain ⟨z1, z2⟩ := wipe_some z
        rw [wipe_out fun y => z2 (hv j y)]; exact z1
      cases b with
      | false =>
        simp only [Bool.false_eq_true, if_false] at q9 ⊢
        exact fin I9 l8 k8 q9
      | true =>
        simp only [if_true] at q9 ⊢
        refine thnF (qi1.run _ t9 σ8 H9 _ I9 q9) fun xv t10 kx => thnF kx fun iv t11 ⟨it1, fp1, tn1, J1, H11, ei, I11, T1, st11, f11, W1, ⟨m1, w1⟩, turn1⟩ => ?_
        subst ei
        have still1 : ∀ {G : Hp}, (∀ b ∈ fp1, G b = none) → ∀ b ∈ fp1, FpOk (X.blk t3 H3 scope ce fp) ([] ++ pinsAt fp t7.heap) G b := fun n b hb => ⟨n b hb, (f11 b hb).2⟩
        have inner : codeAny (model X.prog X.w) X.A (.compLoop (sc2 elt tg iter fs tg1 iter1 fs1 scope pos) 1 (.ref it1) (.ref D) ce)
            (fun r t => match r with
              | .ok _ => ∃ m, m < n ∧ ∃ i G, Inv (X.blk t3 H3 scope ce fp) [] (wipe σ (own.map (·.2))) G t ∧ tn i t.heap ∧ (∀ b ∈ fp, G b = none) ∧ W i m G
              | .error _ => False) t11 := by
          refine loop_in (fun k t => ∃ j G, Inv (X.blk t3 H3 scope ce fp) ([] ++ pinsAt fp t7.heap) (wipe σ8 vs1) G t ∧ tn1 j t.heap ∧ (∀ b ∈ fp1, G b = none) ∧ W1 j k G) ?_ m1 ⟨0, H11, I11.weak (wipe_length _ _) (fun j v z => (wipe_some z).1), st11, fun b hb => (f11 b hb).1, w1⟩
          rintro k t12 ⟨j, H12, I12, st12, n12, w12⟩
          rcases turn1 j k H12 w12 with ⟨stop1, nx1⟩ | ⟨go1, Nx1, hNx1, step1⟩
          · refine thnF (T1.done (X.blk t3 H3 scope ce fp) rfl rfl rfl hc j _ t12 (wipe σ8 vs1) H12 (fun _ _ => False) I12 (still1 n12) st12 stop1) fun r t13 ⟨hr, I13⟩ => ?_
            subst hr
            exact fin I13 (l8.trans (wipe_length σ8 vs1).symm) k9 nx1
          · refine thnF (T1.item (X.blk t3 H3 scope ce fp) rfl rfl rfl hc j _ t12 (wipe σ8 vs1) H12 (fun _ _ => False) I12 (still1 n12) st12 go1) fun r t13 ⟨u1, hr, k13⟩ => ?_
            subst hr
            refine thnF k13 fun _ t14 ⟨x1, H14, I14, r14, y14, st14, n14⟩ => ?_
            have J14 := I14.pinned (still1 n14) (T1.obj _ _ st14)
            refine thnF (qg1.run _ t14 (wipe σ8 vs1) H14 x1 u1 _ J14 r14 (step1 x1 H14 y14)) fun _ t15 ⟨σ15, H15, I15, w15, q15⟩ => thnF (qt1.run _ t15 σ15 H15 _ I15 q15) fun b1 t16 ⟨H16, I16, q16⟩ => ?_
            have fin1 : ∀ {t : Shared} {G : Hp}, Inv (X.blk t3 H3 scope ce fp) (([] ++ pinsAt fp t7.heap) ++ pinsAt fp1 t14.heap) σ15 G t → Nx1 G → ∃ m, m < k ∧ ∃ j G, Inv (X.blk t3 H3 scope ce fp) ([] ++ pinsAt fp t7.heap) (wipe σ8 vs1) G t ∧ tn1 j t.heap ∧ (∀ b ∈ fp1, G b = none) ∧ W1 j m G := fun {t G} J nx => by
              obtain ⟨m', hm, w'⟩ := hNx1 G nx
              have pin : ∀ b ∈ fp1, ∀ o, t14.heap.get? b = some o → t.heap.get? b = some o ∧ G b = none := fun b hb o z => let y := J.pin (b, o) (List.mem_append_right _ (List.mem_append_right _ (mem_pinsAt hb z))); ⟨y.1, y.2.1⟩
              exact ⟨m', hm, j + 1, G, J.unpinned.weak (by rw [← w15, wipe_length]) (fun j v z => by rw [← w15] at z; exact (wipe_some z).1), T1.keep _ _ _ st14 fun b hb o z => (pin b hb o z).1, fun b hb => let ⟨o, z, _⟩ := T1.obj _ _ st14 b hb; (pin b hb o z).2, w'⟩
            cases b1 with
            | false =>
              simp only [Bool.false_eq_true, if_false] at q16 ⊢
              exact fin1 I16 q16
            | true =>
              simp only [if_true] at q16 ⊢
              refine thnF (qe.run _ t16 σ15 H16 _ I16 q16) fun z t17 ⟨yv, H17, I17, r17, tp, nn, L, ey, ht17, hD17, hL17, few, nx⟩ => ?_
              subst ey
              cases (show z = Value.ref tp from r17)
              exact addT (X := X.blk t3 H3 scope ce fp) I17 hD17 hL17 ht17 hu few fun L' t18 c1 c2 I18 => fin1 I18 (nx L' c1 c2)
        exact start_in inner (T1.self X.A 0 _ _ _ st11 inner)
  exact PpSet.codeAny_compStart_set all (T.self X.A 0 _ _ _ st4 all)
end
end S2
/-! Vj: sorted(set of pairs of ints), whatever their signs; sorted(list of pairs). -/
namespace S2
open PySem PySem.Spec PyProof.Rows L2
abbrev Ps := List (Addr × List Int)
/-- the pair of an address -/
def keyOf (L : Ps) (v : Value) : Int × Int := match L.find? fun p => decide (Value.ref p.1 = v) with
  | some (_, [x, y]) => (x, y)
  | _ => (0, 0)
/-- not behind it: by the first number, then by the second -/
def pLe (k l : List Int) : Prop := ∀ x y x' y', k = [x, y] → l = [x', y'] → x < x' ∨ (x = x' ∧ y ≤ y')
section
variable {P : Program} {w : World} {A : Around} {E : Value → Shared → Prop} {s : Shared} {a : Addr} {L : Ps} {es : Array (Int × Value)} {ep : Nat} {t : SetTable}
theorem keyOf_at (one : ∀ q ∈ L, ∀ r ∈ L, q.1 = r.1 → q = r) {p : Addr × List Int} (hp : p ∈ L) {x y : Int} (e : p.2 = [x, y]) : keyOf L (.ref p.1) = (x, y) := by
  unfold keyOf
  cases h : L.find? fun q => decide (Value.ref q.1 = Value.ref p.1) with
  | none => exact absurd (List.find?_eq_none.mp h p hp) (by simp)
  | some q =>
    have hq := List.mem_of_find?_eq_some h
    have e1 : Value.ref q.1 = Value.ref p.1 := by simpa using List.find?_some h
    injection e1 with e1
    have e2 := one q hq p hp e1
    rw [e2]
    obtain ⟨p1, p2⟩ := p
    simp only at e
    rw [e]
theorem out_ps (one : ∀ q ∈ L, ∀ r ∈ L, q.1 = r.1 → q = r) (nL : L.Nodup) (h2 : ∀ p ∈ L, ∃ x y, p.2 = [x, y]) {vs out : List Value} (pm : vs.Perm (L.map fun q => Value.ref q.1)) (po : out.Perm vs) (hs : SrtO.Srtd (fun v u => SrtO.lexB (keyOf L v) (keyOf L u)) out) :
    ∃ M : Ps, out = M.map (fun q => Value.ref q.1) ∧ M.Perm L ∧ M.Pairwise fun q r => pLe q.2 r.2 := by
  have back : ∀ v ∈ vs, ∃ q ∈ L, Value.ref q.1 = v := fun v hv => List.mem_map.mp (pm.mem_iff.mp hv)
  have pref : ∀ us : List Value, (∀ v ∈ us, ∃ q ∈ L, Value.ref q.1 = v) → ∃ M : Ps, us = M.map (fun q => Value.ref q.1) ∧ ∀ q ∈ M, q ∈ L := by
    intro us
    induction us with
    | nil => intro _; exact ⟨[], rfl, fun _ z => nomatch z⟩
    | cons v us ih =>
      intro hv
      obtain ⟨q, hq, e⟩ := hv v List.mem_cons_self
      obtain ⟨M, e1, h1⟩ := ih fun u hu => hv u (List.mem_cons_of_mem _ hu)
      exact ⟨q :: M, by rw [List.map_cons, e, e1], fun r hr => (List.mem_cons.mp hr).elim (fun z => z ▸ hq) (h1 r)⟩
  obtain ⟨M, eM, hM⟩ := pref out fun v hv => back v (po.mem_iff.mp hv)
  have inj : ∀ q ∈ L, ∀ r ∈ L, Value.ref q.1 = Value.ref r.1 → q = r := fun q hq r hr e => by injection e with e; exact one q hq r hr e
  have pm2 : (M.map fun q => Value.ref q.1).Perm (L.map fun q => Value.ref q.1) := by rw [← eM]; exact po.trans pm
  have nref : (L.map fun q => Value.ref q.1).Nodup := List.pairwise_map.mpr (List.Pairwise.imp_of_mem (fun {q r} hq hr hne e => hne (inj q hq r hr e)) nL)
  refine ⟨M, eM, (List.perm_ext_iff_of_nodup (nodup_of_map (pm2.nodup_iff.mpr nref)) nL).mpr fun q => ⟨hM q, fun hq => ?_⟩, ?_⟩
  · obtain ⟨r, hr, e⟩ := List.mem_map.mp (pm2.mem_iff.mpr (List.mem_map.mpr ⟨q, hq, rfl⟩))
    rw [← inj r (hM r hr) q hq e]; exact hr
  · have hs' : SrtO.Srtd (fun v u => SrtO.lexB (keyOf L v) (keyOf L u)) (M.map fun q => Value.ref q.1) := by rw [← eM]; exact hs
    have hs2 := List.pairwise_map.mp hs'
    refine List.Pairwise.imp_of_mem (fun {q r} hq hr h x y x' y' e1 e2 => ?_) hs2
    have f1 := keyOf_at one (hM q hq) e1
    have f2 := keyOf_at one (hM r hr) e2
    have h' : SrtO.lexB (keyOf L (.ref r.1)) (keyOf L (.ref q.1)) = false := h
    rw [f1, f2] at h'
    have := SrtO.lexB_no.mp h'
    dsimp only at this
    omega
theorem sorted_set (R : SetTR P w s.heap a L es ep t) (hh : A.handled = none) {Q : Value → Shared → Prop} (h2 : ∀ p ∈ L, ∃ x y, p.2 = [x, y])
    (hQ : ∀ s' p (out : Array Value) (c : Nat) (L' : Ps), (∀ b o, s.heap.get? b = some o → s'.heap.get? b = some o) → s'.gens = s.gens → s'.os = s.os → s.heap.objs.size ≤ p → s'.heap.get? p = some (seqObj "list" out c) → out.toList = L'.map (fun q => Value.ref q.1) → L'.Perm L → L'.Pairwise (fun q r => pLe q.2 r.2) → Q (.ref p) s') :
    wpAny (model P w) A (call (.builtin "sorted") [.ref a]) Q E s := by
  obtain ⟨o, ho, hex, hd⟩ := R.ob
  have hsz := R.size
  have few := R.few
  have one : ∀ q ∈ L, ∀ r ∈ L, q.1 = r.1 → q = r := fun q hq r hr e => by
    have z1 := R.tup q hq
    rw [e] at z1
    exact Prod.ext e (z1.inj (R.tup r hr))
  refine Calls.call_function_entry kind_sorted plain_sorted entry_sorted (args_sorted1 _) ?_; unfold Builtin.«sorted»
  refine wpAny_bind (m := checkCount "sorted" 1 1 _) (wpAny_pure (wpAny_bind (collect_set (A := A.in1) hh ⟨o, ho, hex.1, hd⟩ R.fits (by unfold scanBound; omega) R.tab.ris R.led fun s1 vs k1 hz g1 o1 pm => ?_)))
  have ev : es.toList.map (·.2) = L.map fun q => Value.ref q.1 := by rw [R.rows]; unfold rowsOf; rw [List.map_map] <;> rfl
  rw [ev] at pm
  have lv : vs.length < 64 := by rw [pm.length_eq, List.length_map]; exact few
  have back : ∀ v ∈ vs, ∃ q ∈ L, Value.ref q.1 = v := fun v hv => List.mem_map.mp (pm.mem_iff.mp hv)
  refine wpAny_bind (wpAny_newList ?_ (by rw [sizeLine_eq]; omega))
  have hoL : (s1.heap.push (seqObj "list" vs.toArray 0)).get? s1.heap.objs.size = some (seqObj "list" vs.toArray 0) := Heap.get?_push_size _ rfl
  have pr : ∀ v ∈ vs, Srt.IsPair (s1.heap.push (seqObj "list" vs.toArray 0)) v (keyOf L v).1 (keyOf L v).2 := fun v hv => by
    obtain ⟨q, hq, rfl⟩ := back v hv
    obtain ⟨x, y, e⟩ := h2 q hq
    rw [keyOf_at one hq e]
    have z := isT_keep (R.tup q hq) fun b u z => Heap.get?_push_of_some (seqObj "list" vs.toArray 0) (k1 b u z)
    rw [e] at z
    obtain ⟨oq, items, n, hoq, hcq, hdq, hi⟩ := z
    obtain ⟨u, hu, ei⟩ : ∃ us, items.toList = us ∧ IntsAre us [x, y] := ⟨_, rfl, ints_of_items hi⟩
    match u, ei, hu with
    | [_, _], .cons _ t1 (.cons _ t2 .nil), hu =>
      refine ⟨_, oq, t1, t2, n, rfl, hoq, hcq, ?_⟩
      rw [hdq]
      congr 1
      rw [← Array.toArray_toList (xs := items), hu]
  have hso : 2 ≤ vs.length → SrtO.SortableO P w A.in1.in1 { s1 with heap := s1.heap.push (seqObj "list" vs.toArray 0) } s1.heap.objs.size vs fun v u => SrtO.lexB (keyOf L v) (keyOf L u) := fun h => SrtO.pairs_sortableO (by omega) pr fun o e => by
    have e' : some o = some (seqObj "list" vs.toArray 0) := e.symm.trans hoL
    cases e'
    exact fun c => absurd (Value.type.inj c) (by decide)
  refine wpAny_bind (wpAny_holding (wpAny_call_entry slot_list_sort ⟨_, hoL, rfl⟩ entry_list_sort (SrtO.list_sort_ord (s := { s1 with heap := s1.heap.push (seqObj "list" vs.toArray 0) }) (SrtO.swo_lex (keyOf L)) hoL (by rw [sizeLine_eq]; omega) hso fun out hs hb => ⟨_, rfl, ?_⟩) (args_list_sort _)))
  obtain ⟨c, hc⟩ := sortedHeap_at (vs := vs) (out := out.toArray) hoL
  obtain ⟨M, eM, pL, pw⟩ := out_ps one (nodup_of_map R.nd) h2 pm hb.perm hs
  refine wpAny_pure ⟨_, rfl, hQ _ s1.heap.objs.size out.toArray c M (fun b u e => ?_) g1 o1 hz hc (by rw [List.toList_toArray]; exact eM) pL pw⟩
  have q := k1 b u e
  have lt := Heap.lt_size q
  show (sortedHeap (s1.heap.push (seqObj "list" vs.toArray 0)) s1.heap.objs.size vs out.toArray).get? b = some u
  rw [sortedHeap_old (Nat.ne_of_lt lt) (by rw [size_push']; exact Nat.lt_succ_of_lt lt)]
  exact Heap.get?_push_of_some _ q
end
section
variable {X : Cx}
/-- sorted(set of pairs) -/
def rSortS (K : PySem.W.Frag) (P : Program) (w : World) : List V → Hp → VK → Prop := fun vs H Q => ∃ (a : Addr) (L : Ps), vs = [V.ref a] ∧ H a = some (SetTO P w a L) ∧ (∀ p ∈ L, SqT K H p.1 (p.2.map V.int)) ∧ (∀ p ∈ L, ∃ x y, p.2 = [x, y]) ∧
  ∀ (M : Ps) (p : Addr), M.Perm L → (M.map (·.2)).Nodup → M.Pairwise (fun q r => pLe q.2 r.2) → H p = none → Q (.ref p) (upd H p (.lst (M.map fun q => V.ref q.1)))
theorem cr_sortS (hc : X.calm = true) : CallR X (.builtin "sorted") (rSortS X.K X.prog X.w) := by
  intro pins s σ H vs us Q I r ⟨a, L, e, ha, hk, h2, q⟩
  subst e
  have R0 : SetT0 X.prog X.w s.heap a L := (I.hok a _ ha).1
  obtain ⟨es, ep, t, R⟩ := R0.full fun p hp => I.isT (hk p hp)
  rw [Vals.ref1 r]
  refine sorted_set R (I.ok.hd hc) h2 fun s' p out c M k g o hp hg ho pm pw => ?_
  have lM : (M.map fun q => V.ref q.1).length ≤ sizeLine := by have := R.few; rw [List.length_map, pm.length_eq, sizeLine_eq]; omega
  have hn : H p = none := I.hok.fresh hp
  obtain ⟨hp', g', d', t', os'⟩ := s'
  have J : Inv X pins σ (upd H p (.lst (M.map fun q => V.ref q.1))) ⟨hp', g', d', t', os'⟩ :=
    I.call' (ch := []) o (Un.laid k hp hn) (I.hok.laid k hp ⟨lM, out.toList, c, by rw [ho]; exact vals_of_refs M, hg⟩) (by show AllBare g'; rw [show g' = s.gens from g]; exact I.bare) (fun _ z => nomatch z)
  exact ⟨.ref p, _, J, rfl, q M p pm ((pm.map (·.2)).nodup_iff.mpr R.nd) pw hn⟩
theorem pair_at {pins : List (Addr × Obj)} {σ : L2.St} {H : Hp} {s : Shared} {b : Addr} {x y : Int} (I : Inv X pins σ H s) (h : SqT X.K H b [V.int x, V.int y]) : Srt.IsPair s.heap (.ref b) x y := by
  obtain ⟨its, rv, ⟨o, ho, hc, n, hd⟩, _⟩ := I.tuple h
  obtain ⟨u1, u2, e, r1, r2⟩ := vals2 rv
  subst e
  obtain ⟨t1, rfl⟩ := r1
  obtain ⟨t2, rfl⟩ := r2
  exact ⟨b, o, t1, t2, n, rfl, ho, hc, hd⟩
/-- sorted(list of different pairs) -/
def rSortL (K : PySem.W.Frag) : List V → Hp → VK → Prop := fun vs H Q => ∃ (a : Addr) (L : Ps), vs = [V.ref a] ∧ SqL K H a (L.map fun p => V.ref p.1) ∧ (∀ p ∈ L, SqT K H p.1 (p.2.map V.int)) ∧ (∀ p ∈ L, ∃ x y, p.2 = [x, y]) ∧ (L.map (·.2)).Nodup ∧
  ∀ (M : Ps) (p : Addr), M.Perm L → M.Pairwise (fun q r => pLe q.2 r.2) → H p = none → Q (.ref p) (upd H p (.lst (M.map fun q => V.ref q.1)))
theorem cr_sortL : CallR X (.builtin "sorted") (rSortL X.K) := by
  intro pins s σ H vs us Q I r ⟨a, L, e, ha, hk, h2, nd, q⟩
  subst e
  obtain ⟨its, rv, hl, hz⟩ := I.list ha
  rw [Vals.ref1 r]
  have ei : its = L.map fun p => Value.ref p.1 := refs_of_vals rv
  have one : ∀ q ∈ L, ∀ r ∈ L, q.1 = r.1 → q = r := fun q hq r hr e => by
    have z := I.tuple_inj (hk q hq) (by rw [e]; exact hk r hr)
    exact Prod.ext e ((List.map_inj_right fun _ _ h => V.int.inj h).mp z)
  have nL : L.Nodup := nodup_of_map nd
  refine SrtO.sorted_pairsO (k := keyOf L) hl.isList (by rw [← rv.length]; exact hz) (fun v hv => ?_) fun h' d out hs hb kp hd ⟨n, hn⟩ => ?_
  · rw [ei] at hv
    obtain ⟨p, hp, rfl⟩ := List.mem_map.mp hv
    obtain ⟨x, y, e⟩ := h2 p hp
    rw [keyOf_at one hp e]
    have z := hk p hp
    rw [e] at z
    exact pair_at I z
  · obtain ⟨M, eM, pL, pw⟩ := out_ps one nL h2 (List.Perm.of_eq ei) hb.perm hs
    refine ⟨.ref d, upd H d (.lst (M.map fun q => V.ref q.1)), I.laid (t' := s.toks) kp hd ⟨?_, out, n, by rw [eM]; exact vals_of_refs M, hn⟩, rfl, q M d pL pw (I.hok.fresh hd)⟩
    rw [List.length_map] at hz ⊢
    rw [pL.length_eq]; exact hz
end
end S2
/-! Vk: sorted({.. for i in .. for j in .. if ..}) and sorted([pairs]) by data. -/
namespace Dl
open PySem PySem.Spec PyProof.Rows L2 S2
/-- a heap of any size -/
theorem heap_of : ∀ n : Nat, ∃ h : Heap, h.objs.size = n
  | 0 => ⟨{}, rfl⟩
  | n + 1 => by
    obtain ⟨h, e⟩ := heap_of n
    exact ⟨h.push { cls := .none, data := .fields #[] }, by rw [Heap.size_push, e]⟩
theorem set_ne_code {P : Program} {w : World} {a : Addr} {L : Ps} {q : Str} : SetTO P w a L ≠ LamX.CodeO a q := by
  intro e
  obtain ⟨h, eh⟩ := heap_of a
  injection e with e
  have h1 : SetT0 P w (h.push { cls := .none, data := .fields #[.none, .str q 0] }) a L := by
    have z := congrFun e (h.push { cls := .none, data := .fields #[.none, .str q 0] })
    rw [z]
    exact ⟨_, _, 0, by rw [← eh]; exact Heap.get?_push_size _ rfl, rfl, rfl⟩
  obtain ⟨es, ep, t, ⟨o, ho, _, hd⟩, _⟩ := h1.ex
  rw [← eh, Heap.get?_push_size _ rfl] at ho
  cases ho
  cases hd
section
variable {K : PySem.W.Frag} {B : Bt} {G H G1 H1 : Hp} {P : Program} {w : World}
theorem writeS_ok (o : Ok B G H) {D : Addr} {L L' : Ps} (hp : H D = some (SetTO P w D L)) (g : G D = none) (nb : D ≠ B.a) : Ok B G (upd H D (SetTO P w D L')) := by
  refine ⟨fun a u e => ?_, o.b, ?_, fun q hq => ?_, o.f⟩
  · rw [upd_ne (ne_of_none e g)]; exact o.u a u e
  · obtain ⟨c, cells, p', r, m, n, e, g', k⟩ := o.x
    exact ⟨c, cells, p', r, m, n, by rw [upd_ne nb.symm]; exact e, g', k⟩
  · obtain ⟨ps, h1, h2, h3⟩ := o.t q hq
    refine ⟨ps, by rw [upd_ne (fun e => by rw [e, hp] at h1; cases h1)]; exact h1, h2, fun pos cv hc => ?_⟩
    obtain ⟨c, e1, e2⟩ := h3 pos cv hc
    exact ⟨c, e1, by rw [upd_ne (fun e => by rw [e, hp] at e2; exact set_ne_code (Option.some.inj e2))]; exact e2⟩
theorem writeS_go {D : Addr} {x : HO} (g : Go B G1 H1 G H) (hD : H1 D = none) (nb : D ≠ B.a) : Go B G1 H1 G (upd H D x) :=
  ⟨g.s, fun a o ne ht h => by rw [upd_ne (ne_of_none h hD)]; exact g.k a o ne ht h, g.n, fun c r h => by
    obtain ⟨r', h'⟩ := g.c c r h
    exact ⟨r', by rw [upd_ne nb.symm]; exact h'⟩⟩
theorem nt_set {D : Addr} {L : Ps} : nt (SetTO P w D L) := fun _ z => by unfold SetTO at z; cases z
/-- the tuples of a set, frozen -/
def FrzL (G : Hp) (L : Ps) : Prop := ∀ q ∈ L, ∃ (ob : Obj) (x y : Int), G q.1 = some (.frz ob (.tup [V.int x, V.int y])) ∧ ob.dict = none ∧ q.2 = [x, y]
theorem FrzL.mono {L : Ps} (h : FrzL G L) (s : Same G G1) : FrzL G1 L := fun q hq => by
  obtain ⟨ob, x, y, e, r⟩ := h q hq
  exact ⟨ob, x, y, s _ _ e, r⟩
theorem FrzL.sq {L : Ps} (h : FrzL G L) (o : Ok B G H) : ∀ q ∈ L, SqT K H q.1 (q.2.map V.int) := fun q hq => by
  obtain ⟨ob, x, y, e, _, e2⟩ := h q hq
  rw [e2]
  exact SqT.ofZ (o.u _ _ e)
def prOf : List Int → Pr2
  | [x, y] => (x, y)
  | _ => (0, 0)
theorem FrzL.dds : ∀ {L : Ps}, FrzL G L → Dds K B G (L.map fun q => V.ref q.1) ((L.map fun q => prOf q.2).map pairD)
  | [], _ => .nil
  | q :: L, h => by
    obtain ⟨ob, x, y, e, d, e2⟩ := h q List.mem_cons_self
    have hp : pairD (prOf q.2) = .tup [.int x, .int y] := by rw [e2]; rfl
    rw [List.map_cons, List.map_cons, List.map_cons, hp]
    exact .cons (.tup ⟨e, d⟩ (.cons (.int x) (.cons (.int y) .nil))) (FrzL.dds fun r hr => h r (List.mem_cons_of_mem _ hr))
def pLt (p q : Pr2) : Prop := p.1 < q.1 ∨ (p.1 = q.1 ∧ p.2 < q.2)
theorem FrzL.asc {L : Ps} (h : FrzL G L) (nd : (L.map (·.2)).Nodup) (pw : L.Pairwise fun q r => pLe q.2 r.2) : (L.map fun q => prOf q.2).Pairwise pLt := by
  refine List.pairwise_map.mpr ?_
  refine List.Pairwise.imp_of_mem (fun {q r} hq hr hh => ?_) (List.Pairwise.and pw (List.pairwise_map.mp nd))
  obtain ⟨h1, h2⟩ := hh
  obtain ⟨_, x, y, _, _, e1⟩ := h q hq
  obtain ⟨_, x', y', _, _, e2⟩ := h r hr
  have := h1 x y x' y' e1 e2
  rw [e1, e2]
  show x < x' ∨ (x = x' ∧ y < y')
  rcases this with z | ⟨z1, z2⟩
  · exact .inl z
  · refine .inr ⟨z1, ?_⟩
    rcases Int.lt_or_eq_of_le z2 with z | z
    · exact z
    · exact absurd (by rw [e1, e2, z1, z]) h2
theorem FrzL.mem {L : Ps} (h : FrzL G L) {r : Pr2} : r ∈ (L.map fun q => prOf q.2) ↔ [r.1, r.2] ∈ L.map (·.2) := by
  constructor
  · intro hr
    obtain ⟨q, hq, e⟩ := List.mem_map.mp hr
    obtain ⟨_, x, y, _, _, e2⟩ := h q hq
    rw [e2] at e
    refine List.mem_map.mpr ⟨q, hq, ?_⟩
    rw [e2, ← e]
    rfl
  · intro hr
    obtain ⟨q, hq, e⟩ := List.mem_map.mp hr
    refine List.mem_map.mpr ⟨q, hq, ?_⟩
    show prOf q.2 = r
    rw [show q.2 = [r.1, r.2] from e]
    rfl
end
section
variable {K : PySem.W.Frag} {B : Bt} {P : D → Prop} {δ : List Sd} {X : Xc} {Pg : Program} {w : World}
/-- what the loop's set has: the pairs of a list of cases -/
structure SetI (K : PySem.W.Frag) (B : Bt) (Pg : Program) (w : World) (D : Addr) (G1 H1 : Hp) (S : Pr2 → Prop) (n : Nat) (G H : Hp) (L : Ps) : Prop where
  go : Go B G1 H1 G H
  gn : G D = none
  ok : Ok B G H
  st : H D = some (SetTO Pg w D L)
  frz : FrzL G L
  mem : ∀ r : Pr2, [r.1, r.2] ∈ L.map (·.2) ↔ S r
  len : L.length ≤ n
/-- the run of it: what is handed on is a new list, ever so loose -/
theorem s2_core {wi wi1 : TI} {i j : Nat} (hij : i ≠ j) {tt1 : TT} {te : TE} {its its1 : List D} {f : D → D → Option Pr2} (hlen : its.length * its1.length < 63)
    (h : WIx K B X wi δ fun xs => xs = its) (hin : ∀ d1 ∈ its, WI K B wi1 ((δ.set i (.val d1)).set j .no) fun ys => ys = its1)
    (ht : ∀ d1 ∈ its, ∀ d2 ∈ its1, WT K B tt1 ((δ.set i (.val d1)).set j (.val d2)) fun b => if b = true then WE K B te ((δ.set i (.val d1)).set j (.val d2)) fun y => ∃ p, y = pairD p ∧ f d1 d2 = some p else f d1 d2 = none)
    {G0 H0 G H : Hp} {σ : L2.St} {Q : VK} (s : Stt K B G0 H0 G H σ δ) (xx : CtX K B X σ δ G H)
    (q : ∀ (p : Addr) (G2 H2 : Hp) (vs : List V) (rs : List Pr2), Go B G H G2 H2 → Ok B G2 H2 → H2 p = none → Dds K B G2 vs (rs.map pairD) → rs.Pairwise pLt → (∀ r, r ∈ rs ↔ ∃ d1 ∈ its, ∃ d2 ∈ its1, f d1 d2 = some r) → Q (.ref p) (upd H2 p (.lst vs))) :
    tCB (rSortS K Pg w) (tCons (tS2 K Pg w wi (gName i) tYes wi1 (gName j) tt1 te [i, j] [j]) tNil) σ H Q :=
  h G0 H0 σ G H _ s xx fun J xs G1 H1 g1 o1 it e => by
    subst e
    intro D hD
    have s1 := s.on g1 o1
    have nb := o1.neB hD
    have gD1 : G1 D = none := o1.fresh hD
    refine ⟨fun k m H => m = xs.length - k ∧ k ≤ xs.length ∧ ∃ G L, SetI K B Pg w D G1 H1 (fun r => ∃ d1 ∈ xs.take k, ∃ d2 ∈ its1, f d1 d2 = some r) (k * its1.length) G H L,
      ⟨_, rfl, Nat.zero_le _, G1, [], loose_go o1 hD, gD1, loose_ok o1 hD, upd_same, (fun _ z => nomatch z), (fun r => ⟨fun z => (nomatch z), fun ⟨_, z, _⟩ => nomatch z⟩), Nat.zero_le _⟩, ?_⟩
    rintro k m H2 ⟨rfl, hk, G2, L, I2⟩
    obtain ⟨f1, f2, f3⟩ := it G2 H2 k I2.go.s I2.ok
    by_cases hlt : k < xs.length
    · refine .inr ⟨f1 hlt, fun H' => ∃ G L, SetI K B Pg w D G1 H1 (fun r => ∃ d1 ∈ xs.take (k + 1), ∃ d2 ∈ its1, f d1 d2 = some r) ((k + 1) * its1.length) G H' L, fun H' hN => ⟨xs.length - (k + 1), by omega, rfl, hlt, hN⟩, fun x H3 y => ?_⟩
      obtain ⟨d1, G3, e1, g3, o3, hd1⟩ := f2 x H3 hlt y
      have hd1m : d1 ∈ xs := List.mem_of_getElem? e1
      have go3 : Go B G1 H1 G3 H3 := I2.go.trans I2.ok g3
      have st3 : Stt K B G0 H0 G3 H3 ((wipe σ [i, j]).set i (some x)) ((δ.set i (.val d1)).set j .no) := by
        have z := (((s1.on go3 o3).wipe1 j).wipe1 i).setVal i hd1
        have ez : ((δ.set j Sd.no).set i Sd.no).set i (.val d1) = (δ.set i (.val d1)).set j .no := by rw [List.set_set, List.set_comm (l := δ) _ _ (Ne.symm hij)]
        rw [ez] at z
        exact z
      refine ⟨?_, ?_⟩
      · show ((((σ.set j none).set i none).set i (some x)).set j none).set i none = (σ.set j none).set i none
        apply List.ext_getElem?
        intro n
        simp only [List.getElem?_set, List.length_set]
        by_cases h1 : i = n <;> by_cases h2 : j = n <;> simp [h1, h2]
      dsimp only [tYes]
      rw [if_pos rfl]
      refine hin d1 hd1m G0 H0 _ G3 H3 _ st3 ctx0 fun J1 ys G4 H4 g4 o4 it1 ey => ?_
      subst ey
      have hV4 := g4.k D _ nb nt_set (g3.k D _ nb nt_set I2.st)
      have gn4 : G4 D = none := g4.n D _ nt_set (g3.k D _ nb nt_set I2.st) (g3.n D _ nt_set I2.st I2.gn)
      have go4 : Go B G1 H1 G4 H4 := go3.trans o3 g4
      refine ⟨fun l m H => m = ys.length - l ∧ l ≤ ys.length ∧ ∃ G L, Same G4 G ∧ SetI K B Pg w D G1 H1 (fun r => (∃ d1 ∈ xs.take k, ∃ d2 ∈ ys, f d1 d2 = some r) ∨ ∃ d2 ∈ ys.take l, f d1 d2 = some r) (k * ys.length + l) G H L,
        ⟨_, rfl, Nat.zero_le _, G4, L, Same.refl _, go4, gn4, o4, hV4, I2.frz.mono (g3.s.trans g4.s), (fun r => (I2.mem r).trans ⟨.inl, fun z => z.elim id fun ⟨_, z, _⟩ => nomatch z⟩), I2.len⟩, ?_⟩
      rintro l m H5 ⟨rfl, hl, G5, L5, s45, I5⟩
      obtain ⟨f4, f5, f6⟩ := it1 G5 H5 l s45 I5.ok
      by_cases hlt1 : l < ys.length
      · refine .inr ⟨f4 hlt1, fun H' => ∃ G L, Same G4 G ∧ SetI K B Pg w D G1 H1 (fun r => (∃ d1 ∈ xs.take k, ∃ d2 ∈ ys, f d1 d2 = some r) ∨ ∃ d2 ∈ ys.take (l + 1), f d1 d2 = some r) (k * ys.length + (l + 1)) G H' L, fun H' hN => ⟨ys.length - (l + 1), by omega, rfl, hlt1, hN⟩, fun z H6 yz => ?_⟩
        obtain ⟨d2, G6, e2, g6, o6, hd2⟩ := f5 z H6 hlt1 yz
        have hd2m : d2 ∈ ys := List.mem_of_getElem? e2
        have go6 : Go B G1 H1 G6 H6 := I5.go.trans I5.ok g6
        have st6 : Stt K B G0 H0 G6 H6 ((wipe ((wipe σ [i, j]).set i (some x)) [j]).set j (some z)) ((δ.set i (.val d1)).set j (.val d2)) := by
          have hd1' := ((hd1.mono g4.s).mono s45).mono g6.s
          have z := (((((s1.on go6 o6).wipe1 j).wipe1 i).setVal i hd1').wipe1 j).setVal j hd2
          have ez : (((((δ.set j Sd.no).set i Sd.no).set i (.val d1)).set j Sd.no).set j (.val d2)) = (δ.set i (.val d1)).set j (.val d2) := by
            rw [List.set_set, List.set_set, List.set_comm (l := δ) _ _ (Ne.symm hij), List.set_set]
          rw [ez] at z
          exact z
        refine ⟨?_, ?_⟩
        · show (((((σ.set j none).set i none).set i (some x)).set j none).set j (some z)).set j none = ((((σ.set j none).set i none).set i (some x)).set j none)
          rw [List.set_set, List.set_set]
        have hat6 := g6.k D _ nb nt_set I5.st
        have gn6 : G6 D = none := g6.n D _ nt_set I5.st I5.gn
        have bound : k * ys.length + l < 63 := by
          have : (k + 1) * ys.length ≤ xs.length * ys.length := Nat.mul_le_mul_right _ hlt
          rw [Nat.succ_mul] at this
          omega
        refine ht d1 hd1m d2 hd2m G0 H0 _ G6 H6 _ st6 ctx0 fun b G7 H7 g7 o7 hb => ?_
        have tk : ys.take (l + 1) = ys.take l ++ [d2] := by rw [List.take_add_one, e2]; rfl
        have hat7 := g7.k D _ nb nt_set hat6
        have gn7 : G7 D = none := g7.n D _ nt_set hat6 gn6
        have go7 : Go B G1 H1 G7 H7 := go6.trans o6 g7
        have s47 : Same G4 G7 := (s45.trans g6.s).trans g7.s
        cases b with
        | false =>
          have hb : f d1 d2 = none := hb
          rw [if_neg Bool.false_ne_true]
          refine ⟨G7, L5, s47, go7, gn7, o7, hat7, I5.frz.mono (g6.s.trans g7.s), fun r => (I5.mem r).trans ⟨fun z => z.imp id fun ⟨d, hd, e⟩ => ⟨d, by rw [tk]; exact List.mem_append_left _ hd, e⟩, fun z => z.imp id fun ⟨d, hd, e⟩ => ?_⟩, by have := I5.len; omega⟩
          rw [tk] at hd
          rcases List.mem_append.mp hd with hd | hd
          · exact ⟨d, hd, e⟩
          · rw [List.mem_singleton.mp hd, hb] at e; cases e
        | true =>
          have hb : WE K B te ((δ.set i (.val d1)).set j (.val d2)) fun y => ∃ p, y = pairD p ∧ f d1 d2 = some p := hb
          rw [if_pos rfl]
          refine hb G0 H0 _ G7 H7 _ (st6.on g7 o7) ctx0 fun y e G8 H8 g8 o8 hy ⟨p, ep, ef⟩ => ?_
          subst ep
          have hat8 := g8.k D _ nb nt_set hat7
          have gn8 : G8 D = none := g8.n D _ nt_set hat7 gn7
          have go8 : Go B G1 H1 G8 H8 := go7.trans o7 g8
          have fz8 : FrzL G8 L5 := I5.frz.mono ((g6.s.trans g7.s).trans g8.s)
          unfold pairD at hy
          cases hy with
          | tup ha tt =>
            cases tt with
            | cons t1 tt =>
              cases tt with
              | cons t2 tt =>
                cases tt
                cases t1
                cases t2
                rename_i ta ob
                refine ⟨ta, [p.1, p.2], L5, rfl, SqT.ofZ (o8.u _ _ ha.1), hat8, fz8.sq o8, by have := I5.len; omega, fun L' c1 c2 => ?_⟩
                have mem_iff : ∀ r : Pr2, [r.1, r.2] ∈ L'.map (·.2) ↔ ([r.1, r.2] = [p.1, p.2] ∨ [r.1, r.2] ∈ L5.map (·.2)) := fun r => by
                  by_cases hm : [p.1, p.2] ∈ L5.map (·.2)
                  · rw [c1 hm]
                    exact ⟨.inr, fun z => z.elim (fun e => by rw [e]; exact hm) id⟩
                  · rw [((c2 hm).map (·.2)).mem_iff, List.map_cons, List.mem_cons]
                have frz' : FrzL G8 L' := by
                  by_cases hm : [p.1, p.2] ∈ L5.map (·.2)
                  · rw [c1 hm]; exact fz8
                  · intro q hq
                    rcases List.mem_cons.mp ((c2 hm).mem_iff.mp hq) with z | z
                    · rw [z]; exact ⟨ob, p.1, p.2, ha.1, ha.2, rfl⟩
                    · exact fz8 q z
                have len' : L'.length ≤ k * ys.length + (l + 1) := by
                  have := I5.len
                  by_cases hm : [p.1, p.2] ∈ L5.map (·.2)
                  · rw [c1 hm]; omega
                  · rw [(c2 hm).length_eq, List.length_cons]; omega
                refine ⟨G8, L', s47.trans g8.s, writeS_go go8 hD nb, gn8, writeS_ok o8 hat8 gn8 nb, upd_same, frz', fun r => (mem_iff r).trans ?_, len'⟩
                have hp : [r.1, r.2] = [p.1, p.2] ↔ r = p := ⟨fun z => by
                  injection z with z1 z2
                  injection z2 with z2 _
                  exact Prod.ext z1 z2, fun z => by rw [z]⟩
                rw [hp, I5.mem r]
                constructor
                · rintro (z | z | ⟨d, hd, e⟩)
                  · exact .inr ⟨d2, by rw [tk]; exact List.mem_append_right _ (List.mem_singleton.mpr rfl), by rw [z]; exact ef⟩
                  · exact .inl z
                  · exact .inr ⟨d, by rw [tk]; exact List.mem_append_left _ hd, e⟩
                · rintro (z | ⟨d, hd, e⟩)
                  · exact .inr (.inl z)
                  · rw [tk] at hd
                    rcases List.mem_append.mp hd with hd | hd
                    · exact .inr (.inr ⟨d, hd, e⟩)
                    · rw [List.mem_singleton.mp hd, ef] at e
                      exact .inl (Option.some.inj e).symm
      · have el : l = ys.length := by omega
        subst el
        refine .inl ⟨f6 rfl, G5, L5, I5.go, I5.gn, I5.ok, I5.st, I5.frz, fun r => (I5.mem r).trans ?_, by have := I5.len; rw [Nat.succ_mul]; exact this⟩
        have tk : xs.take (k + 1) = xs.take k ++ [d1] := by rw [List.take_add_one, e1]; rfl
        rw [List.take_length]
        constructor
        · rintro (⟨d, hd, z⟩ | z)
          · exact ⟨d, by rw [tk]; exact List.mem_append_left _ hd, z⟩
          · exact ⟨d1, by rw [tk]; exact List.mem_append_right _ (List.mem_singleton.mpr rfl), z⟩
        · rintro ⟨d, hd, z⟩
          rw [tk] at hd
          rcases List.mem_append.mp hd with hd | hd
          · exact .inl ⟨d, hd, z⟩
          · rw [List.mem_singleton.mp hd] at z; exact .inr z
    · have ek : k = xs.length := by omega
      subst ek
      refine .inl ⟨f3 rfl, ?_⟩
      refine ⟨D, L, rfl, I2.st, I2.frz.sq I2.ok, fun p hp => ?_, fun M p pm nd pw hp => ?_⟩
      · obtain ⟨_, x, y, _, _, e⟩ := I2.frz p hp
        exact ⟨x, y, e⟩
      · have fM : FrzL G2 M := fun r hr => I2.frz r (pm.mem_iff.mp hr)
        refine q p G2 H2 _ _ (g1.trans o1 I2.go) I2.ok hp (fM.dds (B := B) (K := K)) (fM.asc nd pw) fun r => ?_
        rw [fM.mem, (pm.map (·.2)).mem_iff, I2.mem r, List.take_length]
theorem we_sortS2 {wi wi1 : TI} {i j : Nat} (hij : i ≠ j) {tt1 : TT} {te : TE} {its its1 : List D} {f : D → D → Option Pr2} (hlen : its.length * its1.length < 63)
    (h : WIx K B X wi δ fun xs => xs = its) (hin : ∀ d1 ∈ its, WI K B wi1 ((δ.set i (.val d1)).set j .no) fun ys => ys = its1)
    (ht : ∀ d1 ∈ its, ∀ d2 ∈ its1, WT K B tt1 ((δ.set i (.val d1)).set j (.val d2)) fun b => if b = true then WE K B te ((δ.set i (.val d1)).set j (.val d2)) fun y => ∃ p, y = pairD p ∧ f d1 d2 = some p else f d1 d2 = none)
    (fin : ∀ rs : List Pr2, rs.Pairwise pLt → (∀ r, r ∈ rs ↔ ∃ d1 ∈ its, ∃ d2 ∈ its1, f d1 d2 = some r) → P (.lst (rs.map pairD))) :
    WEx K B X (tCB (rSortS K Pg w) (tCons (tS2 K Pg w wi (gName i) tYes wi1 (gName j) tt1 te [i, j] [j]) tNil)) δ P := fun G0 H0 σ G H Q s xx q =>
  s2_core hij hlen h hin ht s xx fun p G2 H2 vs rs g o hp hd pw m => q (.ref p) _ (upd G2 p (.lst vs)) _ (g.trans o (new_go o hp)) (new_ok o nt_lst hp) (.lst upd_same (hd.mono (same_upd (o.fresh hp)))) (fin rs pw m)
/-- return sorted({..}): a new list of the caller's own -/
theorem ws_retS2 {O : Out} {wi wi1 : TI} {i j : Nat} (hij : i ≠ j) {tt1 : TT} {te : TE} {its its1 : List D} {f : D → D → Option Pr2} (hlen : its.length * its1.length < 63)
    (h : WIx K B O.x wi δ fun xs => xs = its) (hin : ∀ d1 ∈ its, WI K B wi1 ((δ.set i (.val d1)).set j .no) fun ys => ys = its1)
    (ht : ∀ d1 ∈ its, ∀ d2 ∈ its1, WT K B tt1 ((δ.set i (.val d1)).set j (.val d2)) fun b => if b = true then WE K B te ((δ.set i (.val d1)).set j (.val d2)) fun y => ∃ p, y = pairD p ∧ f d1 d2 = some p else f d1 d2 = none)
    (fin : ∀ rs : List Pr2, rs.Pairwise pLt → (∀ r, r ∈ rs ↔ ∃ d1 ∈ its, ∃ d2 ∈ its1, f d1 d2 = some r) → O.ro (rs.map pairD)) :
    WS K B (tRet (tCB (rSortS K Pg w) (tCons (tS2 K Pg w wi (gName i) tYes wi1 (gName j) tt1 te [i, j] [j]) tNil))) δ O := fun G0 H0 σ G H E s xx _ r _ _ =>
  s2_core hij hlen h hin ht s (xx.ct s) fun p G2 H2 vs rs g o hp hd pw m => by
    have s1 := s.on g o
    have h0 : ∀ u, nt u → H0 p ≠ some u := fun u ht q => by
      by_cases e : p = B.a
      · exact absurd hp (e ▸ o.hb)
      · rw [s1.go.k p u e ht q] at hp; cases hp
    have s2 := s1.on (loose_go o (x := .lst vs) hp) (loose_ok o hp)
    exact r.2 p vs _ G2 _ s2.go s2.ok (o.neB hp) h0 (o.fresh hp) upd_same hd (fin rs pw m)
end
end Dl
namespace Dl
open PySem PySem.Spec PyProof.Rows L2 S2
section
variable {K : PySem.W.Frag} {B : Bt} {Q : D → Prop}
theorem frzL_of {G : Hp} : ∀ {vs : List V} {ps : List Pr2}, Dds K B G vs (ps.map pairD) → ∃ L : Ps, L.map (fun q => V.ref q.1) = vs ∧ L.map (·.2) = ps.map (fun p => [p.1, p.2]) ∧ FrzL G L
  | _, [], .nil => ⟨[], rfl, rfl, fun _ z => nomatch z⟩
  | _, p :: ps, .cons h t => by
    obtain ⟨L, e1, e2, e3⟩ := frzL_of t
    unfold pairD at h
    cases h with
    | tup ha tt =>
      cases tt with
      | cons t1 tt =>
        cases tt with
        | cons t2 tt =>
          cases tt
          cases t1
          cases t2
          rename_i ta ob
          refine ⟨(ta, [p.1, p.2]) :: L, by rw [List.map_cons, e1], by rw [List.map_cons, e2, List.map_cons], fun q hq => ?_⟩
          rcases List.mem_cons.mp hq with z | z
          · rw [z]; exact ⟨ob, p.1, p.2, ha.1, ha.2, rfl⟩
          · exact e3 q z
theorem list2_inj {p q : Pr2} (h : ([p.1, p.2] : List Int) = [q.1, q.2]) : p = q := by
  injection h with h1 h2
  injection h2 with h2 _
  exact Prod.ext h1 h2
/-- sorted([pairs]), all different -/
theorem rc_sortP {ps : List Pr2} (nd : ps.Nodup) (h : ∀ rs : List Pr2, rs.Perm ps → rs.Pairwise pLt → Q (.lst (rs.map pairD))) : RC K B (rSortL K) [.lst (ps.map pairD)] Q := fun G H vs R o hs q => by
  cases hs with
  | cons h1 t1 =>
    cases t1
    cases h1 with
    | lst hg t =>
      obtain ⟨L, e1, e2, e3⟩ := frzL_of t
      have nd2 : (L.map (·.2)).Nodup := by
        rw [e2]
        exact List.pairwise_map.mpr (nd.imp fun hne e => hne (list2_inj e))
      refine ⟨_, L, rfl, by rw [e1]; exact SqL.of (o.u _ _ hg), e3.sq o, fun p hp => ?_, nd2, fun M p pm pw hp => ?_⟩
      · obtain ⟨_, x, y, _, _, e⟩ := e3 p hp
        exact ⟨x, y, e⟩
      · have fM : FrzL G M := fun r hr => e3 r (pm.mem_iff.mp hr)
        have ndM : (M.map (·.2)).Nodup := (pm.map (·.2)).nodup_iff.mpr nd2
        refine q.new o nt_lst hp (.lst upd_same ((fM.dds (B := B) (K := K)).mono (same_upd (o.fresh hp)))) (h _ ?_ (fM.asc ndM pw))
        have eL : L.map (fun q => prOf q.2) = ps := by
          have z : (L.map (·.2)).map prOf = (ps.map fun p => [p.1, p.2]).map prOf := by rw [e2]
          rw [List.map_map, List.map_map] at z
          have z2 : ps.map (prOf ∘ fun p : Pr2 => [p.1, p.2]) = ps := by
            conv => rhs; rw [← List.map_id ps]
            rfl
          rw [z2] at z
          exact z
        have := pm.map fun q => prOf q.2
        rw [eL] at this
        exact this
end
end Dl
/-! Vl: for a, b in xs; max and min of whole numbers; pairs compared. -/
namespace Dl
open PySem PySem.Spec PyProof.Rows L2 S2
section
variable {K : PySem.W.Frag} {B : Bt} {δ : List Sd} {O : Out} {Q : D → Prop}
theorem ws_forP {wi : TI} {i j : Nat} {t : TS} (h : WIx K B O.x wi δ fun its => ∃ I : Nat → List Sd → Prop, I 0 δ ∧ (∀ k d δ1, its[k]? = some d → I k δ1 → ∃ d1 d2, d = .tup [d1, d2] ∧ WS K B t ((δ1.set i (.val d1)).set j (.val d2)) { nx := I (k + 1), rt := O.rt, bk := O.nx, ct := I (k + 1), x := O.x, ro := O.ro }) ∧ ∀ δ1, I its.length δ1 → O.nx δ1) : WS K B (tFor wi (gTup K 2 (gCons (gName i) (gCons (gName j) gNil))) t) δ O := fun G0 H0 σ G H E s xx n r b c =>
  h G0 H0 σ G H _ s (xx.ct s) fun J its G1 H1 g1 o1 it ⟨I, i0, turn, last⟩ => by
    refine ⟨fun k m σ H => m = its.length - k ∧ k ≤ its.length ∧ ∃ G δ1, Stt K B G0 H0 G H σ δ1 ∧ Same G1 G ∧ I k δ1, ⟨_, rfl, Nat.zero_le _, G1, δ, s.on g1 o1, Same.refl _, i0⟩, ?_⟩
    rintro k m σ2 H2 ⟨rfl, hk, G2, δ2, s2, sm, ik⟩
    obtain ⟨f1, f2, f3⟩ := it G2 H2 k sm s2.ok
    by_cases hlt : k < its.length
    · refine .inr ⟨f1 hlt, fun σ' H' => ∃ G δ1, Stt K B G0 H0 G H' σ' δ1 ∧ Same G1 G ∧ I (k + 1) δ1, fun σ' H' hN => ⟨its.length - (k + 1), by omega, rfl, hlt, hN⟩, fun x H' y => ?_⟩
      obtain ⟨d, G3, e1, g3, o3, hd⟩ := f2 x H' hlt y
      obtain ⟨d1, d2, ed, tn⟩ := turn k d δ2 e1 ik
      subst ed
      cases hd with
      | tup hg ht =>
      cases ht with
      | cons hd1 ht =>
      cases ht with
      | cons hd2 ht =>
      cases ht
      have s3 := ((s2.on g3 o3).setVal i hd1).setVal j hd2
      have sm3 := sm.trans g3.s
      refine ⟨_, _, rfl, SqT.ofZ (o3.u _ _ hg.1), rfl, _, _, rfl, _, _, rfl, rfl, ?_⟩
      refine tn G0 H0 _ G3 H' _ s3 (xx.on (g1.s.trans sm3)) (fun σ4 δ4 G4 H4 m4 s4 p4 => ⟨G4, δ4, s4, sm3.trans m4, p4⟩) r (fun σ4 δ4 G4 H4 m4 s4 p4 => n _ _ _ _ ((g1.s.trans sm3).trans m4) s4 p4) (fun σ4 δ4 G4 H4 m4 s4 p4 => ⟨G4, δ4, s4, sm3.trans m4, p4⟩)
    · have ek : k = its.length := by omega
      subst ek
      exact .inl ⟨f3 rfl, n _ _ _ _ (g1.s.trans sm) s2 (last δ2 ik)⟩
/-- max(xs), min(xs) -/
theorem rc_max {ns : List Int} (h0 : 0 < ns.length) (h : ∀ m, m ∈ ns → (∀ y ∈ ns, y ≤ m) → Q (.int m)) : RC K B (rMax K) [.lst (ns.map D.int)] Q := fun G H vs R o hs q => by
  cases hs with
  | cons h1 t1 =>
    cases t1
    cases h1 with
    | lst hg t => exact ⟨_, ns, rfl, by rw [← Dds.ints t]; exact SqL.of (o.u _ _ hg), h0, fun m hm hle => q.nil o (.int _) (h m hm hle)⟩
theorem rc_min {ns : List Int} (h0 : 0 < ns.length) (h : ∀ m, m ∈ ns → (∀ y ∈ ns, m ≤ y) → Q (.int m)) : RC K B (rMin K) [.lst (ns.map D.int)] Q := fun G H vs R o hs q => by
  cases hs with
  | cons h1 t1 =>
    cases t1
    cases h1 with
    | lst hg t => exact ⟨_, ns, rfl, by rw [← Dds.ints t]; exact SqL.of (o.u _ _ hg), h0, fun m hm hle => q.nil o (.int _) (h m hm hle)⟩
theorem sh_pairP (p : Pr2) : SeqAt.shaped (pairP p) = true := by
  unfold pairP SeqAt.shaped
  simp [PyData.canLay0, PyData.canLayAll0, PyData.depth, PyData.depthAll]
theorem sh_pairPs (ps : List Pr2) : SeqAt.shaped (.list (ps.map pairP)) = true := by
  unfold SeqAt.shaped
  rw [Bool.and_eq_true, decide_eq_true_eq]
  refine ⟨by rw [PyData.canLay0]; exact lay_pairPs ps, ?_⟩
  rw [PyData.depth]
  have := dep_pairPs ps
  omega
theorem dp_prs {G H : Hp} (o : Ok B G H) {ps : List Pr2} {x : V} (hx : Dd K B G x (.lst (ps.map pairD))) : Dp K H x (.list (ps.map pairP)) := by
  generalize e : D.lst (ps.map pairD) = d at hx
  cases hx with
  | lst hg t => cases e; exact .lst (SqL.of (o.u _ _ hg)) (dpa_pr o ps t)
  | _ => cases e
/-- p not in ps, of pairs -/
theorem ro_niP {p : Pr2} {ps : List Pr2} (h : Q (.bl (!decide (p ∈ ps)))) : RO K B (rNotInD K) (pairD p) (.lst (ps.map pairD)) Q := fun G H x y _ o hx hy q => by
  refine ⟨pairP p, ps.map pairP, dp_pr o hx, dp_prs o hy, sh_pairP p, sh_pairPs ps, ?_⟩
  have e : ((ps.map pairP).any fun z => PyData.eqv z (pairP p)) = decide (p ∈ ps) := by
    rw [Bool.eq_iff_iff, List.any_map, List.any_eq_true, decide_eq_true_eq]
    constructor
    · rintro ⟨z, hz, e⟩
      have e' : PyData.eqv (pairP z) (pairP p) = true := e
      rw [eqv_pairP] at e'
      rw [← of_decide_eq_true e']; exact hz
    · intro hz
      exact ⟨p, hz, by show PyData.eqv (pairP p) (pairP p) = true; rw [eqv_pairP]; exact decide_eq_true rfl⟩
  rw [e]
  exact q.nil o (.bl _) h
theorem ro_eqPr {p r : Pr2} (h : Q (.bl (decide (p = r)))) : RO K B (rEqD K) (pairD p) (pairD r) Q := fun G H x y _ o hx hy q => by
  refine ⟨pairP p, pairP r, dp_pr o hx, dp_pr o hy, sh_pairP _, sh_pairP _, ?_⟩
  rw [eqv_pairP]
  exact q.nil o (.bl _) h
theorem ro_nePr {p r : Pr2} (h : Q (.bl (!decide (p = r)))) : RO K B (rNeD K) (pairD p) (pairD r) Q := fun G H x y _ o hx hy q => by
  refine ⟨pairP p, pairP r, dp_pr o hx, dp_pr o hy, sh_pairP _, sh_pairP _, ?_⟩
  rw [eqv_pairP]
  exact q.nil o (.bl _) h
def unD : D → Pr2
  | .tup [.int x, .int y] => (x, y)
  | _ => (0, 0)
theorem unD_pair (p : Pr2) : unD (pairD p) = p := rfl
theorem mem_pairs {ps : List Pr2} {d : D} (h : d ∈ ps.map pairD) : ∃ p ∈ ps, d = pairD p := by
  obtain ⟨p, hp, e⟩ := List.mem_map.mp h
  exact ⟨p, hp, e.symm⟩
variable {X : Xc} {P : D → Prop}
theorem WIx.mono {wi : TI} {P P' : List D → Prop} (h : WIx K B X wi δ P) (m : ∀ its, P its → P' its) : WIx K B X wi δ P' := fun G0 H0 σ G H R s xx q => h G0 H0 σ G H R s xx fun J its G1 H1 g o it p => q J its G1 H1 g o it (m its p)
/-- [e for p in pairs] -/
theorem we_lcQ {wi : TI} {i : Nat} {te : TE} {ps : List Pr2} (f : Pr2 → D) (hl : ps.length ≤ 1000) (h : WIx K B X wi δ fun its => its = ps.map pairD) (hw : ∀ x ∈ ps, WE K B te (δ.set i (.val (pairD x))) fun y => y = f x) (hp : P (.lst (ps.map f))) : WEx K B X (tLc wi (gName i) tYes te [i]) δ P :=
  we_lcmap (fun d => f (unD d)) (h.mono fun its e => by
    subst e
    refine ⟨by rw [List.length_map]; exact hl, fun d hd => ?_, ?_⟩
    · obtain ⟨p, hm, rfl⟩ := mem_pairs hd
      exact hw p hm
    · rw [List.map_map]
      exact hp)
/-- [e for p, q in pairs of pairs] -/
theorem we_lcPQ {wi : TI} {i j : Nat} (hij : i ≠ j) {te : TE} {es : List (Pr2 × Pr2)} (f : Pr2 × Pr2 → D) (hl : es.length ≤ 1000) (h : WIx K B X wi δ fun its => its = es.map fun e => D.tup [pairD e.1, pairD e.2]) (hw : ∀ x ∈ es, WE K B te ((δ.set i (.val (pairD x.1))).set j (.val (pairD x.2))) fun y => y = f x) (hp : P (.lst (es.map f))) : WEx K B X (tLc wi (gTup K 2 (gCons (gName i) (gCons (gName j) gNil))) tYes te [i, j]) δ P :=
  we_lcP hij (h.mono fun its e => by
    subst e
    refine ⟨by rw [List.length_map]; exact hl, fun n acc => acc = (es.take n).map f, rfl, fun n d acc hd hacc => ?_, fun acc hacc => ?_⟩
    · rw [List.getElem?_map] at hd
      obtain ⟨x, hx, rfl⟩ : ∃ x, es[n]? = some x ∧ D.tup [pairD x.1, pairD x.2] = d := by
        cases e : es[n]? with
        | none => rw [e] at hd; cases hd
        | some q => rw [e] at hd; exact ⟨q, rfl, Option.some.inj hd⟩
      refine ⟨_, _, rfl, wt_yes ?_⟩
      rw [if_pos rfl]
      refine (hw x (List.mem_of_getElem? hx)).mono fun y ey => ?_
      show acc ++ [y] = (es.take (n + 1)).map f
      rw [show acc = (es.take n).map f from hacc, ey, List.take_add_one, hx, List.map_append]
      rfl
    · have hacc' : acc = (es.take (es.map fun e => D.tup [pairD e.1, pairD e.2]).length).map f := hacc
      rw [List.length_map, List.take_length] at hacc'
      rw [hacc']
      exact hp)
/-- sorted(xs), xs a list of the def's own -/
theorem we_ownSort {i : Nat} {ps : List Pr2} (h : δ[i]? = some (.own (ps.map pairD))) (nd : ps.Nodup) (p : ∀ rs : List Pr2, rs.Perm ps → rs.Pairwise pLt → P (.lst (rs.map pairD))) : WEx K B X (tCB (rSortL K) (tCons (tVar i) tNil)) δ P := fun G0 H0 σ G H Q s xx q => by
  obtain ⟨a, vs, e1, nb, _, _, e2, e3⟩ := s.own i _ h
  refine ⟨_, e1, ?_⟩
  obtain ⟨L, f1, f2, f3⟩ := frzL_of e3
  have nd2 : (L.map (·.2)).Nodup := by
    rw [f2]
    exact List.pairwise_map.mpr (nd.imp fun hne e => hne (list2_inj e))
  refine ⟨_, L, rfl, by rw [f1]; exact SqL.of e2, f3.sq s.ok, fun p hp => ?_, nd2, fun M p' pm pw hp => ?_⟩
  · obtain ⟨_, x, y, _, _, e⟩ := f3 p hp
    exact ⟨x, y, e⟩
  · have fM : FrzL G M := fun r hr => f3 r (pm.mem_iff.mp hr)
    have ndM : (M.map (·.2)).Nodup := (pm.map (·.2)).nodup_iff.mpr nd2
    refine q.new s.ok nt_lst hp (.lst upd_same ((fM.dds (B := B) (K := K)).mono (same_upd (s.ok.fresh hp)))) (p _ ?_ (fM.asc ndM pw))
    have eL : L.map (fun q => prOf q.2) = ps := by
      have z : (L.map (·.2)).map prOf = (ps.map fun p => [p.1, p.2]).map prOf := by rw [f2]
      rw [List.map_map, List.map_map] at z
      have z2 : ps.map (prOf ∘ fun p : Pr2 => [p.1, p.2]) = ps := by
        conv => rhs; rw [← List.map_id ps]
        rfl
      rw [z2] at z
      exact z
    have := pm.map fun q => prOf q.2
    rw [eL] at this
    exact this
end
end Dl
/-! Vm: [e for i in xs for j in ys] by a function; max and min of two. -/
namespace Dl
open PySem PySem.Spec PyProof.Rows L2
section
variable {K : PySem.W.Frag} {B : Bt} {P : D → Prop} {δ : List Sd} {X : Xc}
/-- what the loop's list holds -/
structure LcI (K : PySem.W.Frag) (B : Bt) (D0 : Addr) (G1 H1 : Hp) (acc : List D) (G H : Hp) (vs : List V) : Prop where
  go : Go B G1 H1 G H
  gn : G D0 = none
  ok : Ok B G H
  st : H D0 = some (.lst vs)
  dd : Dds K B G vs acc
theorem we_lc2 {wi wi1 : TI} {i j : Nat} (hij : i ≠ j) {te : TE} {its its1 : List D} (f : D → D → D) (hlen : its.length * its1.length ≤ 1000)
    (h : WIx K B X wi δ fun xs => xs = its) (hin : ∀ d1 ∈ its, WI K B wi1 ((δ.set i (.val d1)).set j .no) fun ys => ys = its1)
    (hw : ∀ d1 ∈ its, ∀ d2 ∈ its1, WE K B te ((δ.set i (.val d1)).set j (.val d2)) fun y => y = f d1 d2)
    (fin : P (.lst (its.flatMap fun d1 => its1.map (f d1)))) :
    WEx K B X (tLc2 wi (gName i) tYes wi1 (gName j) tYes te [i, j] [j]) δ P := fun G0 H0 σ G H Q s xx q =>
  h G0 H0 σ G H _ s xx fun J xs G1 H1 g1 o1 it e => by
    subst e
    intro A hA
    have s1 := s.on g1 o1
    have q1 := q.on g1 o1
    have nb := o1.neB hA
    have gA1 : G1 A = none := o1.fresh hA
    have nn : ∀ (a : Addr), H1 a ≠ none → a ≠ A := fun a h e => h (e ▸ hA)
    refine ⟨fun k m H => m = xs.length - k ∧ k ≤ xs.length ∧ ∃ G vs acc, LcI K B A G1 H1 acc G H vs ∧ acc = (xs.take k).flatMap (fun d1 => its1.map (f d1)) ∧ acc.length ≤ k * its1.length,
      ⟨_, rfl, Nat.zero_le _, G1, [], [], ⟨loose_go o1 hA, gA1, loose_ok o1 hA, upd_same, .nil⟩, rfl, Nat.zero_le _⟩, ?_⟩
    rintro k m H2 ⟨rfl, hk, G2, vs, acc, I2, hacc, hal⟩
    obtain ⟨f1, f2, f3⟩ := it G2 H2 k I2.go.s I2.ok
    by_cases hlt : k < xs.length
    · refine .inr ⟨f1 hlt, fun H' => ∃ G vs acc, LcI K B A G1 H1 acc G H' vs ∧ acc = (xs.take (k + 1)).flatMap (fun d1 => its1.map (f d1)) ∧ acc.length ≤ (k + 1) * its1.length, fun H' hN => ⟨xs.length - (k + 1), by omega, rfl, hlt, hN⟩, fun x H3 y => ?_⟩
      obtain ⟨d1, G3, e1, g3, o3, hd1⟩ := f2 x H3 hlt y
      have hd1m : d1 ∈ xs := List.mem_of_getElem? e1
      have go3 : Go B G1 H1 G3 H3 := I2.go.trans I2.ok g3
      have st3 : Stt K B G0 H0 G3 H3 ((wipe σ [i, j]).set i (some x)) ((δ.set i (.val d1)).set j .no) := by
        have z := (((s1.on go3 o3).wipe1 j).wipe1 i).setVal i hd1
        have ez : ((δ.set j Sd.no).set i Sd.no).set i (.val d1) = (δ.set i (.val d1)).set j .no := by rw [List.set_set, List.set_comm (l := δ) _ _ (Ne.symm hij)]
        rw [ez] at z
        exact z
      refine ⟨?_, ?_⟩
      · show ((((σ.set j none).set i none).set i (some x)).set j none).set i none = (σ.set j none).set i none
        apply List.ext_getElem?
        intro n
        simp only [List.getElem?_set, List.length_set]
        by_cases h1 : i = n <;> by_cases h2 : j = n <;> simp [h1, h2]
      dsimp only [tYes]
      rw [if_pos rfl]
      refine hin d1 hd1m G0 H0 _ G3 H3 _ st3 ctx0 fun J1 ys G4 H4 g4 o4 it1 ey => ?_
      subst ey
      have hV4 := g4.k A _ nb nt_lst (g3.k A _ nb nt_lst I2.st)
      have gn4 : G4 A = none := g4.n A _ nt_lst (g3.k A _ nb nt_lst I2.st) (g3.n A _ nt_lst I2.st I2.gn)
      have go4 : Go B G1 H1 G4 H4 := go3.trans o3 g4
      refine ⟨fun l m H => m = ys.length - l ∧ l ≤ ys.length ∧ ∃ G vs acc, Same G4 G ∧ LcI K B A G1 H1 acc G H vs ∧ acc = (xs.take k).flatMap (fun d1 => ys.map (f d1)) ++ (ys.take l).map (f d1) ∧ acc.length ≤ k * ys.length + l,
        ⟨_, rfl, Nat.zero_le _, G4, vs, acc, Same.refl _, ⟨go4, gn4, o4, hV4, (I2.dd.mono g3.s).mono g4.s⟩, by rw [hacc]; simp, hal⟩, ?_⟩
      rintro l m H5 ⟨rfl, hl, G5, vs5, acc5, s45, I5, ha5, hl5⟩
      obtain ⟨f4, f5, f6⟩ := it1 G5 H5 l s45 I5.ok
      by_cases hlt1 : l < ys.length
      · refine .inr ⟨f4 hlt1, fun H' => ∃ G vs acc, Same G4 G ∧ LcI K B A G1 H1 acc G H' vs ∧ acc = (xs.take k).flatMap (fun d1 => ys.map (f d1)) ++ (ys.take (l + 1)).map (f d1) ∧ acc.length ≤ k * ys.length + (l + 1), fun H' hN => ⟨ys.length - (l + 1), by omega, rfl, hlt1, hN⟩, fun z H6 yz => ?_⟩
        obtain ⟨d2, G6, e2, g6, o6, hd2⟩ := f5 z H6 hlt1 yz
        have hd2m : d2 ∈ ys := List.mem_of_getElem? e2
        have go6 : Go B G1 H1 G6 H6 := I5.go.trans I5.ok g6
        have st6 : Stt K B G0 H0 G6 H6 ((wipe ((wipe σ [i, j]).set i (some x)) [j]).set j (some z)) ((δ.set i (.val d1)).set j (.val d2)) := by
          have hd1' := ((hd1.mono g4.s).mono s45).mono g6.s
          have z := (((((s1.on go6 o6).wipe1 j).wipe1 i).setVal i hd1').wipe1 j).setVal j hd2
          have ez : (((((δ.set j Sd.no).set i Sd.no).set i (.val d1)).set j Sd.no).set j (.val d2)) = (δ.set i (.val d1)).set j (.val d2) := by
            rw [List.set_set, List.set_set, List.set_comm (l := δ) _ _ (Ne.symm hij), List.set_set]
          rw [ez] at z
          exact z
        refine ⟨?_, ?_⟩
        · show (((((σ.set j none).set i none).set i (some x)).set j none).set j (some z)).set j none = ((((σ.set j none).set i none).set i (some x)).set j none)
          rw [List.set_set, List.set_set]
        have hat6 := g6.k A _ nb nt_lst I5.st
        have gn6 : G6 A = none := g6.n A _ nt_lst I5.st I5.gn
        have bound : k * ys.length + l < 1000 := by
          have : (k + 1) * ys.length ≤ xs.length * ys.length := Nat.mul_le_mul_right _ hlt
          rw [Nat.succ_mul] at this
          omega
        dsimp only [tYes]
        rw [if_pos rfl]
        refine hw d1 hd1m d2 hd2m G0 H0 _ G6 H6 _ st6 ctx0 fun y e G7 H7 g7 o7 hy ey => ?_
        subst ey
        have hat7 := g7.k A _ nb nt_lst hat6
        have gn7 : G7 A = none := g7.n A _ nt_lst hat6 gn6
        have go7 : Go B G1 H1 G7 H7 := go6.trans o6 g7
        have hD7 : Dds K B G7 vs5 acc5 := (I5.dd.mono g6.s).mono g7.s
        refine ⟨vs5, hat7, Nat.lt_of_le_of_lt (by rw [hD7.length]; omega : vs5.length ≤ 1000) (by decide), G7, vs5 ++ [y], acc5 ++ [f d1 d2], (s45.trans g6.s).trans g7.s, ⟨?_, gn7, write_ok o7 hat7 gn7 nb, upd_same, hD7.append (.cons hy .nil)⟩, ?_, by rw [List.length_append, List.length_singleton]; omega⟩
        · refine ⟨go7.s, fun a o nb ht h => ?_, go7.n, fun c r h => ?_⟩
          · rw [upd_ne (nn a (by rw [h]; exact fun z => nomatch z))]; exact go7.k a o nb ht h
          · obtain ⟨r', h'⟩ := go7.c c r h
            exact ⟨r', by rw [upd_ne nb.symm]; exact h'⟩
        · rw [ha5, List.take_add_one, e2, List.map_append, List.append_assoc]
          rfl
      · have el : l = ys.length := by omega
        subst el
        refine .inl ⟨f6 rfl, G5, vs5, acc5, I5, ?_, by rw [Nat.succ_mul]; exact hl5⟩
        rw [ha5, List.take_length, List.take_add_one, e1, List.flatMap_append]
        show _ = _ ++ (ys.map (f d1) ++ [])
        rw [List.append_nil]
    · have ek : k = xs.length := by omega
      subst ek
      rw [List.take_length] at hacc
      subst hacc
      refine .inl ⟨f3 rfl, q1 (.ref A) (.lst _) (upd G2 A (.lst vs)) H2 ⟨I2.go.s.trans (same_upd I2.gn), I2.go.k, fun a o ht h g => ?_, I2.go.c⟩ (freeze_ok I2.ok nt_lst nb I2.gn I2.st) (.lst upd_same (I2.dd.mono (same_upd I2.gn))) fin⟩
      rw [upd_ne (nn a (by rw [h]; exact fun z => nomatch z))]
      exact I2.go.n a o ht h g
theorem rc_max2 {i j : Int} (p : P (.int (if j > i then j else i))) : RC K B (fun xs H Q => ∃ i j, xs = [.int i, .int j] ∧ Q (.int (if j > i then j else i)) H) [.int i, .int j] P := fun _ _ _ _ o hs q => by
  cases hs with
  | cons h1 t =>
    cases t with
    | cons h2 t =>
      cases t
      cases h1
      cases h2
      exact ⟨i, j, rfl, q.nil o (.int _) p⟩
theorem rc_min2 {i j : Int} (p : P (.int (if j < i then j else i))) : RC K B (fun xs H Q => ∃ i j, xs = [.int i, .int j] ∧ Q (.int (if j < i then j else i)) H) [.int i, .int j] P := fun _ _ _ _ o hs q => by
  cases hs with
  | cons h1 t =>
    cases t with
    | cons h2 t =>
      cases t
      cases h1
      cases h2
      exact ⟨i, j, rfl, q.nil o (.int _) p⟩
end
end Dl
namespace K04
open PySem PySem.Spec PyProof.Rows L2 Dl S2
/-! #### Xa -/
def topS (i : Nat) : Stmt := PySem.Challenge.pw_stucklots_k04_whole_parts_apart_or_over.main.body.getD i (.Pass ⟨0, 0, 0, 0⟩)
theorem pe_gi {X : Cx} {x : Str} {pos : Pos} {i : Int} (hg : Gl X x) (h : ∃ t, X.mg x = some (.int i t)) (hdb : (x == ("__debug__" : Str)) = false := by decide) : PE X (.Name x pos) (tC (.int i)) := by
  obtain ⟨t, e⟩ := h
  exact pe_glob hg e ⟨t, rfl⟩ hdb
theorem pe_gs {X : Cx} {x : Str} {pos : Pos} {z : Str} (hg : Gl X x) (h : ∃ t, X.mg x = some (.str z t)) (hdb : (x == ("__debug__" : Str)) = false := by decide) : PE X (.Name x pos) (tC (.str z)) := by
  obtain ⟨t, e⟩ := h
  exact pe_glob hg e ⟨t, rfl⟩ hdb

structure Gn (mg : Str → Option Value) : Prop where
  g_isinstance : mg "isinstance" = none
  g_int : mg "int" = none
  g_bool : mg "bool" = none
  g_str : mg "str" = none
  g_tuple : mg "tuple" = none
  g_list : mg "list" = none
  g_dict : mg "dict" = none
  g_len : mg "len" = none
  g_abs : mg "abs" = none
  g_all : mg "all" = none
  g_any : mg "any" = none
  g_range : mg "range" = none
  g_min : mg "min" = none
  g_max : mg "max" = none
  g_sorted : mg "sorted" = none
  g_zip : mg "zip" = none
mutual
def sm : D → Bool
  | .str z => decide (z.length ≤ 1000)
  | .tup xs => decide (xs.length ≤ 1000) && sms xs
  | .lst xs => decide (xs.length ≤ 1000) && sms xs
  | .cls _ => false
  | .box => false
  | .exn _ _ _ => false
  | _ => true
def sms : List D → Bool
  | [] => true
  | x :: xs => sm x && sms xs
end
theorem sm_cls {d : D} (h : sm d = true) : d.isCls = false := by
  cases d <;> first | rfl | (exact Bool.noConfusion h)
theorem sms_mem : ∀ {xs : List D} {x : D}, sms xs = true → x ∈ xs → sm x = true
  | y :: ys, x, h, m => by
    have h' : (sm y && sms ys) = true := h
    rw [Bool.and_eq_true] at h'
    rcases List.mem_cons.mp m with e | m
    · rw [e]; exact h'.1
    · exact sms_mem h'.2 m
theorem sm_tup {xs : List D} (h : sm (.tup xs) = true) : xs.length ≤ 1000 ∧ sms xs = true := by
  have h' : (decide (xs.length ≤ 1000) && sms xs) = true := h
  rw [Bool.and_eq_true, decide_eq_true_eq] at h'
  exact h'
def isNum : D → Bool
  | .int _ => true
  | _ => false
abbrev SmP : List D → Prop := p1 fun d => sm d = true
abbrev bl1 (f : D → Bool) : List D → D := f1 fun d => .bl (f d)
abbrev ClB (P : Program) (w : World) (K : PySem.W.Frag) (mg : Str → Option Value) (base : Heap) (k : Nat) (x : Str) (st : Stmt) (v : Str) (f : D → Bool) := Cl P w K mg base k x st [v] (SpD K SmP fun ds r => r = bl1 f ds)
local macro_rules | `(tactic| walk_at "dl") => `(tactic| first
  | (with_reducible refine ws_seq ?_) | (with_reducible refine ws_if ?_) | (with_reducible refine ws_ret ?_) | ((with_reducible refine ws_set ?_); (try dsimp only [List.set])) | ((with_reducible refine ws_par ?_)) | (with_reducible refine ws_drop ?_) | (with_reducible refine ws_next ?_)
  | ((with_reducible refine' we_var ?hv ?_); (case hv => exact rfl)) | (with_reducible refine we_int ?_) | (with_reducible refine we_str ?_) | (with_reducible refine we_bl ?_) | (with_reducible refine we_non ?_) | (with_reducible refine we_cls ?_)
  | (with_reducible refine we_op ?_) | (with_reducible refine we_un ?_) | (with_reducible refine we_andV ?_) | (with_reducible refine we_orV ?_) | (with_reducible refine we_notV ?_) | (with_reducible refine we_if ?_) | (with_reducible refine we_chain ?_)
  | (with_reducible refine we_tup ?_) | (with_reducible refine we_lst ?_) | (with_reducible refine we_cb ?_) | (with_reducible refine we_callF ?_) | (with_reducible refine we_call ?_) | (with_reducible refine we_sl ?_)
  | (with_reducible refine wt_test ?_) | (with_reducible refine wt_B ?_) | (with_reducible refine wt_and ?_) | (with_reducible refine wt_or ?_) | (with_reducible refine wt_not ?_) | (with_reducible refine wt_yes ?_)
  | (with_reducible refine wa_nil ?_) | (with_reducible refine wa_cons ?_) | (with_reducible refine wo_none ?_) | (with_reducible refine wo_some ?_)
  | (with_reducible refine ro_int0 ?_) | (with_reducible refine ro_bl0 ?_) | (with_reducible refine r1_int ?_) | (with_reducible refine ro_eqI ?_) | (with_reducible refine ro_neI ?_) | (with_reducible refine ro_eqB ?_) | (with_reducible refine ro_neB ?_) | (with_reducible refine ro_eqS ?_) | (with_reducible refine ro_neS ?_)
  | (with_reducible refine ro_inC ?_) | (with_reducible refine rc_abs ?_) | (with_reducible refine rc_int1 ?_) | (with_reducible refine rc_gcd ?_)
  | ((with_reducible refine' rc_int ?hc ?_); (case hc => first | exact rfl | assumption | exact sm_cls (by assumption))) | ((with_reducible refine' rc_bool ?hc ?_); (case hc => first | exact rfl | assumption | exact sm_cls (by assumption))) | ((with_reducible refine' rc_str ?hc ?_); (case hc => first | exact rfl | assumption | exact sm_cls (by assumption))) | ((with_reducible refine' rc_tuple ?hc ?_); (case hc => first | exact rfl | assumption | exact sm_cls (by assumption))) | ((with_reducible refine' rc_list ?hc ?_); (case hc => first | exact rfl | assumption | exact sm_cls (by assumption))) | ((with_reducible refine' rc_dict ?hc ?_); (case hc => first | exact rfl | assumption | exact sm_cls (by assumption))) | ((with_reducible refine' rc_lt ?hc ?_); (case hc => first | exact rfl | assumption | exact sm_cls (by assumption)))
  | ((with_reducible refine' rc_len ?he ?hl ?_); (case he => exact rfl); (case hl => first | omega | (simp; omega)))
  | (with_reducible refine rc_allf ?_)
  | (with_reducible refine' And.intro (show List.length _ ≤ 1000 from by exact Nat.le_of_ble_eq_true rfl) ?_)
  | (refine iteT ?_) | (refine iteF ?_) | (with_reducible refine' Exists.intro _ (And.intro rfl ?_)) | (with_reducible refine' Exists.intro _ (Exists.intro _ (And.intro rfl ?_))))
section
variable {P : Program} {w : World} {K : PySem.W.Frag} {mg : Str → Option Value} {base : Heap}
/-! ### helpers of Pb -/
theorem and_t {a b : Bool} (h : a = true) : D.bl b = D.bl (a && b) := by rw [h, Bool.true_and]
theorem and_f {a b : Bool} (h : ¬ a = true) : D.bl false = D.bl (a && b) := by rw [Bool.eq_false_iff.mpr h, Bool.false_and]
/-! ### helpers of Pc -/
def inT (t : Str) : D → Bool
  | .str z => match z.cps.toList with
    | [c] => decide (c ∈ t.cps.toList)
    | _ => false
  | _ => false
theorem sm_str {z : Str} (h : sm (.str z) = true) : z.length ≤ 1000 := of_decide_eq_true h
theorem sign_ex {z : Str} {d : D} (m : d ∈ Dl.signs z) : ∃ c, d = .str ⟨#[c]⟩ ∧ c ∈ z.cps.toList := by
  unfold Dl.signs at m
  obtain ⟨c, hc, e⟩ := List.mem_map.mp m
  exact ⟨c, e.symm, hc⟩
theorem signs_len (z : Str) : (Dl.signs z).length = z.length := by
  unfold Dl.signs
  rw [List.length_map, Array.length_toList]
  rfl
/-! ### _law_is_whole -/
abbrev s__law_is_whole : Stmt := topS 20
abbrev N__law_is_whole : List Str := ["_law_x"]
theorem sc__law_is_whole : FnScope N__law_is_whole ["_law_x"] (defScope s__law_is_whole) := ⟨rfl, rfl, rfl, by decide +kernel, rfl, by decide +kernel, by decide +kernel⟩
theorem ok__law_is_whole {k : Nat} (G : Gn mg) (F : Df K mg "_law_is_whole" s__law_is_whole) : ClB P w K mg base (k + 1) "_law_is_whole" s__law_is_whole "_law_x" isNum := by
  refine cl_of F sc__law_is_whole (fun _ _ _ _ _ _ us hl => match us, hl with | [_], _ => rfl) p1_len fun f cdv A outer s H E hr => ⟨_, (pss_one (ps_ret (pe_and (pe_callB (show CallR _ (.builtin "isinstance") (rIsi K) from call_isi) (by rfl) G.g_isinstance (by decide +kernel) (pa_cons (pv 0) (pa_cons (pe_bltn (v := .ty "int") (u := .type "int") (by rfl) G.g_int (by decide +kernel) rfl) pa_nil))) (pe_one (pe_not (pe_callB (show CallR _ (.builtin "isinstance") (rIsi K) from call_isi) (by rfl) G.g_isinstance (by decide +kernel) (pa_cons (pv 0) (pa_cons (pe_bltn (v := .ty "bool") (u := .type "bool") (by rfl) G.g_bool (by decide +kernel) rfl) pa_nil)))))))), fun B ds hp => ?_⟩
  obtain ⟨d, rfl, hd⟩ := p1_ex hp
  show WS K B _ [.val d] _
  try dsimp only [cxOf, Cx.nox, Cx.blk]
  have hc := sm_cls hd
  cases d <;> first | (exact Bool.noConfusion hc) | (repeat walk_at "dl")
  all_goals rfl
/-! ### helpers of Pd -/
theorem abs_nat (i : Int) : (if i < 0 then -i else i) = (i.natAbs : Int) := by
  split <;> omega
/-! ### _law_gcd -/
abbrev s__law_gcd : Stmt := topS 18
abbrev N__law_gcd : List Str := ["_law_one_z", "_law_two_z", "_law_low", "_law_high"]
theorem sc__law_gcd : FnScope N__law_gcd ["_law_one_z", "_law_two_z"] (defScope s__law_gcd) := ⟨rfl, rfl, rfl, by decide +kernel, rfl, by decide +kernel, by decide +kernel⟩
def gcdF : D → D → D
  | .int i, .int j => .int ((Nat.gcd i.natAbs j.natAbs : Nat) : Int)
  | _, _ => .non
abbrev ClG (P : Program) (w : World) (K : PySem.W.Frag) (mg : Str → Option Value) (base : Heap) (k : Nat) := Cl P w K mg base k "_law_gcd" s__law_gcd ["_law_one_z", "_law_two_z"] (SpD K (p2 fun a b => (∃ i, a = .int i) ∧ ∃ j, b = .int j) fun ds r => r = f2 gcdF ds)
theorem ok__law_gcd {k : Nat} (G : Gn mg) (F : Df K mg "_law_gcd" s__law_gcd) : ClG P w K mg base (k + 1) := by
  refine cl_of F sc__law_gcd (fun _ _ _ _ _ _ us hl => match us, hl with | [_, _], _ => rfl) p2_len fun f cdv A outer s H E hr => ⟨_, (pss_cons (ps_par (i := 2) (j := 3) (by rfl) sc__law_gcd.nd rfl rfl (by decide) rfl rfl (pa_cons (pe_callB call_abs (by rfl) G.g_abs (by decide +kernel) (pa_cons (pv 0) pa_nil)) (pa_cons (pe_callB call_abs (by rfl) G.g_abs (by decide +kernel) (pa_cons (pv 1) pa_nil)) pa_nil)) (by rfl))
      (pss_cons (ps_while PassesOwn.never (pt_cmpR op_ne (pv 2) pe_int (nomark _)) (pss_one (ps_par (i := 2) (j := 3) (by rfl) sc__law_gcd.nd rfl rfl (by decide) rfl rfl (pa_cons (pe_op op_modN (pe_callTy call_int1 (by rfl) G.g_int (by decide +kernel) (pa_cons (pv 3) pa_nil)) (pe_callTy call_int1 (by rfl) G.g_int (by decide +kernel) (pa_cons (pv 2) pa_nil))) (pa_cons (pv 2) pa_nil)) (by rfl))))
      (pss_one (ps_ret (pv 3))))), fun B ds hp => ?_⟩
  obtain ⟨_, _, rfl, ⟨i, rfl⟩, ⟨j, rfl⟩⟩ := p2_ex hp
  show WS K B _ [.val (.int i), .val (.int j), .no, .no] _
  try dsimp only [cxOf, Cx.nox, Cx.blk]
  repeat walk_at "dl"
  rw [abs_nat i, abs_nat j]
  refine ws_while (fun m δ1 => ∃ l h : Nat, δ1 = [.val (.int i), .val (.int j), .val (.int l), .val (.int h)] ∧ Nat.gcd l h = Nat.gcd i.natAbs j.natAbs ∧ m = l) ⟨_, _, _, rfl, rfl, rfl⟩ ?_
  rintro m δ1 ⟨l, h, rfl, hg, rfl⟩
  repeat walk_at "dl"
  refine ite2 (fun h0 => ?_) (fun h0 => ?_)
  · have h1 : ¬ (m : Int) = 0 := by simpa using h0
    repeat walk_at "dl"
    refine ro_int h1 ?_
    repeat walk_at "dl"
    refine ⟨h % m, Nat.mod_lt _ (by omega), h % m, m, ?_, ?_, rfl⟩
    · have e : Int.fmod (h : Int) (m : Int) = ((h % m : Nat) : Int) := by
        rw [Int.fmod_eq_emod_of_nonneg _ (by omega)]
        rfl
      rw [e]
      rfl
    · rw [← hg]
      exact (Nat.gcd_rec m h).symm
  · have h1 : (m : Int) = 0 := by simpa using h0
    have h2 : m = 0 := by omega
    subst h2
    repeat walk_at "dl"
    show D.int _ = D.int _
    rw [← hg, Nat.gcd_zero_left]
/-! ### the bounds -/
def isNumPair : D → Bool
  | .tup xs => decide ((xs.length : Int) = 2) && xs.all isNum
  | _ => false
def inB (b : Int) : D → Bool
  | .int i => decide (-b ≤ i) && decide (i ≤ b)
  | _ => false
def isBnd (b : Int) : D → Bool
  | .tup xs => isNumPair (.tup xs) && xs.all (inB b)
  | _ => false
theorem all_in {b : Int} : ∀ xs : List D, (xs.all isNum && xs.all (inB b)) = xs.all (inB b)
  | [] => rfl
  | x :: xs => by
    have ih := all_in (b := b) xs
    rw [List.all_cons, List.all_cons]
    cases hx : inB b x with
    | false => rw [Bool.false_and, Bool.and_false]
    | true =>
      have hn : isNum x = true := by
        cases x <;> first | rfl | exact Bool.noConfusion hx
      rw [hn, Bool.true_and, Bool.true_and]
      exact ih
theorem bnd_eq {b : Int} (xs : List D) : isBnd b (.tup xs) = (decide ((xs.length : Int) = 2) && xs.all (inB b)) := by
  show ((decide ((xs.length : Int) = 2) && xs.all isNum) && xs.all (inB b)) = _
  rw [Bool.and_assoc, all_in]

/-! ### _law_is_spot -/
abbrev s__law_is_spot : Stmt := topS 21
abbrev N__law_is_spot : List Str := ["_law_x", "_law_c"]
theorem sc__law_is_spot : FnScope N__law_is_spot ["_law_x"] (defScope s__law_is_spot) := ⟨rfl, rfl, rfl, by decide +kernel, rfl, by decide +kernel, by decide +kernel⟩
theorem ok__law_is_spot {k : Nat} (G : Gn mg) (F : Df K mg "_law_is_spot" s__law_is_spot) (C__law_is_whole : ClB P w K mg base k "_law_is_whole" s__law_is_whole "_law_x" isNum) : ClB P w K mg base (k + 1) "_law_is_spot" s__law_is_spot "_law_x" (isBnd 200) := by
  refine cl_of F sc__law_is_spot (fun _ _ _ _ _ _ us hl => match us, hl with | [_], _ => rfl) p1_len fun f cdv A outer s H E hr => ⟨_, (pss_one (ps_ret (pe_and (pe_callB (show CallR _ (.builtin "isinstance") (rIsi K) from call_isi) (by rfl) G.g_isinstance (by decide +kernel) (pa_cons (pv 0) (pa_cons (pe_bltn (v := .ty "tuple") (u := .type "tuple") (by rfl) G.g_tuple (by decide +kernel) rfl) pa_nil))) (pe_and (pe_cmpR op_eq (pe_callB (show CallR _ (.builtin "len") (fun xs H Q => ∃ x n, xs = [x] ∧ LenV K x H n ∧ Q (.int n) H) from call_len) (by rfl) G.g_len (by decide +kernel) (pa_cons (pv 0) pa_nil)) pe_int (nomark _)) (pe_one (pe_callB (cr_all rfl) (by rfl) G.g_all (by decide +kernel) (pa_cons (pe_lc (own := [("_law_c", 1)]) (g := gName 1) (tt := tYes) rfl sc__law_is_spot.nd (pi_tup (pv 0)) (blkOk_by (N := N__law_is_spot) (sc := defScope s__law_is_spot) (by decide +kernel)) (fun _ _ _ _ _ => pg_name (i := 1) sc__law_is_spot.nd rfl (Or.inl rfl)) (fun _ _ _ _ _ => pts_nil) (fun _ _ _ _ _ => (pe_and (pe_c C__law_is_whole hr (by omega) (by rfl) (pa_cons (pv 1) pa_nil)) (pe_and (pe_cmpR op_le (pe_un un_neg pe_int) (pv 1) (nomark _)) (pe_one (pe_cmpR op_le (pv 1) pe_int (nomark _))))))) pa_nil))))))), fun B ds hp => ?_⟩
  obtain ⟨d, rfl, hd⟩ := p1_ex hp
  show WS K B _ [.val d, .no] _
  try dsimp only [cxOf, Cx.nox, Cx.blk]
  have hc := sm_cls hd
  cases d with
  | tup xs =>
    obtain ⟨hl, hs⟩ := sm_tup hd
    repeat walk_at "dl"
    refine ite2 (fun h => ?_) (fun h => ?_)
    · repeat walk_at "dl"
      refine we_lcmap (fun d => .bl (inB 200 d)) (wi_tup ?_)
      repeat walk_at "dl"
      refine ⟨by omega, fun d m => ?_, ?_⟩
      · repeat walk_at "dl"
        refine ⟨sms_mem hs m, ?_⟩
        cases d <;> (repeat walk_at "dl")
        all_goals first | rfl | skip
        refine ite2 (fun h => ?_) (fun h => ?_)
        · repeat walk_at "dl"
          exact and_t h
        · exact and_f h
      · repeat walk_at "dl"
        show D.bl _ = D.bl (isBnd 200 (.tup xs))
        rw [bnd_eq]
        exact and_t h
    · show D.bl _ = D.bl (isBnd 200 (.tup xs))
      rw [bnd_eq]
      exact and_f h
  | cls n => exact Bool.noConfusion hc
  | exn _ _ _ => exact Bool.noConfusion hc
  | _ => (repeat walk_at "dl"); rfl
/-! ### helpers of Pe -/
theorem cl_raw {x : Str} {st : Stmt} {N ps : List Str} {k : Nat} {pre : List D → Prop} {post : List D → D → Prop} (F : Df K mg x st) (S : FnScope N ps (defScope st))
    (hb : ∀ (kV doc pm : Value) (an : Option Addr) (cdv ct : Value) (us : List Value), us.length = ps.length → bindArgs (PySem.W.fnOf x x (defArgs st) (defBody st) (defScope st) .none kV doc pm an cdv ct) ⟨us, []⟩ = pure (ps.zip us))
    (hl : ∀ ds, pre ds → ds.length = ps.length)
    (h : ∀ (f : Addr) (cdv : Value) (A : Around) (outer : List Env) (s : Shared) (H : Hp) (E : XK) (B : Bt) (G : Hp) (ds : List D) (vs : List V) (Q : VK), Room k (A.deeper (envOfC x (defScope st) s.heap.objs.size f cdv)) → Ok B G H → Dds K B G vs ds → pre ds → Ct K B G H (post ds) Q →
      ∃ t, PSs (cxOf CX0 P w K mg base N x (defScope st) f cdv A outer s H E).nox (defBody st) t ∧ t { nx := fun _ H' => Q .non H', rt := Q } (L2.start N vs) H) : Cl P w K mg base (k + 1) x st ps (SpD K pre post) := by
  obtain ⟨f, fd, F, hm⟩ := F.ex
  refine ⟨f, fd, F, F.ok S (fun vs H Q E hsp => ?_) (fun cdv A outer s H vs Q E hr hsp => ?_), hm, F.binds hb⟩
  · obtain ⟨B, G, ds, o, hs, p, q⟩ := hsp
    exact hs.length.trans (hl ds p)
  · obtain ⟨B, G, ds, o, hs, p, q⟩ := hsp
    exact h f cdv A outer s H E B G ds vs Q hr o hs p q
/-! ### _law_take -/
abbrev s__law_take : Stmt := topS 14
abbrev N__law_take : List Str := ["_law_box_here", "_law_many", "_law_step", "_law_cell", "_law_digit"]
theorem sc__law_take : FnScope N__law_take ["_law_box_here", "_law_many"] (defScope s__law_take) := ⟨rfl, rfl, rfl, by decide +kernel, rfl, by decide +kernel, by decide +kernel⟩
abbrev takePre : List D → Prop := p2 fun b m => b = .box ∧ ∃ n : Int, m = .int n ∧ 0 < n ∧ n ≤ 1000000000
def takePost : List D → D → Prop := fun ds r => ∃ n i : Int, ds = [.box, .int n] ∧ r = .int i ∧ 0 ≤ i ∧ i < n
abbrev ClT (P : Program) (w : World) (K : PySem.W.Frag) (mg : Str → Option Value) (base : Heap) (k : Nat) := Cl P w K mg base k "_law_take" s__law_take ["_law_box_here", "_law_many"] (SpD K takePre takePost)
theorem fm0 {i n : Int} (h : 0 < n) : 0 ≤ i.fmod n ∧ i.fmod n < n := ⟨Int.fmod_nonneg_of_pos i h, Int.fmod_lt_of_pos i h⟩
theorem fd0 {i n : Int} (hi : 0 ≤ i) (h : 0 < n) : 0 ≤ i.fdiv n := by
  rw [Int.fdiv_eq_ediv_of_nonneg _ (by omega)]
  exact Int.ediv_nonneg hi (by omega)
theorem ok__law_take {k : Nat} (G : Gn mg) (F : Df K mg "_law_take" s__law_take) : ClT P w K mg base (k + 1) := by
  refine cl_raw F sc__law_take (fun _ _ _ _ _ _ us hl => match us, hl with | [_, _], _ => rfl) p2_len fun f cdv A outer s H E B G0 ds vs Q hr ok hs hp q => ?_
  obtain ⟨_, _, rfl, rfl, n, rfl, hn0, hn1⟩ := p2_ex hp
  have ev : vs = [.ref B.a, .int n] := by
    cases hs with
    | cons h1 t =>
      cases t with
      | cons h2 t2 => cases t2; cases h1; cases h2; rfl
  subst ev
  -- the end
  have fin : ∀ (H1 : Hp) (c : Addr) (cells : List Int) (p r m cnt i : Int), (∀ a, a ≠ B.a → H1 a = H a) → H1 B.a = some (.lst [.ref c, .int p, .int r, .int m, .int cnt]) → G0 c = some (.lst (cells.map V.int)) → cells.length ≤ 63 → 0 ≤ p → 0 ≤ r → 0 ≤ m → m < 2147483587 → 0 ≤ cnt → 0 ≤ i → i < n → (∀ c0 r0, H B.a = some (.lst (.ref c0 :: r0)) → c0 = c) → Q (.int i) H1 := by
    intro H1 c cells p r m cnt i hk hB hc hl hp hr hm hm2 hn hi hi2 hcc
    refine q (.int i) (.int i) G0 H1 ⟨Same.refl _, fun a o ne _ e => by rw [hk a ne]; exact e, fun _ _ _ _ g => g, fun c0 r0 e => ⟨[.int p, .int r, .int m, .int cnt], by have ec := hcc c0 r0 e; subst ec; exact hB⟩⟩ ⟨fun a o e => ?_, ok.b, ⟨c, cells, p, r, m, cnt, hB, hc, hl, hp, hr, hm, hm2, hn⟩, ?_, ok.f⟩ (.int i) ⟨n, i, rfl, rfl, hi, hi2⟩
    · have ne : a ≠ B.a := fun z => by rw [z, ok.b] at e; cases e
      rw [hk a ne]
      exact ok.u a o e
    · obtain ⟨c1, cells1, p1, r1, m1, n1, hB1, _⟩ := ok.x
      have e1 : H1 = upd H B.a (.lst [.ref c, .int p, .int r, .int m, .int cnt]) := by
        funext a
        by_cases z : a = B.a
        · rw [z, hB, upd_same]
        · rw [upd_ne z]; exact hk a z
      rw [e1]
      exact tabs_upd ok.t hB1
  -- the lines behind the first if
  obtain ⟨T2, h2, w2⟩ : ∃ T2, PSs (cxOf CX0 P w K mg base N__law_take "_law_take" (defScope s__law_take) f cdv A outer s H E).nox ((defBody s__law_take).drop 1) T2 ∧
      ∀ (H1 : Hp) (c : Addr) (cells : List Int) (p r m cnt : Int) (y2 y3 y4 : Option V), (∀ a, a ≠ B.a → H1 a = H a) → H1 B.a = some (.lst [.ref c, .int p, .int r, .int m, .int cnt]) → G0 c = some (.lst (cells.map V.int)) → cells.length ≤ 63 → 0 ≤ p → 0 ≤ r → 0 ≤ m → m < 2147483587 → 0 ≤ cnt → (∀ c0 r0, H B.a = some (.lst (.ref c0 :: r0)) → c0 = c) →
        T2 { nx := fun _ H' => Q .non H', rt := Q } [some (.ref B.a), some (.int n), y2, y3, y4] H1 := by
    refine ⟨_, (pss_cons (ps_if (pt_cmpR op_gt (pe_ix (show IxR _ (rIxL K) from ix_list) (pv 0) pe_int (fun _ _ => rfl)) pe_int (nomark _)) (pss_cons (ps_set (i := 4) sc__law_take.nd rfl (Or.inl rfl) (pe_op op_modN (pe_callTy call_int1 (by rfl) G.g_int (by decide +kernel) (pa_cons (pe_ix (show IxR _ (rIxL K) from ix_list) (pv 0) pe_int (fun _ _ => rfl)) pa_nil)) (pv 1)))
      (pss_cons (ps_asg (pe_op op_fdivN (pe_callTy call_int1 (by rfl) G.g_int (by decide +kernel) (pa_cons (pe_ix (show IxR _ (rIxL K) from ix_list) (pv 0) pe_int (fun _ _ => rfl)) pa_nil)) (pv 1)) (pg_sub (pv 0) pe_int set_list))
      (pss_one (ps_ret (pv 4))))) pss_nil)
      (pss_cons (ps_asg (pe_op op_add (pe_ix (show IxR _ (rIxL K) from ix_list) (pv 0) pe_int (fun _ _ => rfl)) pe_int) (pg_sub (pv 0) pe_int set_list))
      (pss_cons (ps_set (i := 2) sc__law_take.nd rfl (Or.inl rfl) (pe_op op_modN (pe_callTy call_int1 (by rfl) G.g_int (by decide +kernel) (pa_cons (pe_op op_add (pe_ix (show IxR _ (rIxL K) from ix_list) (pv 0) pe_int (fun _ _ => rfl)) (pe_op op_mul (pe_ix (show IxR _ (rIxL K) from ix_list) (pv 0) pe_int (fun _ _ => rfl)) pe_int)) pa_nil)) pe_int))
      (pss_cons (ps_asg (pe_op op_modN (pe_callTy call_int1 (by rfl) G.g_int (by decide +kernel) (pa_cons (pe_op op_add (pe_op op_add (pe_op op_pow (pv 2) pe_int) (pe_op op_mul pe_int (pv 2))) pe_int) pa_nil)) pe_int) (pg_sub (pv 0) pe_int set_list))
      (pss_one (ps_ret (pe_op op_modN (pe_callTy call_int1 (by rfl) G.g_int (by decide +kernel) (pa_cons (pe_op op_add (pe_op op_fdivN (pe_ix (show IxR _ (rIxL K) from ix_list) (pv 0) pe_int (fun _ _ => rfl)) pe_int) (pe_op op_mul (pe_op op_modN (pe_callTy call_int1 (by rfl) G.g_int (by decide +kernel) (pa_cons (pe_ix (show IxR _ (rIxL K) from ix_list) (pv 0) pe_int (fun _ _ => rfl)) pa_nil)) pe_int) pe_int)) pa_nil)) (pv 1)))))))), ?_⟩
    intro H1 c cells p r m cnt y2 y3 y4 hk hB hc hl hp hr hm hm2 hn hcc
    refine ⟨_, rfl, B.a, _, _, _, rfl, rfl, SqL.of hB, rfl, _, _, rfl, rfl, _, rfl, ?_⟩
    refine ite2 (fun h => ?_) (fun h => ?_)
    · refine ⟨_, rfl, B.a, _, _, _, rfl, rfl, SqL.of hB, rfl, .inl ⟨_, rfl, _, rfl, _, _, rfl, rfl, (show n ≠ 0 by omega), ?_⟩⟩
      refine ⟨_, rfl, B.a, _, _, _, rfl, rfl, SqL.of hB, rfl, .inl ⟨_, rfl, _, rfl, _, _, rfl, rfl, (show n ≠ 0 ∧ n.natAbs < 1073741824 from ⟨by omega, by omega⟩), _, rfl, B.a, _, _, _, rfl, rfl, hB, rfl, ?_⟩⟩
      refine ⟨_, rfl, ?_⟩
      have f0 := fm0 (i := r) hn0
      exact fin _ c cells p (r.fdiv n) m cnt _ (fun a ne => by rw [upd_ne ne]; exact hk a ne) upd_same hc hl hp (fd0 hr hn0) hm hm2 hn f0.1 f0.2 hcc
    · -- box[4] = box[4] + 1
      refine ⟨_, rfl, B.a, _, _, _, rfl, rfl, SqL.of hB, rfl, _, _, rfl, rfl, _, rfl, B.a, _, _, _, rfl, rfl, hB, rfl, ?_⟩
      -- step
      refine ⟨_, rfl, B.a, _, _, _, rfl, rfl, SqL.of upd_same, rfl, _, rfl, B.a, _, _, _, rfl, rfl, SqL.of upd_same, rfl, _, _, rfl, rfl, .inr ⟨by decide, by decide⟩, _, _, rfl, rfl, .inl ⟨_, rfl, _, _, rfl, rfl, (by intro z; exact absurd z (by decide)), ?_⟩⟩
      have fs := fm0 (i := m + (cnt + 1) * 6007) (n := 2147483587) (by decide)
      -- box[3] = int(step ** 3 + 30011 * step + 977) % ..
      refine ⟨_, rfl, _, _, rfl, rfl, ⟨by decide, by decide, (show ((m + (cnt + 1) * 6007).fmod 2147483587).natAbs < 2 ^ 64 by omega)⟩, _, rfl, _, _, rfl, rfl, .inl ⟨by decide, by decide⟩, _, _, rfl, rfl, _, _, rfl, rfl, .inl ⟨_, rfl, _, _, rfl, rfl, (by intro z; exact absurd z (by decide)), _, rfl, B.a, _, _, _, rfl, rfl, upd_same, rfl, ?_⟩⟩
      have fm := fm0 (i := ((m + (cnt + 1) * 6007).fmod 2147483587) ^ (3 : Int).toNat + 30011 * ((m + (cnt + 1) * 6007).fmod 2147483587) + 977) (n := 2147483587) (by decide)
      -- the answer
      refine ⟨_, rfl, B.a, _, _, _, rfl, rfl, SqL.of upd_same, rfl, _, _, rfl, rfl, ⟨by decide, by decide⟩, _, rfl, B.a, _, _, _, rfl, rfl, SqL.of upd_same, rfl, .inl ⟨_, rfl, _, _, rfl, rfl, (by intro z; exact absurd z (by decide)), _, _, rfl, rfl, .inr ⟨by decide, by decide⟩, _, _, rfl, rfl, .inl ⟨_, rfl, _, rfl, _, _, rfl, rfl, (show n ≠ 0 by omega), ?_⟩⟩⟩
      refine fin _ c cells p r _ (cnt + 1) _ (fun a ne => by rw [upd_ne ne, upd_ne ne]; exact hk a ne) upd_same hc hl hp hr fm.1 fm.2 (by omega) (fm0 hn0).1 (fm0 hn0).2 hcc
  refine ⟨_, pss_cons (ps_if (PW.pt (pw_and (pt_cmpR op_eq (pe_ix (show IxR _ (rIxL K) from ix_list) (pv 0) pe_int (fun _ _ => rfl)) pe_int (nomark _)) (pw_and1 (pt_cmpR op_lt (pe_ix (show IxR _ (rIxL K) from ix_list) (pv 0) pe_int (fun _ _ => rfl)) (pe_callB (show CallR _ (.builtin "len") (fun xs H Q => ∃ x n, xs = [x] ∧ LenV K x H n ∧ Q (.int n) H) from call_len) (by rfl) G.g_len (by decide +kernel) (pa_cons (pe_ix (show IxR _ (rIxL K) from ix_list) (pv 0) pe_int (fun _ _ => rfl)) pa_nil)) (nomark _))))) (pss_cons (ps_set (i := 3) sc__law_take.nd rfl (Or.inl rfl) (pe_ix (show IxR _ (rIxL K) from ix_list) (pe_ix (show IxR _ (rIxL K) from ix_list) (pv 0) pe_int (fun _ _ => rfl)) (pe_ix (show IxR _ (rIxL K) from ix_list) (pv 0) pe_int (fun _ _ => rfl)) (fun _ _ => rfl)))
      (pss_cons (ps_asg (pe_op op_add (pe_ix (show IxR _ (rIxL K) from ix_list) (pv 0) pe_int (fun _ _ => rfl)) pe_int) (pg_sub (pv 0) pe_int set_list))
      (pss_cons (ps_asg (pe_op op_modN (pe_callTy call_int1 (by rfl) G.g_int (by decide +kernel) (pa_cons (pe_op op_add (pe_op op_add (pe_op op_mul (pe_ix (show IxR _ (rIxL K) from ix_list) (pv 0) pe_int (fun _ _ => rfl)) pe_int) (pe_op op_mul (pe_op op_modN (pe_callTy call_int1 (by rfl) G.g_int (by decide +kernel) (pa_cons (pv 3) pa_nil)) pe_int) pe_int)) pe_int) pa_nil)) pe_int) (pg_sub (pv 0) pe_int set_list))
      (pss_one (ps_if (pt_cmpR op_ge (pe_callB call_abs (by rfl) G.g_abs (by decide +kernel) (pa_cons (pv 3) pa_nil)) (pe_op op_pow pe_int pe_int) (nomark _)) (pss_one (ps_asg (pe_callB call_abs (by rfl) G.g_abs (by decide +kernel) (pa_cons (pv 3) pa_nil)) (pg_sub (pv 0) pe_int set_list))) pss_nil))))) pss_nil) h2, ?_⟩
  obtain ⟨c, cells, p, r, m, cnt, hB, hc, hl, hp, hr0, hm, hm2, hn⟩ := ok.x
  show (tSeq _ T2) _ [some (.ref B.a), some (.int n), none, none, none] H
  have hcc : ∀ c0 r0, H B.a = some (.lst (.ref c0 :: r0)) → c0 = c := fun c0 r0 e => by
    rw [hB] at e
    exact (V.ref.inj (List.cons.inj (HO.lst.inj (Option.some.inj e))).1).symm
  have go0 := w2 H c cells p r m cnt none none none (fun _ _ => rfl) hB hc hl hp hr0 hm hm2 hn hcc
  refine ⟨_, rfl, B.a, _, _, _, rfl, rfl, SqL.of hB, rfl, rfl, _, rfl, ?_⟩
  refine ite2 (fun h => ?_) (fun h => iteF go0)
  have er : r = 0 := V.int.inj (of_decide_eq_true h)
  have hcH : SqL K H c (cells.map V.int) := SqL.of (ok.u _ _ hc)
  refine ⟨_, rfl, B.a, _, _, _, rfl, rfl, SqL.of hB, rfl, _, rfl, B.a, _, _, _, rfl, rfl, SqL.of hB, rfl, _, _, rfl, .inl ⟨_, hcH, rfl⟩, _, _, rfl, rfl, _, rfl, ?_⟩
  refine ite2 (fun h2 => ?_) (fun h2 => go0)
  have hp2 : p < ((cells.map V.int).length : Int) := of_decide_eq_true h2
  rw [List.length_map] at hp2
  obtain ⟨j, rfl⟩ : ∃ j : Nat, p = (j : Int) := ⟨p.toNat, by omega⟩
  have hj : j < cells.length := by omega
  have hat : atI (cells.map V.int) (j : Int) = some (.int cells[j]) := atI_nat (by rw [List.getElem?_map, List.getElem?_eq_getElem hj]; rfl)
  generalize cells[j] = cell at hat
  -- cell = box[0][box[1]]
  refine ⟨_, rfl, B.a, _, _, _, rfl, rfl, SqL.of hB, rfl, _, rfl, B.a, _, _, _, rfl, rfl, SqL.of hB, rfl, c, _, _, _, rfl, rfl, hcH, hat, ?_⟩
  -- box[1] = box[1] + 1
  refine ⟨_, rfl, B.a, _, _, _, rfl, rfl, SqL.of hB, rfl, _, _, rfl, rfl, _, rfl, B.a, _, _, _, rfl, rfl, hB, rfl, ?_⟩
  -- box[3] = ..
  refine ⟨_, rfl, B.a, _, _, _, rfl, rfl, SqL.of upd_same, rfl, _, _, rfl, rfl, .inr ⟨by decide, by decide⟩, _, rfl, .inl ⟨_, rfl, _, _, rfl, rfl, (by intro z; exact absurd z (by decide)), _, _, rfl, rfl, .inr ⟨by decide, by decide⟩, _, _, rfl, rfl, _, _, rfl, rfl, .inl ⟨_, rfl, _, _, rfl, rfl, (by intro z; exact absurd z (by decide)), _, rfl, B.a, _, _, _, rfl, rfl, upd_same, rfl, ?_⟩⟩⟩
  have fm := fm0 (i := m * 48271 + cell.fmod 2147483399 * 7 + 13) (n := 2147483587) (by decide)
  -- if abs(cell) >= 10 ** 18
  refine ⟨_, rfl, _, rfl, _, _, rfl, rfl, ⟨by decide, by decide, by decide⟩, _, _, rfl, rfl, _, rfl, ?_⟩
  refine ite2 (fun h3 => ?_) (fun h3 => ?_)
  · refine ⟨_, rfl, _, rfl, _, rfl, B.a, _, _, _, rfl, rfl, upd_same, rfl, ?_⟩
    exact w2 _ c cells (j + 1) (if cell < 0 then -cell else cell) _ cnt none (some (.int cell)) none (fun a ne => by rw [upd_ne ne, upd_ne ne, upd_ne ne]) upd_same hc hl (by omega) (by split <;> omega) fm.1 fm.2 hn hcc
  · exact w2 _ c cells (j + 1) r _ cnt none (some (.int cell)) none (fun a ne => by rw [upd_ne ne, upd_ne ne]) upd_same hc hl (by omega) hr0 fm.1 fm.2 hn hcc
/-! ### _law_pick -/
abbrev s__law_pick : Stmt := topS 15
abbrev N__law_pick : List Str := ["_law_box_here", "_law_some"]
theorem sc__law_pick : FnScope N__law_pick ["_law_box_here", "_law_some"] (defScope s__law_pick) := ⟨rfl, rfl, rfl, by decide +kernel, rfl, by decide +kernel, by decide +kernel⟩
abbrev pickPre : List D → Prop := p2 fun b l => b = .box ∧ ∃ xs, l = .lst xs ∧ 0 < xs.length ∧ xs.length ≤ 1000
def pickPost : List D → D → Prop := fun ds r => ∃ xs, ds = [.box, .lst xs] ∧ r ∈ xs
abbrev ClP (P : Program) (w : World) (K : PySem.W.Frag) (mg : Str → Option Value) (base : Heap) (k : Nat) := Cl P w K mg base k "_law_pick" s__law_pick ["_law_box_here", "_law_some"] (SpD K pickPre pickPost)
theorem ok__law_pick {k : Nat} (G : Gn mg) (F : Df K mg "_law_pick" s__law_pick) (C__law_take : ClT P w K mg base k) : ClP P w K mg base (k + 1) := by
  refine cl_of F sc__law_pick (fun _ _ _ _ _ _ us hl => match us, hl with | [_, _], _ => rfl) p2_len fun f cdv A outer s H E hr => ⟨_, (pss_one (ps_ret (pe_ix (show IxR _ (rIxL K) from ix_list) (pv 1) (pe_c C__law_take hr (by omega) (by rfl) (pa_cons (pv 0) (pa_cons (pe_callB (show CallR _ (.builtin "len") (fun xs H Q => ∃ x n, xs = [x] ∧ LenV K x H n ∧ Q (.int n) H) from call_len) (by rfl) G.g_len (by decide +kernel) (pa_cons (pv 1) pa_nil)) pa_nil))) (fun _ _ => rfl)))), fun B ds hp => ?_⟩
  obtain ⟨_, _, rfl, rfl, xs, rfl, h0, h1⟩ := p2_ex hp
  show WS K B _ [.val .box, .val (.lst xs)] _
  try dsimp only [cxOf, Cx.nox, Cx.blk]
  repeat walk_at "dl"
  refine ⟨⟨rfl, _, rfl, by omega, by omega⟩, ?_⟩
  rintro d ⟨n, i, e, rfl, hi0, hi1⟩
  cases e
  obtain ⟨j, rfl⟩ : ∃ j : Nat, i = (j : Int) := ⟨i.toNat, by omega⟩
  have hj : j < xs.length := by omega
  exact ro_ixL (atI_nat (List.getElem?_eq_getElem hj)) ⟨xs, rfl, List.getElem_mem hj⟩
/-! ### _law_same -/
def isNon : D → Bool | .non => true | _ => false
theorem ro_isN {B : Bt} {Pp : D → Prop} {a : D} (p : Pp (.bl (isNon a))) : RO K B (fun x y H Q => y = .non ∧ Q (.bl (decide (x = .non))) H) a .non Pp := fun _ _ x _ _ o hx hy q => by
  cases hy
  refine ⟨rfl, ?_⟩
  have e : decide (x = V.non) = isNon a := by cases hx <;> rfl
  rw [e]
  exact q.nil o (.bl _) p
theorem ro_eq5 {B : Bt} {Pp : D → Prop} {a b c d e : Bool} (p : Pp (.bl true)) : RO K B (rEqD K) (.lst [.bl a, .bl b, .bl c, .bl d, .bl e]) (.lst [.bl a, .bl b, .bl c, .bl d, .bl e]) Pp := fun G H x y _ o hx hy q => by
  have key : ∀ v, Dd K B G v (.lst [.bl a, .bl b, .bl c, .bl d, .bl e]) → Dp K H v (.list [.bool a, .bool b, .bool c, .bool d, .bool e]) := by
    intro v hv
    cases hv with
    | lst hg t =>
      cases t with
      | cons h1 t =>
        cases t with
        | cons h2 t =>
          cases t with
          | cons h3 t =>
            cases t with
            | cons h4 t =>
              cases t with
              | cons h5 t =>
                cases t; cases h1; cases h2; cases h3; cases h4; cases h5
                exact .lst (SqL.of (o.u _ _ hg)) (.cons (.bl a) (.cons (.bl b) (.cons (.bl c) (.cons (.bl d) (.cons (.bl e) .nil)))))
  have hsh : SeqAt.shaped (.list [.bool a, .bool b, .bool c, .bool d, .bool e]) = true := by
    cases a <;> cases b <;> cases c <;> cases d <;> cases e <;> decide +kernel
  refine ⟨_, _, key x hx, key y hy, hsh, hsh, ?_⟩
  have e : PyData.eqv (.list [.bool a, .bool b, .bool c, .bool d, .bool e]) (.list [.bool a, .bool b, .bool c, .bool d, .bool e]) = true := by
    cases a <;> cases b <;> cases c <;> cases d <;> cases e <;> decide +kernel
  rw [e]
  exact q.nil o (.bl true) p
theorem ro_eqU1 {B : Bt} {Pp : D → Prop} {a b : D} (h : RO K B rEq a b Pp) : RO K B rEqU a b Pp := fun G H x y Q o hx hy q => .inl (h G H x y Q o hx hy q)
theorem ro_eqU2 {B : Bt} {Pp : D → Prop} {ks : List Key} {xs : List D} (h : (ks = [] ∧ xs = []) ∨ ∃ k x, ks = [k] ∧ xs = [x] ∧ x.flat = true) (p : Pp (.bl true)) : RO K B rEqU (.dic ks xs) (.dic ks xs) Pp := fun G H x y Q o hx hy q => by
  refine .inr ?_
  generalize e1 : D.dic ks xs = d1 at hx
  cases hx with
  | @dic a kvs ds hg t =>
    generalize e2 : D.dic ks xs = d2 at hy
    cases hy with
    | @dic b lvs es hg2 t2 =>
      cases e1
      injection e2 with e3 e4
      subst e4
      refine ⟨a, b, kvs, lvs, rfl, rfl, o.u _ _ hg, o.u _ _ hg2, ?_, ?_, q.nil o (.bl true) p⟩
      · rw [← List.length_map (f := (·.1)) (as := kvs), ← List.length_map (f := (·.1)) (as := lvs), e3]
      · rcases h with ⟨h1, _⟩ | ⟨k, z, h1, h2, hf⟩
        · have : kvs = [] := by simpa using h1
          subst this
          intro p hp; cases hp
        · match kvs, lvs, h1, e3 with
          | [(k1, v1)], [(k2, v2)], h1, e3 =>
            have ek : k1 = k2 := by simpa using e3
            subst ek
            subst h2
            intro p hp
            rw [List.mem_singleton.mp hp]
            cases t with
            | cons a1 _ =>
              cases t2 with
              | cons a2 _ =>
                have f1 := a1.flat hf
                have f2 := a2.flat hf
                have f3 : v1 = z.v := f1
                have f4 : v2 = z.v := f2
                subst f3 f4
                refine ⟨?_, ?_⟩
                · unfold valV
                  rw [List.find?_cons_of_pos (by exact decide_eq_true rfl)]
                  rfl
                · show flatB z.v = true
                  cases z <;> first | rfl | exact Bool.noConfusion hf
          | [], _, h1, _ => simp at h1
          | _ :: _ :: _, _, h1, _ => simp at h1
          | [_], [], _, e3 => simp at e3
          | [_], _ :: _ :: _, _, e3 => simp at e3
    | _ => cases e2
  | _ => cases e1
abbrev s__law_same : Stmt := topS 17
abbrev N__law_same : List Str := ["_law_found", "_law_due", "_law_kinds", "_law_x", "_law_k"]
theorem sc__law_same : FnScope N__law_same ["_law_found", "_law_due"] (defScope s__law_same) := ⟨rfl, rfl, rfl, by decide +kernel, rfl, by decide +kernel, by decide +kernel⟩
/-- how deep, and of plain things alone -/
def plain : Nat → D → Bool
  | _, .non => true | _, .bl _ => true | _, .int _ => true | _, .str _ => true | _, .dic [] [] => true | _, .dic [_] [x] => x.flat
  | n + 1, .lst xs => decide (xs.length ≤ 1000) && xs.all (plain n)
  | n + 1, .tup xs => decide (xs.length ≤ 1000) && xs.all (plain n)
  | _, _ => false
abbrev samePre (n : Nat) : List D → Prop := p2 fun a b => a = b ∧ plain n a = true
abbrev ClS (P : Program) (w : World) (K : PySem.W.Frag) (mg : Str → Option Value) (base : Heap) (k n : Nat) := Cl P w K mg base k "_law_same" s__law_same ["_law_found", "_law_due"] (SpD K (samePre n) fun ds r => r = (fun _ => D.bl true) ds)
theorem all_true : ∀ n : Nat, (upto 0 n).all (fun _ => true) = true := fun n => List.all_eq_true.mpr fun _ _ => rfl
theorem upto_mem {n : Nat} {d : D} (m : d ∈ upto 0 n) : ∃ j : Nat, d = .int j ∧ j < n := by
  unfold upto at m
  obtain ⟨j, hj, e⟩ := List.mem_map.mp m
  exact ⟨j, by rw [← e, Int.zero_add], List.mem_range.mp hj⟩
theorem upto_len {lo : Int} {n : Nat} : (upto lo n).length = n := by unfold upto; rw [List.length_map, List.length_range]
theorem same_body {k n : Nat} (G : Gn mg) (F : Df K mg "_law_same" s__law_same) (C__law_same : Cl P w K mg base k "_law_same" s__law_same ["_law_found", "_law_due"] (SpD K (p2 fun a b => a = b ∧ ∃ m, n = m + 1 ∧ plain m a = true) fun ds r => r = (fun _ => D.bl true) ds)) : ClS P w K mg base (k + 1) n := by
    refine cl_of F sc__law_same (fun _ _ _ _ _ _ us hl => match us, hl with | [_, _], _ => rfl) p2_len fun f cdv A outer s H E hr => ?_
    refine ⟨_, (pss_cons (ps_if (pt_val (pe_callB (show CallR _ (.builtin "isinstance") (zIsi2 K) from call_isiZ) (by rfl) G.g_isinstance (by decide +kernel) (pa_cons (pv 1) (pa_cons (pe_tupZ (pa_cons (pe_bltn (v := .ty "list") (u := .type "list") (by rfl) G.g_list (by decide +kernel) rfl) (pa_cons (pe_bltn (v := .ty "tuple") (u := .type "tuple") (by rfl) G.g_tuple (by decide +kernel) rfl) pa_nil))) pa_nil)))) (pss_cons (ps_if (PW.pt (pw_or (pt_cmpR op_ne (pe_callB (show CallR _ (.builtin "isinstance") (rIsi K) from call_isi) (by rfl) G.g_isinstance (by decide +kernel) (pa_cons (pv 0) (pa_cons (pe_bltn (v := .ty "list") (u := .type "list") (by rfl) G.g_list (by decide +kernel) rfl) pa_nil))) (pe_callB (show CallR _ (.builtin "isinstance") (rIsi K) from call_isi) (by rfl) G.g_isinstance (by decide +kernel) (pa_cons (pv 1) (pa_cons (pe_bltn (v := .ty "list") (u := .type "list") (by rfl) G.g_list (by decide +kernel) rfl) pa_nil))) (nomark _)) (pw_or1 (pt_cmpR op_ne (pe_callB (show CallR _ (.builtin "isinstance") (rIsi K) from call_isi) (by rfl) G.g_isinstance (by decide +kernel) (pa_cons (pv 0) (pa_cons (pe_bltn (v := .ty "tuple") (u := .type "tuple") (by rfl) G.g_tuple (by decide +kernel) rfl) pa_nil))) (pe_callB (show CallR _ (.builtin "isinstance") (rIsi K) from call_isi) (by rfl) G.g_isinstance (by decide +kernel) (pa_cons (pv 1) (pa_cons (pe_bltn (v := .ty "tuple") (u := .type "tuple") (by rfl) G.g_tuple (by decide +kernel) rfl) pa_nil))) (nomark _))))) (pss_one (ps_ret pe_bl)) pss_nil)
      (pss_one (ps_ret (pe_and (pe_cmpR op_eq (pe_callB (show CallR _ (.builtin "len") (fun xs H Q => ∃ x n, xs = [x] ∧ LenV K x H n ∧ Q (.int n) H) from call_len) (by rfl) G.g_len (by decide +kernel) (pa_cons (pv 0) pa_nil)) (pe_callB (show CallR _ (.builtin "len") (fun xs H Q => ∃ x n, xs = [x] ∧ LenV K x H n ∧ Q (.int n) H) from call_len) (by rfl) G.g_len (by decide +kernel) (pa_cons (pv 1) pa_nil)) (nomark _)) (pe_one (pe_callB (cr_all rfl) (by rfl) G.g_all (by decide +kernel) (pa_cons (pe_lc (own := [("_law_k", 4)]) (g := gName 4) (tt := tYes) rfl sc__law_same.nd (pi_range1 rfl G.g_range (pa_cons (pe_callB (show CallR _ (.builtin "len") (fun xs H Q => ∃ x n, xs = [x] ∧ LenV K x H n ∧ Q (.int n) H) from call_len) (by rfl) G.g_len (by decide +kernel) (pa_cons (pv 1) pa_nil)) pa_nil)) (blkOk_by (N := N__law_same) (sc := defScope s__law_same) (by decide +kernel)) (fun _ _ _ _ _ => pg_name (i := 4) sc__law_same.nd rfl (Or.inl rfl)) (fun _ _ _ _ _ => pts_nil) (fun _ _ _ _ _ => (pe_c C__law_same hr (by omega) (by rfl) (pa_cons (pe_ix (show IxR _ (rIx K) from ix_seq) (pv 0) (pv 4) (fun _ _ => rfl)) (pa_cons (pe_ix (show IxR _ (rIx K) from ix_seq) (pv 1) (pv 4) (fun _ _ => rfl)) pa_nil))))) pa_nil))))))) pss_nil)
      (pss_cons (ps_setLc (i := 2) (own := [("_law_x", 3)]) (g := gName 3) (tt := tYes) rfl sc__law_same.nd rfl rfl (sw_true rfl rfl rfl (by decide +kernel)) (pi_tup (pe_tupZ (pa_cons (pv 0) (pa_cons (pv 1) pa_nil)))) (blkOk_by (N := N__law_same) (sc := defScope s__law_same) (by decide +kernel)) (fun _ _ _ _ _ => pg_name (i := 3) sc__law_same.nd rfl (Or.inl rfl)) (fun _ _ _ _ _ => pts_nil) (fun _ _ _ _ _ => (pe_lst (pa_cons (pe_callB (show CallR _ (.builtin "isinstance") (rIsi K) from call_isi) (by rfl) G.g_isinstance (by decide +kernel) (pa_cons (pv 3) (pa_cons (pe_bltn (v := .ty "bool") (u := .type "bool") (by rfl) G.g_bool (by decide +kernel) rfl) pa_nil))) (pa_cons (pe_callB (show CallR _ (.builtin "isinstance") (rIsi K) from call_isi) (by rfl) G.g_isinstance (by decide +kernel) (pa_cons (pv 3) (pa_cons (pe_bltn (v := .ty "int") (u := .type "int") (by rfl) G.g_int (by decide +kernel) rfl) pa_nil))) (pa_cons (pe_callB (show CallR _ (.builtin "isinstance") (rIsi K) from call_isi) (by rfl) G.g_isinstance (by decide +kernel) (pa_cons (pv 3) (pa_cons (pe_bltn (v := .ty "str") (u := .type "str") (by rfl) G.g_str (by decide +kernel) rfl) pa_nil))) (pa_cons (pe_callB (show CallR _ (.builtin "isinstance") (rIsi K) from call_isi) (by rfl) G.g_isinstance (by decide +kernel) (pa_cons (pv 3) (pa_cons (pe_bltn (v := .ty "dict") (u := .type "dict") (by rfl) G.g_dict (by decide +kernel) rfl) pa_nil))) (pa_cons (pe_cmpR op_isN (pv 3) pe_non (nomark _)) pa_nil))))))))
      (pss_one (ps_ret (pe_and (pe_cmpR (op_eqD hr.units) (pe_ix (show IxR _ (rIxL K) from ix_list) (pv 2) pe_int (fun _ _ => rfl)) (pe_ix (show IxR _ (rIxL K) from ix_list) (pv 2) pe_int (fun _ _ => rfl)) (nomark _)) (pe_and (pe_not (pe_callB (show CallR _ (.builtin "isinstance") (zIsi2 K) from call_isiZ) (by rfl) G.g_isinstance (by decide +kernel) (pa_cons (pv 0) (pa_cons (pe_tupZ (pa_cons (pe_bltn (v := .ty "list") (u := .type "list") (by rfl) G.g_list (by decide +kernel) rfl) (pa_cons (pe_bltn (v := .ty "tuple") (u := .type "tuple") (by rfl) G.g_tuple (by decide +kernel) rfl) pa_nil))) pa_nil)))) (pe_one (pe_cmpR (op_eqU (u0 hr)) (pv 0) (pv 1) (nomark _))))))))), fun B ds hp => ?_⟩
    obtain ⟨d, _, rfl, rfl, hd⟩ := p2_ex hp
    show WS K B _ [.val d, .val d, .no, .no, .no] _
    try dsimp only [cxOf, Cx.nox, Cx.blk]
    cases d with
    | lst xs =>
      cases n with
      | zero => exact Bool.noConfusion hd
      | succ n =>
        have hd' : (decide (xs.length ≤ 1000) && xs.all (plain n)) = true := hd
        rw [Bool.and_eq_true, decide_eq_true_eq] at hd'
        obtain ⟨hl, ha⟩ := hd'
        repeat walk_at "dl"
        refine ite2 (fun _ => ?_) (fun h => absurd (decide_eq_true rfl) h)
        repeat walk_at "dl"
        refine we_lcmap (fun _ => .bl true) (wi_range1 ?_)
        repeat walk_at "dl"
        refine ⟨by omega, by omega, ?_, ?_, ?_⟩
        · rw [upto_len]; omega
        · intro d m
          obtain ⟨j, rfl, hj⟩ := upto_mem m
          have hj' : j < xs.length := by omega
          repeat walk_at "dl"
          refine ro_ixsL (atI_nat (List.getElem?_eq_getElem hj')) ?_
          repeat walk_at "dl"
          refine ro_ixsL (atI_nat (List.getElem?_eq_getElem hj')) ?_
          repeat walk_at "dl"
          exact ⟨⟨rfl, n, rfl, List.all_eq_true.mp ha _ (List.getElem_mem hj')⟩, rfl⟩
        · repeat walk_at "dl"
          show D.bl _ = D.bl true
          rw [all_true]
    | tup xs =>
      cases n with
      | zero => exact Bool.noConfusion hd
      | succ n =>
        have hd' : (decide (xs.length ≤ 1000) && xs.all (plain n)) = true := hd
        rw [Bool.and_eq_true, decide_eq_true_eq] at hd'
        obtain ⟨hl, ha⟩ := hd'
        repeat walk_at "dl"
        refine ite2 (fun _ => ?_) (fun h => absurd (decide_eq_true rfl) h)
        repeat walk_at "dl"
        refine we_lcmap (fun _ => .bl true) (wi_range1 ?_)
        repeat walk_at "dl"
        refine ⟨by omega, by omega, ?_, ?_, ?_⟩
        · rw [upto_len]; omega
        · intro d m
          obtain ⟨j, rfl, hj⟩ := upto_mem m
          have hj' : j < xs.length := by omega
          repeat walk_at "dl"
          refine ro_ixsT (atI_nat (List.getElem?_eq_getElem hj')) ?_
          repeat walk_at "dl"
          refine ro_ixsT (atI_nat (List.getElem?_eq_getElem hj')) ?_
          repeat walk_at "dl"
          exact ⟨⟨rfl, n, rfl, List.all_eq_true.mp ha _ (List.getElem_mem hj')⟩, rfl⟩
        · repeat walk_at "dl"
          show D.bl _ = D.bl true
          rw [all_true]
    | cls z => cases n <;> exact Bool.noConfusion hd
    | exn _ _ _ => cases n <;> exact Bool.noConfusion hd
    | box => cases n <;> exact Bool.noConfusion hd
    | dic ks xs =>
      have hd2 : (ks = [] ∧ xs = []) ∨ ∃ k x, ks = [k] ∧ xs = [x] ∧ x.flat = true := by
        match ks, xs, hd with
        | [], [], _ => exact .inl ⟨rfl, rfl⟩
        | [k], [x], hd => exact .inr ⟨k, x, rfl, rfl, by cases n <;> exact hd⟩
        | [], _ :: _, hd => cases n <;> exact Bool.noConfusion hd
        | [_], [], hd => cases n <;> exact Bool.noConfusion hd
        | [_], _ :: _ :: _, hd => cases n <;> exact Bool.noConfusion hd
        | _ :: _ :: _, _, hd => cases n <;> exact Bool.noConfusion hd
      repeat walk_at "dl"
      refine we_lcmap (fun d => .lst [.bl (isBool d), .bl (Dl.isInt d), .bl (isStr d), .bl (isDic d), .bl (isNon d)]) (wi_tup ?_)
      repeat walk_at "dl"
      refine ⟨fun d m => ?_, ?_⟩
      · have hc : d.isCls = false := by
          rcases List.mem_cons.mp m with e | m
          · rw [e]; rfl
          · rw [List.mem_singleton.mp m]; rfl
        repeat walk_at "dl"
        refine ro_isN ?_
        repeat walk_at "dl"
        rfl
      · repeat walk_at "dl"
        refine ro_ixL (d := .lst [.bl _, .bl _, .bl _, .bl _, .bl _]) rfl ?_
        repeat walk_at "dl"
        refine ro_ixL (d := .lst [.bl _, .bl _, .bl _, .bl _, .bl _]) rfl ?_
        refine ro_eq5 ?_
        repeat walk_at "dl"
        exact ro_eqU2 hd2 rfl
    | non =>
      repeat walk_at "dl"
      refine we_lcmap (fun d => .lst [.bl (isBool d), .bl (Dl.isInt d), .bl (isStr d), .bl (isDic d), .bl (isNon d)]) (wi_tup ?_)
      repeat walk_at "dl"
      refine ⟨fun d m => ?_, ?_⟩
      · have hc : d.isCls = false := by
          rcases List.mem_cons.mp m with e | m
          · rw [e]; rfl
          · rw [List.mem_singleton.mp m]; rfl
        repeat walk_at "dl"
        refine ro_isN ?_
        repeat walk_at "dl"
        rfl
      · repeat walk_at "dl"
        refine ro_ixL (d := .lst [.bl _, .bl _, .bl _, .bl _, .bl _]) rfl ?_
        repeat walk_at "dl"
        refine ro_ixL (d := .lst [.bl _, .bl _, .bl _, .bl _, .bl _]) rfl ?_
        refine ro_eq5 ?_
        repeat walk_at "dl"
        refine ro_eqU1 (ro_eq rfl rfl rfl ?_)
        show D.bl _ = D.bl true
        rw [decide_eq_true rfl]
    | bl b =>
      repeat walk_at "dl"
      refine we_lcmap (fun d => .lst [.bl (isBool d), .bl (Dl.isInt d), .bl (isStr d), .bl (isDic d), .bl (isNon d)]) (wi_tup ?_)
      repeat walk_at "dl"
      refine ⟨fun d m => ?_, ?_⟩
      · have hc : d.isCls = false := by
          rcases List.mem_cons.mp m with e | m
          · rw [e]; rfl
          · rw [List.mem_singleton.mp m]; rfl
        repeat walk_at "dl"
        refine ro_isN ?_
        repeat walk_at "dl"
        rfl
      · repeat walk_at "dl"
        refine ro_ixL (d := .lst [.bl _, .bl _, .bl _, .bl _, .bl _]) rfl ?_
        repeat walk_at "dl"
        refine ro_ixL (d := .lst [.bl _, .bl _, .bl _, .bl _, .bl _]) rfl ?_
        refine ro_eq5 ?_
        repeat walk_at "dl"
        refine ro_eqU1 (ro_eq rfl rfl rfl ?_)
        show D.bl _ = D.bl true
        rw [decide_eq_true rfl]
    | int i =>
      repeat walk_at "dl"
      refine we_lcmap (fun d => .lst [.bl (isBool d), .bl (Dl.isInt d), .bl (isStr d), .bl (isDic d), .bl (isNon d)]) (wi_tup ?_)
      repeat walk_at "dl"
      refine ⟨fun d m => ?_, ?_⟩
      · have hc : d.isCls = false := by
          rcases List.mem_cons.mp m with e | m
          · rw [e]; rfl
          · rw [List.mem_singleton.mp m]; rfl
        repeat walk_at "dl"
        refine ro_isN ?_
        repeat walk_at "dl"
        rfl
      · repeat walk_at "dl"
        refine ro_ixL (d := .lst [.bl _, .bl _, .bl _, .bl _, .bl _]) rfl ?_
        repeat walk_at "dl"
        refine ro_ixL (d := .lst [.bl _, .bl _, .bl _, .bl _, .bl _]) rfl ?_
        refine ro_eq5 ?_
        repeat walk_at "dl"
        refine ro_eqU1 (ro_eq rfl rfl rfl ?_)
        show D.bl _ = D.bl true
        rw [decide_eq_true rfl]
    | str z =>
      repeat walk_at "dl"
      refine we_lcmap (fun d => .lst [.bl (isBool d), .bl (Dl.isInt d), .bl (isStr d), .bl (isDic d), .bl (isNon d)]) (wi_tup ?_)
      repeat walk_at "dl"
      refine ⟨fun d m => ?_, ?_⟩
      · have hc : d.isCls = false := by
          rcases List.mem_cons.mp m with e | m
          · rw [e]; rfl
          · rw [List.mem_singleton.mp m]; rfl
        repeat walk_at "dl"
        refine ro_isN ?_
        repeat walk_at "dl"
        rfl
      · repeat walk_at "dl"
        refine ro_ixL (d := .lst [.bl _, .bl _, .bl _, .bl _, .bl _]) rfl ?_
        repeat walk_at "dl"
        refine ro_ixL (d := .lst [.bl _, .bl _, .bl _, .bl _, .bl _]) rfl ?_
        refine ro_eq5 ?_
        repeat walk_at "dl"
        refine ro_eqU1 (ro_eq rfl rfl rfl ?_)
        show D.bl _ = D.bl true
        rw [decide_eq_true rfl]
theorem ok__law_same {k : Nat} (G : Gn mg) (F : Df K mg "_law_same" s__law_same) : ∀ n : Nat, ClS P w K mg base (k + n + 1) n := by
  intro n
  induction n with
  | zero =>
    refine same_body (k := k) G F ?_
    obtain ⟨f, fd, F, hm⟩ := F.ex
    have no : ∀ vs H Q E, ¬ SpD K (p2 fun a b => a = b ∧ ∃ m, 0 = m + 1 ∧ plain m a = true) (fun ds r => r = (fun _ => D.bl true) ds) vs H Q E := by
      rintro vs H Q E ⟨B, G1, ds, o, hs, hp, q⟩
      obtain ⟨a, b, rfl, e, m', hm, hpl⟩ := p2_ex hp
      exact absurd hm (by omega)
    exact ⟨f, fd, F, ⟨fun vs H Q E h => (no vs H Q E h).elim, fun A outer s H args us vs Q E _ _ _ _ h => (no vs H Q E h).elim⟩, hm, F.binds fun _ _ _ _ _ _ us hl => match us, hl with | [_, _], _ => rfl⟩
  | succ m ih =>
    refine same_body (k := k + m + 1) G F (ih.imp fun vs H Q E h => ?_)
    obtain ⟨B, G1, ds, o, hs, hp, q⟩ := h
    refine ⟨B, G1, ds, o, hs, ?_, q⟩
    obtain ⟨a, b, rfl, e, m', hm, hpl⟩ := p2_ex hp
    cases hm
    exact ⟨e, hpl⟩
/-! ### dicts as displays -/
theorem nt_dK {kvs : List (Key × V)} : nt (.dK kvs) := fun _ z => nomatch z
theorem we_dnew {B : Bt} {δ : List Sd} {Pp : D → Prop} (p : Pp (.dic [] [])) : WE K B tDNewK δ Pp := fun _ _ _ G H Q s _ q a ha => q.new s.ok nt_dK ha (.dic (kvs := []) upd_same .nil) p
theorem we_disp1 {B : Bt} {δ : List Sd} {Pp : D → Prop} {z : Str} {i : Int} (p : Pp (.dic [.inr z] [.int i])) : WE K B (tDisp [(tC (.str z), tC (.int i))]) δ Pp := fun _ _ _ G H Q s _ q a ha => by
  refine ⟨upd_same, [(.inr z, .int i)], rfl, Nat.le_of_ble_eq_true rfl, ?_⟩
  have e : mergeK [] [((Sum.inr z : Key), V.int i)] = [(.inr z, .int i)] := rfl
  rw [e, upd_upd]
  exact q.new s.ok nt_dK ha (.dic (kvs := [(.inr z, .int i)]) upd_same (.cons (.int i) .nil)) p
/-! ### _law_box -/
abbrev s__law_box : Stmt := topS 13
abbrev N__law_box : List Str := ["_law_script", "_law_own", "_law_mixed_here", "_law_cell"]
theorem sc__law_box : FnScope N__law_box ["_law_script", "_law_own"] (defScope s__law_box) := ⟨rfl, rfl, rfl, by decide +kernel, rfl, by decide +kernel, by decide +kernel⟩
def spBox (K : PySem.W.Frag) : Sp := fun vs H Q _ => ∃ (a : Addr) (ns : List Int) (own : Int), vs = [.ref a, .int own] ∧ SqL K H a (ns.map V.int) ∧ ns.length ≤ 63 ∧ 0 ≤ own ∧ own < 2147483587 ∧ ∃ T, LamX.Tabs T H ∧ ∀ B G H', B.T = T → Same H H' → Ok B G H' → Q (.ref B.a) H'
theorem cut63 {ns : List Int} (h : ns.length ≤ 63) : cutV (ns.map V.int) none (some 63) = ns.map V.int := by
  unfold cutV
  rw [HT.sIx_none]
  have e : HT.sIx (ns.map V.int).length (ns.map V.int).length (some 63) = (ns.map V.int).length := by
    rw [show HT.sIx (ns.map V.int).length (ns.map V.int).length (some 63) = min 63 (ns.map V.int).length from HT.sIx_nat _ _ 63, List.length_map]
    omega
  rw [e, List.drop_zero, Nat.sub_zero]
  exact List.take_length
theorem ok__law_box {f : Addr} {fd : FuncData} {k : Nat} (G : Gn mg) (F : Fun K "_law_box" "_law_box" s__law_box f fd) : FnOk P w K mg base CX0 (k + 1) f fd ["_law_script", "_law_own"] (spBox K) := by
  refine F.ok sc__law_box (fun vs H Q E h => ?_) (fun cdv A outer s H vs Q E hr h => ?_)
  · obtain ⟨a, ns, own, rfl, _⟩ := h
    rfl
  · obtain ⟨a, ns, own, rfl, hS, hl, h0, h1, T, hT, q⟩ := h
    refine ⟨_, (pss_cons (ps_set (i := 2) sc__law_box.nd rfl (Or.inl rfl) (pv 1))
      (pss_cons (ps_for PassesOwn.never rfl (pi_list (pe_slice sl_list (pv 0) po_none (po_some pe_int))) (pg_name (i := 3) sc__law_box.nd rfl (Or.inl rfl)) (pss_one (ps_set (i := 2) sc__law_box.nd rfl (Or.inl rfl) (pe_op op_modN (pe_callTy call_int1 (by rfl) G.g_int (by decide +kernel) (pa_cons (pe_op op_add (pe_op op_add (pe_op op_mul (pv 2) pe_int) (pe_op op_modN (pe_callTy call_int1 (by rfl) G.g_int (by decide +kernel) (pa_cons (pv 3) pa_nil)) pe_int)) pe_int) pa_nil)) pe_int))))
      (pss_one (ps_ret (pe_lst (pa_cons (pe_lc (own := [("_law_cell", 3)]) (g := gName 3) (tt := tYes) rfl sc__law_box.nd (pi_list (pe_slice sl_list (pv 0) po_none (po_some pe_int))) (blkOk_by (N := N__law_box) (sc := defScope s__law_box) (by decide +kernel)) (fun _ _ _ _ _ => pg_name (i := 3) sc__law_box.nd rfl (Or.inl rfl)) (fun _ _ _ _ _ => pts_nil) (fun _ _ _ _ _ => (pe_callTy call_int1 (by rfl) G.g_int (by decide +kernel) (pa_cons (pv 3) pa_nil)))) (pa_cons pe_int (pa_cons pe_int (pa_cons (pv 2) (pa_cons pe_int pa_nil)))))))))), ?_⟩
    -- mixed = own
    refine ⟨_, rfl, ?_⟩
    -- the loop over script[:63]
    refine ⟨_, rfl, _, rfl, a, _, rfl, hS, fun p np => ?_⟩
    refine ⟨p, rfl, ⟨_, SqL.of upd_same⟩, ?_⟩
    rw [cut63 hl]
    have s1 : Same H (upd H p (.lst (ns.map V.int))) := same_upd np
    refine for_list (xs := ns.map V.int) (fun i σ H1 => ∃ (m : Int) (y : Option V), σ = [some (.ref a), some (.int own), some (.int m), y] ∧ 0 ≤ m ∧ m < 2147483587 ∧ H1 = upd H p (.lst (ns.map V.int))) ⟨own, none, rfl, h0, h1, rfl⟩ ?_ ?_ ?_
    · rintro i σ H1 _ ⟨m, y, rfl, hm, hm2, rfl⟩
      exact SqL.of upd_same
    · rintro i x σ H1 hx ⟨m, y, rfl, hm, hm2, rfl⟩
      obtain ⟨u, rfl⟩ : ∃ u, x = V.int u := by
        rw [List.getElem?_map] at hx
        cases e : ns[i]? with
        | none => rw [e] at hx; cases hx
        | some u => rw [e] at hx; exact ⟨u, (Option.some.inj hx).symm⟩
      refine ⟨_, rfl, _, _, rfl, rfl, .inr ⟨by decide, by decide⟩, _, rfl, .inl ⟨_, rfl, _, _, rfl, rfl, (by intro z; exact absurd z (by decide)), _, _, rfl, rfl, _, _, rfl, rfl, .inl ⟨_, rfl, _, _, rfl, rfl, (by intro z; exact absurd z (by decide)), ?_⟩⟩⟩
      have fm := fm0 (i := m * 40503 + u.fmod 2147483423 + 11) (n := 2147483587) (by decide)
      exact ⟨_, _, rfl, fm.1, fm.2, rfl⟩
    · rintro σ H1 ⟨m, y, rfl, hm, hm2, rfl⟩
      -- [int(cell) for cell in script[:63]]
      refine ⟨_, rfl, _, rfl, a, _, rfl, s1.seq hS, fun p2 np2 => ?_⟩
      rw [cut63 hl]
      have s2 : Same (upd H p (.lst (ns.map V.int))) (upd (upd H p (.lst (ns.map V.int))) p2 (.lst (ns.map V.int))) := same_upd np2
      generalize hH2 : upd (upd H p (.lst (ns.map V.int))) p2 (.lst (ns.map V.int)) = H2 at s2
      have hp2 : H2 p2 = some (.lst (ns.map V.int)) := by rw [← hH2, upd_same]
      refine ⟨p2, rfl, ⟨_, SqL.of hp2⟩, fun c nc => ?_⟩
      have ne2 : p2 ≠ c := ne_of_none hp2 nc
      refine lc_list (K := K) (a := p2) (xs := ns.map V.int) (fun i H3 => H3 = upd H2 c (.lst ((ns.take i).map V.int))) rfl ?_ ?_ ?_
      · rintro i H3 _ rfl
        exact SqL.of (by rw [upd_ne ne2]; exact hp2)
      · rintro i x H3 hx rfl
        obtain ⟨u, rfl, eu⟩ : ∃ u, x = V.int u ∧ ns[i]? = some u := by
          rw [List.getElem?_map] at hx
          cases e : ns[i]? with
          | none => rw [e] at hx; cases hx
          | some u => rw [e] at hx; exact ⟨u, (Option.some.inj hx).symm, rfl⟩
        refine ⟨rfl, ?_⟩
        dsimp only [tYes]
        rw [if_pos rfl]
        refine ⟨_, rfl, .inl ⟨_, rfl, _, upd_same, ?_, ?_⟩⟩
        · rw [List.length_map, List.length_take]
          exact Nat.lt_of_le_of_lt (by omega : min i ns.length ≤ 1000) (by decide)
        · rw [upd_upd, List.take_add_one, eu, List.map_append]
          rfl
      · rintro H3 rfl
        -- the list of the box
        refine ⟨_, rfl, by show 5 ≤ sizeLine; decide, fun B nB => ?_⟩
        have et : ns.take (ns.map V.int).length = ns := by rw [List.length_map]; exact List.take_length
        rw [et] at nB ⊢
        have hc : (upd H2 c (.lst (ns.map V.int))) c = some (.lst (ns.map V.int)) := upd_same
        have s3 : Same H2 (upd H2 c (.lst (ns.map V.int))) := same_upd nc
        have s4 : Same (upd H2 c (.lst (ns.map V.int))) (upd (upd H2 c (.lst (ns.map V.int))) B (.lst [.ref c, .int 0, .int 0, .int m, .int 0])) := same_upd nB
        have neB : c ≠ B := ne_of_none hc nB
        have s5 := ((s1.trans s2).trans s3).trans s4
        refine q ⟨B, T⟩ (fun x => if x = c then some (.lst (ns.map V.int)) else none) _ rfl s5 ⟨fun x o e => ?_, ?_, ⟨c, ns, 0, 0, m, 0, upd_same, ?_, hl, Int.le_refl 0, Int.le_refl 0, hm, hm2, Int.le_refl 0⟩, hT.ext fun b o e => s5 b o e, fun x o e => ?_⟩
        · by_cases ex : x = c
          · subst ex
            rw [if_pos rfl] at e
            exact s4 _ _ (e ▸ hc)
          · rw [if_neg ex] at e
            cases e
        · show (if B = c then _ else none) = none
          rw [if_neg (Ne.symm neB)]
        · show (if c = c then _ else none) = _
          rw [if_pos rfl]
        · have e' : (if x = c then some (HO.lst (ns.map V.int)) else none) = some o := e
          by_cases ex : x = c
          · rw [if_pos ex] at e'; cases e'; exact nt_lst
          · rw [if_neg ex] at e'; cases e'
end
/-! #### Xb -/
section
variable {P : Program} {w : World} {K : PySem.W.Frag} {mg : Str → Option Value} {base : Heap}
/-! ### par1 -/
/-! ### products of pairs -/
def crs (p q : Pr2) : Int := p.1 * q.2 - p.2 * q.1
def mns (p q : Pr2) : Pr2 := (p.1 - q.1, p.2 - q.2)
def trn (a b c : Pr2) : Int := crs (mns b a) (mns c a)
/-- a pair of numbers up to n -/
def Upto (n : Int) (p : Pr2) : Prop := -n ≤ p.1 ∧ p.1 ≤ n ∧ -n ≤ p.2 ∧ p.2 ≤ n
theorem pairD_inj {p q : Pr2} (h : pairD p = pairD q) : p = q := by
  have h1 := D.tup.inj h
  exact Prod.ext (D.int.inj (List.cons.inj h1).1) (D.int.inj (List.cons.inj (List.cons.inj h1).2).1)
theorem ix0 {p : Pr2} {K : PySem.W.Frag} {B : Bt} {Q : D → Prop} (h : Q (.int p.1)) : RO K B (rIxT K) (pairD p) (.int 0) Q := ro_ixT (d := .int p.1) rfl h
theorem ix1 {p : Pr2} {K : PySem.W.Frag} {B : Bt} {Q : D → Prop} (h : Q (.int p.2)) : RO K B (rIxT K) (pairD p) (.int 1) Q := ro_ixT (d := .int p.2) rfl h
abbrev s_cross : Stmt := topS 1
abbrev N_cross : List Str := ["one", "other"]
theorem sc_cross : FnScope N_cross ["one", "other"] (defScope s_cross) := ⟨rfl, rfl, rfl, by decide +kernel, rfl, by decide +kernel, by decide +kernel⟩
abbrev ClCr (P : Program) (w : World) (K : PySem.W.Frag) (mg : Str → Option Value) (base : Heap) (k : Nat) := Cl P w K mg base k "cross" s_cross ["one", "other"] (SpD K (p2 fun a b => ∃ p q : Pr2, a = pairD p ∧ b = pairD q ∧ Upto 100000000 p ∧ Upto 100000000 q) fun ds r => ∃ p q : Pr2, ds = [pairD p, pairD q] ∧ r = .int (crs p q))
theorem ok_cross {k : Nat} (F : Df K mg "cross" s_cross) : ClCr P w K mg base (k + 1) := by
  refine cl_of F sc_cross (fun _ _ _ _ _ _ us hl => match us, hl with | [_, _], _ => rfl) p2_len fun f cdv A outer s H E hr => ⟨_, (pss_one (ps_ret (pe_op op_sub (pe_op op_mul (pe_ix (show IxR _ (rIxT K) from ix_tup) (pv 0) pe_int (fun _ _ => rfl)) (pe_ix (show IxR _ (rIxT K) from ix_tup) (pv 1) pe_int (fun _ _ => rfl))) (pe_op op_mul (pe_ix (show IxR _ (rIxT K) from ix_tup) (pv 0) pe_int (fun _ _ => rfl)) (pe_ix (show IxR _ (rIxT K) from ix_tup) (pv 1) pe_int (fun _ _ => rfl)))))), fun B ds hp => ?_⟩
  obtain ⟨_, _, rfl, p, q, rfl, rfl, ⟨h1, h2, h3, h4⟩, ⟨h5, h6, h7, h8⟩⟩ := p2_ex hp
  show WS K B _ [.val (pairD p), .val (pairD q)] _
  try dsimp only [cxOf, Cx.nox, Cx.blk]
  repeat walk_at "dl"
  refine ix0 ?_
  repeat walk_at "dl"
  refine ix1 ?_
  refine ro_int (.inl ⟨by omega, by omega⟩) ?_
  repeat walk_at "dl"
  refine ix1 ?_
  repeat walk_at "dl"
  refine ix0 ?_
  refine ro_int (.inl ⟨by omega, by omega⟩) ?_
  repeat walk_at "dl"
  first | rfl | exact ⟨p, q, rfl, rfl⟩
abbrev s_minus : Stmt := topS 3
abbrev N_minus : List Str := ["point", "other"]
theorem sc_minus : FnScope N_minus ["point", "other"] (defScope s_minus) := ⟨rfl, rfl, rfl, by decide +kernel, rfl, by decide +kernel, by decide +kernel⟩
abbrev ClMi (P : Program) (w : World) (K : PySem.W.Frag) (mg : Str → Option Value) (base : Heap) (k : Nat) := Cl P w K mg base k "minus" s_minus ["point", "other"] (SpD K (p2 fun a b => ∃ p q : Pr2, a = pairD p ∧ b = pairD q) fun ds r => ∃ p q : Pr2, ds = [pairD p, pairD q] ∧ r = pairD (mns p q))
theorem ok_minus {k : Nat} (F : Df K mg "minus" s_minus) : ClMi P w K mg base (k + 1) := by
  refine cl_of F sc_minus (fun _ _ _ _ _ _ us hl => match us, hl with | [_, _], _ => rfl) p2_len fun f cdv A outer s H E hr => ⟨_, (pss_one (ps_ret (pe_tupZ (pa_cons (pe_op op_sub (pe_ix (show IxR _ (rIxT K) from ix_tup) (pv 0) pe_int (fun _ _ => rfl)) (pe_ix (show IxR _ (rIxT K) from ix_tup) (pv 1) pe_int (fun _ _ => rfl))) (pa_cons (pe_op op_sub (pe_ix (show IxR _ (rIxT K) from ix_tup) (pv 0) pe_int (fun _ _ => rfl)) (pe_ix (show IxR _ (rIxT K) from ix_tup) (pv 1) pe_int (fun _ _ => rfl))) pa_nil))))), fun B ds hp => ?_⟩
  obtain ⟨_, _, rfl, p, q, rfl, rfl⟩ := p2_ex hp
  show WS K B _ [.val (pairD p), .val (pairD q)] _
  try dsimp only [cxOf, Cx.nox, Cx.blk]
  repeat walk_at "dl"
  refine ix0 ?_
  repeat walk_at "dl"
  refine ix0 ?_
  repeat walk_at "dl"
  refine ix1 ?_
  repeat walk_at "dl"
  refine ix1 ?_
  repeat walk_at "dl"
  first | rfl | exact ⟨p, q, rfl, rfl⟩
abbrev s_bend : Stmt := topS 5
abbrev N_bend : List Str := ["start", "stop", "point"]
theorem sc_bend : FnScope N_bend ["start", "stop", "point"] (defScope s_bend) := ⟨rfl, rfl, rfl, by decide +kernel, rfl, by decide +kernel, by decide +kernel⟩
abbrev Tri (n : Int) (a b c : D) : Prop := ∃ p q r : Pr2, a = pairD p ∧ b = pairD q ∧ c = pairD r ∧ Upto n p ∧ Upto n q ∧ Upto n r
abbrev ClBn (P : Program) (w : World) (K : PySem.W.Frag) (mg : Str → Option Value) (base : Heap) (k : Nat) := Cl P w K mg base k "bend" s_bend ["start", "stop", "point"] (SpD K (p3 (Tri 10000000)) fun ds r => ∃ p q z : Pr2, ds = [pairD p, pairD q, pairD z] ∧ r = .int (trn p q z))
theorem upto_mns {n : Int} {p q : Pr2} (h : Upto n p) (h' : Upto n q) : Upto (2 * n) (mns p q) := by
  unfold Upto mns at *
  dsimp only
  omega
theorem upto_le {n m : Int} {p : Pr2} (h : Upto n p) (l : n ≤ m) : Upto m p := by
  unfold Upto at *
  omega
theorem ok_bend {k : Nat} (F : Df K mg "bend" s_bend) (C_cross : ClCr P w K mg base k) (C_minus : ClMi P w K mg base k) : ClBn P w K mg base (k + 1) := by
  refine cl_of F sc_bend (fun _ _ _ _ _ _ us hl => match us, hl with | [_, _, _], _ => rfl) p3_len fun f cdv A outer s H E hr => ⟨_, (pss_one (ps_ret (pe_c C_cross hr (by omega) (by rfl) (pa_cons (pe_c C_minus hr (by omega) (by rfl) (pa_cons (pv 1) (pa_cons (pv 0) pa_nil))) (pa_cons (pe_c C_minus hr (by omega) (by rfl) (pa_cons (pv 2) (pa_cons (pv 0) pa_nil))) pa_nil))))), fun B ds hp => ?_⟩
  obtain ⟨_, _, _, rfl, p, q, z, rfl, rfl, rfl, hp1, hq1, hz1⟩ := p3_ex hp
  show WS K B _ [.val (pairD p), .val (pairD q), .val (pairD z)] _
  try dsimp only [cxOf, Cx.nox, Cx.blk]
  repeat walk_at "dl"
  refine ⟨⟨q, p, rfl, rfl⟩, ?_⟩
  rintro _ ⟨q', p', e, rfl⟩
  have e1 := pairD_inj (List.cons.inj e).1
  have e2 := pairD_inj (List.cons.inj (List.cons.inj e).2).1
  subst e1 e2
  repeat walk_at "dl"
  refine ⟨⟨z, p, rfl, rfl⟩, ?_⟩
  rintro _ ⟨z', p', e, rfl⟩
  have e1 := pairD_inj (List.cons.inj e).1
  have e2 := pairD_inj (List.cons.inj (List.cons.inj e).2).1
  subst e1 e2
  repeat walk_at "dl"
  refine ⟨⟨mns q p, mns z p, rfl, rfl, upto_le (upto_mns hq1 hp1) (by decide), upto_le (upto_mns hz1 hp1) (by decide)⟩, ?_⟩
  rintro _ ⟨a', b', e, rfl⟩
  have e1 := pairD_inj (List.cons.inj e).1
  have e2 := pairD_inj (List.cons.inj (List.cons.inj e).2).1
  subst e1 e2
  exact ⟨p, q, z, rfl, rfl⟩
abbrev s__law_turn : Stmt := topS 19
abbrev N__law_turn : List Str := ["_law_a", "_law_b", "_law_c"]
theorem sc__law_turn : FnScope N__law_turn ["_law_a", "_law_b", "_law_c"] (defScope s__law_turn) := ⟨rfl, rfl, rfl, by decide +kernel, rfl, by decide +kernel, by decide +kernel⟩
abbrev ClTu (P : Program) (w : World) (K : PySem.W.Frag) (mg : Str → Option Value) (base : Heap) (k : Nat) := Cl P w K mg base k "_law_turn" s__law_turn ["_law_a", "_law_b", "_law_c"] (SpD K (p3 (Tri 10000000)) fun ds r => ∃ p q z : Pr2, ds = [pairD p, pairD q, pairD z] ∧ r = .int (trn p q z))
theorem ok__law_turn {k : Nat} (F : Df K mg "_law_turn" s__law_turn) : ClTu P w K mg base (k + 1) := by
  refine cl_of F sc__law_turn (fun _ _ _ _ _ _ us hl => match us, hl with | [_, _, _], _ => rfl) p3_len fun f cdv A outer s H E hr => ⟨_, (pss_one (ps_ret (pe_op op_sub (pe_op op_mul (pe_op op_sub (pe_ix (show IxR _ (rIxT K) from ix_tup) (pv 1) pe_int (fun _ _ => rfl)) (pe_ix (show IxR _ (rIxT K) from ix_tup) (pv 0) pe_int (fun _ _ => rfl))) (pe_op op_sub (pe_ix (show IxR _ (rIxT K) from ix_tup) (pv 2) pe_int (fun _ _ => rfl)) (pe_ix (show IxR _ (rIxT K) from ix_tup) (pv 0) pe_int (fun _ _ => rfl)))) (pe_op op_mul (pe_op op_sub (pe_ix (show IxR _ (rIxT K) from ix_tup) (pv 1) pe_int (fun _ _ => rfl)) (pe_ix (show IxR _ (rIxT K) from ix_tup) (pv 0) pe_int (fun _ _ => rfl))) (pe_op op_sub (pe_ix (show IxR _ (rIxT K) from ix_tup) (pv 2) pe_int (fun _ _ => rfl)) (pe_ix (show IxR _ (rIxT K) from ix_tup) (pv 0) pe_int (fun _ _ => rfl))))))), fun B ds hp => ?_⟩
  obtain ⟨_, _, _, rfl, p, q, z, rfl, rfl, rfl, ⟨h1, h2, h3, h4⟩, ⟨h5, h6, h7, h8⟩, ⟨h9, h10, h11, h12⟩⟩ := p3_ex hp
  show WS K B _ [.val (pairD p), .val (pairD q), .val (pairD z)] _
  try dsimp only [cxOf, Cx.nox, Cx.blk]
  repeat walk_at "dl"
  refine ix0 ?_
  repeat walk_at "dl"
  refine ix0 ?_
  repeat walk_at "dl"
  refine ix1 ?_
  repeat walk_at "dl"
  refine ix1 ?_
  repeat walk_at "dl"
  refine ro_int (.inl ⟨by omega, by omega⟩) ?_
  repeat walk_at "dl"
  refine ix1 ?_
  repeat walk_at "dl"
  refine ix1 ?_
  repeat walk_at "dl"
  refine ix0 ?_
  repeat walk_at "dl"
  refine ix0 ?_
  repeat walk_at "dl"
  refine ro_int (.inl ⟨by omega, by omega⟩) ?_
  repeat walk_at "dl"
  exact ⟨p, q, z, rfl, rfl⟩

end
/-! #### Xc -/
section
variable {P : Program} {w : World} {K : PySem.W.Frag} {mg : Str → Option Value} {base : Heap}
/-! ### par3 -/
def edg (ps : List Pr2) : List (Pr2 × Pr2) := (List.range ps.length).map fun k => (ps.getD k (0, 0), ps.getD ((k + 1) % ps.length) (0, 0))
def edgD (e : Pr2 × Pr2) : D := .tup [Dl.pairD e.1, Dl.pairD e.2]
theorem atI_map {ps : List Pr2} {k : Nat} (h : k < ps.length) : atI (ps.map Dl.pairD) (k : Int) = some (Dl.pairD (ps.getD k (0, 0))) := by
  unfold atI ixN
  rw [List.length_map, if_pos (by omega), if_pos (by omega)]
  show (ps.map Dl.pairD)[k]? = _
  rw [List.getElem?_map, List.getElem?_eq_getElem h, List.getD_eq_getElem?_getD, List.getElem?_eq_getElem h]
  rfl
theorem upto_at {m n : Nat} {d : D} (h : (upto 0 (m : Int).toNat)[n]? = some d) : n < m ∧ d = .int (n : Int) := by
  rw [Int.toNat_natCast] at h
  have hn : n < m := by
    have := (List.getElem?_eq_some_iff.mp h).1
    rw [upto_len] at this
    exact this
  unfold upto at h
  rw [List.getElem?_map, List.getElem?_range hn] at h
  refine ⟨hn, ?_⟩
  have e := Option.some.inj h
  rw [← e]
  show D.int (0 + (n : Int)) = _
  rw [Int.zero_add]
def polyPre (n : Nat) : List D → Prop := p1 fun d => ∃ ps : List Pr2, d = .tup (ps.map Dl.pairD) ∧ ps.length ≤ n
abbrev s__law_edges : Stmt := topS 22
abbrev N__law_edges : List Str := ["_law_poly", "_law_k"]
theorem sc__law_edges : FnScope N__law_edges ["_law_poly"] (defScope s__law_edges) := ⟨rfl, rfl, rfl, by decide +kernel, rfl, by decide +kernel, by decide +kernel⟩
abbrev ClEg (P : Program) (w : World) (K : PySem.W.Frag) (mg : Str → Option Value) (base : Heap) (k : Nat) := Cl P w K mg base k "_law_edges" s__law_edges ["_law_poly"] (SpD K (polyPre 100) fun ds r => ∃ ps : List Pr2, ds = [.tup (ps.map Dl.pairD)] ∧ r = .lst ((edg ps).map edgD))
theorem ok__law_edges {k : Nat} (G : Gn mg) (F : Df K mg "_law_edges" s__law_edges) : ClEg P w K mg base (k + 1) := by
  refine cl_of F sc__law_edges (fun _ _ _ _ _ _ us hl => match us, hl with | [_], _ => rfl) p1_len fun f cdv A outer s H E hr => ⟨_, (pss_one (ps_ret (pe_lc (own := [("_law_k", 1)]) (g := gName 1) (tt := tYes) rfl sc__law_edges.nd (pi_range1 rfl G.g_range (pa_cons (pe_callB (show CallR _ (.builtin "len") (fun xs H Q => ∃ x n, xs = [x] ∧ LenV K x H n ∧ Q (.int n) H) from call_len) (by rfl) G.g_len (by decide +kernel) (pa_cons (pv 0) pa_nil)) pa_nil)) (blkOk_by (N := N__law_edges) (sc := defScope s__law_edges) (by decide +kernel)) (fun _ _ _ _ _ => pg_name (i := 1) sc__law_edges.nd rfl (Or.inl rfl)) (fun _ _ _ _ _ => pts_nil) (fun _ _ _ _ _ => (pe_tupZ (pa_cons (pe_ix (show IxR _ (rIxT K) from ix_tup) (pv 0) (pv 1) (fun _ _ => rfl)) (pa_cons (pe_ix (show IxR _ (rIxT K) from ix_tup) (pv 0) (pe_op op_modN (pe_callTy call_int1 (by rfl) G.g_int (by decide +kernel) (pa_cons (pe_op op_add (pv 1) pe_int) pa_nil)) (pe_callB (show CallR _ (.builtin "len") (fun xs H Q => ∃ x n, xs = [x] ∧ LenV K x H n ∧ Q (.int n) H) from call_len) (by rfl) G.g_len (by decide +kernel) (pa_cons (pv 0) pa_nil))) (fun _ _ => rfl)) pa_nil))))))), fun B ds hp => ?_⟩
  obtain ⟨_, rfl, ps, rfl, hl⟩ := p1_ex hp
  show WS K B _ [.val (.tup (ps.map Dl.pairD)), .no] _
  try dsimp only [cxOf, Cx.nox, Cx.blk]
  refine ws_ret (we_lc (wi_range1 (wa_cons (we_cb (wa_cons (we_var rfl (wa_nil (rc_len (n := ps.length) (by show some (ps.map Dl.pairD).length = _; rw [List.length_map]) (by omega) (wa_nil ⟨_, rfl, by omega, by omega, by rw [upto_len]; omega, fun n acc => acc = ((edg ps).take n).map edgD, rfl, ?_, ?_⟩)))))))))
  · rintro n d acc hd hacc
    have hacc' : acc = ((edg ps).take n).map edgD := hacc
    obtain ⟨hn, rfl⟩ := upto_at hd
    try dsimp only [List.set]
    refine wt_yes ?_
    rw [if_pos rfl]
    refine we_tup (wa_cons (we_op (we_var rfl (we_var rfl (ro_ixT (atI_map hn) ?_)))))
    refine wa_cons (we_op (we_var rfl ?_))
    refine we_op (we_cb (wa_cons (we_op (we_var rfl (we_int (ro_int0 (wa_nil (rc_int1 ?_))))))))
    refine we_cb (wa_cons (we_var rfl (wa_nil (rc_len (n := ps.length) (by show some (ps.map Dl.pairD).length = _; rw [List.length_map]) (by omega) ?_))))
    refine ro_int (by intro z; omega) ?_
    have em : ((n : Int) + 1).fmod (ps.length : Int) = (((n + 1) % ps.length : Nat) : Int) := by
      rw [Int.fmod_eq_emod_of_nonneg _ (by omega)]
      push_cast
      rfl
    rw [em]
    refine ro_ixT (atI_map (Nat.mod_lt _ (by omega))) (wa_nil ⟨by show 2 ≤ 1000; decide, ?_⟩)
    show acc ++ [edgD (ps.getD n (0, 0), ps.getD ((n + 1) % ps.length) (0, 0))] = ((edg ps).take (n + 1)).map edgD
    have hg : (edg ps)[n]? = some (ps.getD n (0, 0), ps.getD ((n + 1) % ps.length) (0, 0)) := by
      unfold edg
      rw [List.getElem?_map, List.getElem?_range hn]
      rfl
    rw [hacc', List.take_add_one, hg, List.map_append]
    rfl
  · rintro acc hacc
    have hacc' : acc = ((edg ps).take (upto 0 (ps.length : Int).toNat).length).map edgD := hacc
    rw [upto_len, Int.toNat_natCast] at hacc'
    refine ⟨ps, rfl, ?_⟩
    rw [hacc', List.take_of_length_le]
    unfold edg
    rw [List.length_map, List.length_range]
    exact Nat.le_refl _

/-! ### par4 -/
theorem edg_mem {ps : List Pr2} {e : Pr2 × Pr2} (h : e ∈ edg ps) : e.1 ∈ ps ∧ e.2 ∈ ps := by
  unfold edg at h
  obtain ⟨k, hk, rfl⟩ := List.mem_map.mp h
  have hk' := List.mem_range.mp hk
  have hm : (k + 1) % ps.length < ps.length := Nat.mod_lt _ (by omega)
  constructor
  · show ps.getD k (0, 0) ∈ ps
    rw [List.getD_eq_getElem?_getD, List.getElem?_eq_getElem hk']
    exact List.getElem_mem hk'
  · show ps.getD ((k + 1) % ps.length) (0, 0) ∈ ps
    rw [List.getD_eq_getElem?_getD, List.getElem?_eq_getElem hm]
    exact List.getElem_mem hm
theorem edg_len {ps : List Pr2} : (edg ps).length = ps.length := by unfold edg; rw [List.length_map, List.length_range]

/-! ### par5 -/
/-- tuple(xs) of a new list -/
theorem rc_tupZ {ds : List D} {K : PySem.W.Frag} {B : Bt} {Q : D → Prop} (p : Q (.tup ds)) : RC K B (zOf K) [.lst ds] Q := fun G H vs R o hs q => by
  cases hs with
  | cons h t =>
    cases t
    cases h with
    | lst hg t => exact ⟨_, _, rfl, .inl ⟨SqL.of (o.u _ _ hg), fun l ob hl hd => q.new o nt_tup hl (.tup ⟨upd_same, hd⟩ (t.mono (same_upd (o.fresh hl)))) p⟩⟩
def sentP (x y : Int) (p : Pr2) : Pr2 := (p.1 + x, p.2 + y)
abbrev s__law_sent : Stmt := topS 27
abbrev N__law_sent : List Str := ["_law_poly", "_law_x", "_law_y", "_law_c"]
theorem sc__law_sent : FnScope N__law_sent ["_law_poly", "_law_x", "_law_y"] (defScope s__law_sent) := ⟨rfl, rfl, rfl, by decide +kernel, rfl, by decide +kernel, by decide +kernel⟩
abbrev ClSe (P : Program) (w : World) (K : PySem.W.Frag) (mg : Str → Option Value) (base : Heap) (k : Nat) := Cl P w K mg base k "_law_sent" s__law_sent ["_law_poly", "_law_x", "_law_y"] (SpD K (p3 fun d x y => ∃ (ps : List Pr2) (i j : Int), d = .tup (ps.map Dl.pairD) ∧ x = .int i ∧ y = .int j ∧ ps.length ≤ 100) fun ds r => ∃ (ps : List Pr2) (i j : Int), ds = [.tup (ps.map Dl.pairD), .int i, .int j] ∧ r = .tup ((ps.map (sentP i j)).map Dl.pairD))
theorem ok__law_sent {k : Nat} (G : Gn mg) (F : Df K mg "_law_sent" s__law_sent) : ClSe P w K mg base (k + 1) := by
  refine cl_of F sc__law_sent (fun _ _ _ _ _ _ us hl => match us, hl with | [_, _, _], _ => rfl) p3_len fun f cdv A outer s H E hr => ⟨_, (pss_one (ps_ret (pe_callTy (show CallR _ (.type "tuple") (zOf K) from call_tupZ) (by rfl) G.g_tuple (by decide +kernel) (pa_cons (pe_lc (own := [("_law_c", 3)]) (g := gName 3) (tt := tYes) rfl sc__law_sent.nd (pi_tup (pv 0)) (blkOk_by (N := N__law_sent) (sc := defScope s__law_sent) (by decide +kernel)) (fun _ _ _ _ _ => pg_name (i := 3) sc__law_sent.nd rfl (Or.inl rfl)) (fun _ _ _ _ _ => pts_nil) (fun _ _ _ _ _ => (pe_tupZ (pa_cons (pe_op op_add (pe_ix (show IxR _ (rIxT K) from ix_tup) (pv 3) pe_int (fun _ _ => rfl)) (pv 1)) (pa_cons (pe_op op_add (pe_ix (show IxR _ (rIxT K) from ix_tup) (pv 3) pe_int (fun _ _ => rfl)) (pv 2)) pa_nil))))) pa_nil)))), fun B ds hp => ?_⟩
  obtain ⟨_, _, _, rfl, ps, i, j, rfl, rfl, rfl, hl⟩ := p3_ex hp
  show WS K B _ [.val (.tup (ps.map Dl.pairD)), .val (.int i), .val (.int j), .no] _
  try dsimp only [cxOf, Cx.nox, Cx.blk]
  refine ws_ret (we_cb (wa_cons (we_lc (wi_tup (we_var rfl ⟨_, rfl, by rw [List.length_map]; omega, fun n acc => acc = ((ps.take n).map (sentP i j)).map Dl.pairD, rfl, ?_, ?_⟩)))))
  · rintro n d acc hd hacc
    have hacc' : acc = ((ps.take n).map (sentP i j)).map Dl.pairD := hacc
    rw [List.getElem?_map] at hd
    obtain ⟨q, hq, rfl⟩ : ∃ q, ps[n]? = some q ∧ Dl.pairD q = d := by
      cases e : ps[n]? with
      | none => rw [e] at hd; cases hd
      | some q => rw [e] at hd; exact ⟨q, rfl, Option.some.inj hd⟩
    try dsimp only [List.set]
    refine wt_yes ?_
    rw [if_pos rfl]
    repeat walk_at "dl"
    refine ix0 ?_
    repeat walk_at "dl"
    refine ix1 ?_
    repeat walk_at "dl"
    show acc ++ [Dl.pairD (sentP i j q)] = ((ps.take (n + 1)).map (sentP i j)).map Dl.pairD
    rw [hacc', List.take_add_one, hq, List.map_append, List.map_append]
    rfl
  · rintro acc hacc
    have hacc' : acc = ((ps.take (ps.map Dl.pairD).length).map (sentP i j)).map Dl.pairD := hacc
    rw [List.length_map, List.take_length] at hacc'
    rw [hacc']
    exact wa_nil (rc_tupZ ⟨ps, i, j, rfl, rfl⟩)
abbrev s__law_rect : Stmt := topS 30
abbrev N__law_rect : List Str := ["_law_x", "_law_y", "_law_wide", "_law_high"]
theorem sc__law_rect : FnScope N__law_rect ["_law_x", "_law_y", "_law_wide", "_law_high"] (defScope s__law_rect) := ⟨rfl, rfl, rfl, by decide +kernel, rfl, by decide +kernel, by decide +kernel⟩
abbrev ClRe (P : Program) (w : World) (K : PySem.W.Frag) (mg : Str → Option Value) (base : Heap) (k : Nat) := Cl P w K mg base k "_law_rect" s__law_rect ["_law_x", "_law_y", "_law_wide", "_law_high"] (SpD K (fun ds => ∃ a b c d : Int, ds = [.int a, .int b, .int c, .int d]) fun ds r => ∃ a b c d : Int, ds = [.int a, .int b, .int c, .int d] ∧ r = .tup (([(a, b), (a + c, b), (a + c, b + d), (a, b + d)] : List Pr2).map Dl.pairD))
theorem ok__law_rect {k : Nat} (F : Df K mg "_law_rect" s__law_rect) : ClRe P w K mg base (k + 1) := by
  refine cl_of F sc__law_rect (fun _ _ _ _ _ _ us hl => match us, hl with | [_, _, _, _], _ => rfl) (fun ds ⟨a, b, c, d, e⟩ => by rw [e]; rfl) fun f cdv A outer s H E hr => ⟨_, (pss_one (ps_ret (pe_tupZ (pa_cons (pe_tupZ (pa_cons (pv 0) (pa_cons (pv 1) pa_nil))) (pa_cons (pe_tupZ (pa_cons (pe_op op_add (pv 0) (pv 2)) (pa_cons (pv 1) pa_nil))) (pa_cons (pe_tupZ (pa_cons (pe_op op_add (pv 0) (pv 2)) (pa_cons (pe_op op_add (pv 1) (pv 3)) pa_nil))) (pa_cons (pe_tupZ (pa_cons (pv 0) (pa_cons (pe_op op_add (pv 1) (pv 3)) pa_nil))) pa_nil))))))), fun B ds hp => ?_⟩
  obtain ⟨a, b, c, d, rfl⟩ := hp
  show WS K B _ [.val (.int a), .val (.int b), .val (.int c), .val (.int d)] _
  try dsimp only [cxOf, Cx.nox, Cx.blk]
  repeat walk_at "dl"
  first | rfl | exact ⟨a, b, c, d, rfl, rfl⟩

/-! ### par6 -/
def flipP (p : Pr2) : Pr2 := (0 - p.1, p.2)
abbrev s__law_flipped : Stmt := topS 29
abbrev N__law_flipped : List Str := ["_law_poly", "_law_c"]
theorem sc__law_flipped : FnScope N__law_flipped ["_law_poly"] (defScope s__law_flipped) := ⟨rfl, rfl, rfl, by decide +kernel, rfl, by decide +kernel, by decide +kernel⟩
abbrev ClFl (P : Program) (w : World) (K : PySem.W.Frag) (mg : Str → Option Value) (base : Heap) (k : Nat) := Cl P w K mg base k "_law_flipped" s__law_flipped ["_law_poly"] (SpD K (polyPre 100) fun ds r => ∃ ps : List Pr2, ds = [.tup (ps.map Dl.pairD)] ∧ r = .tup ((ps.map flipP).reverse.map Dl.pairD))
theorem ok__law_flipped {k : Nat} (G : Gn mg) (F : Df K mg "_law_flipped" s__law_flipped) : ClFl P w K mg base (k + 1) := by
  refine cl_of F sc__law_flipped (fun _ _ _ _ _ _ us hl => match us, hl with | [_], _ => rfl) p1_len fun f cdv A outer s H E hr => ⟨_, (pss_one (ps_ret (by exact pe_backT (pe_callTy (show CallR _ (.type "tuple") (zOf K) from call_tupZ) (by rfl) G.g_tuple (by decide +kernel) (pa_cons (pe_lc (own := [("_law_c", 1)]) (g := gName 1) (tt := tYes) rfl sc__law_flipped.nd (pi_tup (pv 0)) (blkOk_by (N := N__law_flipped) (sc := defScope s__law_flipped) (by decide +kernel)) (fun _ _ _ _ _ => pg_name (i := 1) sc__law_flipped.nd rfl (Or.inl rfl)) (fun _ _ _ _ _ => pts_nil) (fun _ _ _ _ _ => (pe_tupZ (pa_cons (pe_op op_sub pe_int (pe_ix (show IxR _ (rIxT K) from ix_tup) (pv 1) pe_int (fun _ _ => rfl))) (pa_cons (pe_ix (show IxR _ (rIxT K) from ix_tup) (pv 1) pe_int (fun _ _ => rfl)) pa_nil))))) pa_nil))))), fun B ds hp => ?_⟩
  obtain ⟨_, rfl, ps, rfl, hl⟩ := p1_ex hp
  show WS K B _ [.val (.tup (ps.map Dl.pairD)), .no] _
  try dsimp only [cxOf, Cx.nox, Cx.blk]
  refine ws_ret (we_backT (we_cb (wa_cons (we_lc (wi_tup (we_var rfl ⟨_, rfl, by rw [List.length_map]; omega, fun n acc => acc = ((ps.take n).map flipP).map Dl.pairD, rfl, ?_, ?_⟩))))))
  · rintro n d acc hd hacc
    have hacc' : acc = ((ps.take n).map flipP).map Dl.pairD := hacc
    rw [List.getElem?_map] at hd
    obtain ⟨q, hq, rfl⟩ : ∃ q, ps[n]? = some q ∧ Dl.pairD q = d := by
      cases e : ps[n]? with
      | none => rw [e] at hd; cases hd
      | some q => rw [e] at hd; exact ⟨q, rfl, Option.some.inj hd⟩
    try dsimp only [List.set]
    refine wt_yes ?_
    rw [if_pos rfl]
    repeat walk_at "dl"
    refine ix0 ?_
    repeat walk_at "dl"
    refine ix1 ?_
    repeat walk_at "dl"
    show acc ++ [Dl.pairD (flipP q)] = ((ps.take (n + 1)).map flipP).map Dl.pairD
    rw [hacc', List.take_add_one, hq, List.map_append, List.map_append]
    rfl
  · rintro acc hacc
    have hacc' : acc = ((ps.take (ps.map Dl.pairD).length).map flipP).map Dl.pairD := hacc
    rw [List.length_map, List.take_length] at hacc'
    rw [hacc']
    refine wa_nil (rc_tupZ ⟨_, rfl, ps, rfl, ?_⟩)
    rw [List.map_reverse]

/-! ### par2 -/
theorem cut_to {ps : List Pr2} {n : Nat} (h : n ≤ ps.length) : Dl.cutD (ps.map Dl.pairD) none (some (n : Int)) = (ps.take n).map Dl.pairD := by
  unfold Dl.cutD
  rw [HT.sIx_none, HT.sIx_nat, List.length_map, show min n ps.length = n by omega, List.drop_zero, Nat.sub_zero, List.map_take]
theorem cut_from {ps : List Pr2} {n : Nat} (h : n ≤ ps.length) : Dl.cutD (ps.map Dl.pairD) (some (n : Int)) none = (ps.drop n).map Dl.pairD := by
  unfold Dl.cutD
  rw [HT.sIx_none, HT.sIx_nat, List.length_map, show min n ps.length = n by omega, List.map_drop]
  exact List.take_of_length_le (by rw [List.length_drop, List.length_map]; exact Nat.le_refl _)

/-! ### par8 -/
theorem edg_at {ps : List Pr2} {k : Nat} (hk : k < ps.length) : (edg ps)[k]? = some (ps.getD k (0, 0), ps.getD ((k + 1) % ps.length) (0, 0)) := by
  unfold edg
  rw [List.getElem?_map, List.getElem?_range hk]
  rfl
theorem edg_zip {ps : List Pr2} : edg ps = ps.zip (ps.drop 1 ++ ps.take 1) := by
  have hl : (ps.drop 1 ++ ps.take 1).length = ps.length := by rw [List.length_append, List.length_drop, List.length_take]; omega
  apply List.ext_getElem?
  intro k
  by_cases hk : k < ps.length
  · rw [edg_at hk]
    symm
    refine List.getElem?_zip_eq_some.mpr ⟨?_, ?_⟩
    · rw [List.getD_eq_getElem?_getD, List.getElem?_eq_getElem hk]; rfl
    · show _ = some (ps.getD ((k + 1) % ps.length) (0, 0))
      by_cases e : k + 1 = ps.length
      · rw [e, Nat.mod_self, List.getElem?_append_right (by rw [List.length_drop]; omega), List.length_drop, show k - (ps.length - 1) = 0 by omega, List.getElem?_take]
        rw [if_pos (by decide), List.getD_eq_getElem?_getD, List.getElem?_eq_getElem (by omega)]; rfl
      · have hk1 : k + 1 < ps.length := by omega
        rw [Nat.mod_eq_of_lt hk1, List.getElem?_append_left (by rw [List.length_drop]; omega), List.getElem?_drop, Nat.add_comm 1 k, List.getD_eq_getElem?_getD, List.getElem?_eq_getElem hk1]; rfl
  · rw [List.getElem?_eq_none (by rw [edg_len]; omega), List.getElem?_eq_none (by rw [List.length_zip, hl]; omega)]
theorem zip_edgD (ps qs : List Pr2) : ((ps.map Dl.pairD).zip (qs.map Dl.pairD)).map (fun q => D.tup [q.1, q.2]) = (ps.zip qs).map edgD := by
  rw [List.zip_map, List.map_map]
  rfl
abbrev s_edges : Stmt := topS 6
abbrev N_edges : List Str := ["part"]
theorem sc_edges : FnScope N_edges ["part"] (defScope s_edges) := ⟨rfl, rfl, rfl, by decide +kernel, rfl, by decide +kernel, by decide +kernel⟩
abbrev ClEd (P : Program) (w : World) (K : PySem.W.Frag) (mg : Str → Option Value) (base : Heap) (k : Nat) := Cl P w K mg base k "edges" s_edges ["part"] (SpD K (polyPre 100) fun ds r => ∃ ps : List Pr2, ds = [.tup (ps.map Dl.pairD)] ∧ r = .lst ((edg ps).map edgD))
theorem ok_edges {k : Nat} (G : Gn mg) (F : Df K mg "edges" s_edges) : ClEd P w K mg base (k + 1) := by
  refine cl_of F sc_edges (fun _ _ _ _ _ _ us hl => match us, hl with | [_], _ => rfl) p1_len fun f cdv A outer s H E hr => ⟨_, (pss_one (ps_ret (pe_lz rfl (by rfl) G.g_list (by rfl) G.g_zip (pa_cons (pv 0) (pa_cons (pe_op (show OpR _ (binaryOp .Add) (zCat K) from op_catZ) (pe_slice (show SlR _ (zSl K) from sl_tupZ) (pv 0) (po_some pe_int) po_none) (pe_slice (show SlR _ (zSl K) from sl_tupZ) (pv 0) po_none (po_some pe_int))) pa_nil))))), fun B ds hp => ?_⟩
  obtain ⟨_, rfl, ps, rfl, hl⟩ := p1_ex hp
  show WS K B _ [.val (.tup (ps.map Dl.pairD))] _
  try dsimp only [cxOf, Cx.nox, Cx.blk]
  have fin : ∀ qs : List Pr2, qs = ps.drop 1 ++ ps.take 1 → (ps.map Dl.pairD).length = (qs.map Dl.pairD).length ∧ D.lst (((ps.map Dl.pairD).zip (qs.map Dl.pairD)).map fun q => .tup [q.1, q.2]) = .lst ((edg ps).map edgD) := by
    rintro qs rfl
    refine ⟨by rw [List.length_map, List.length_map, List.length_append, List.length_drop, List.length_take]; omega, ?_⟩
    rw [zip_edgD, ← edg_zip]
  refine ws_ret (we_lz (wa_cons (we_var rfl (wa_cons ?_))))
  cases ps with
  | nil =>
    repeat walk_at "dl"
    refine rs_T ?_
    repeat walk_at "dl"
    refine rs_T ?_
    refine ro_catA (by decide) (wa_nil ⟨[], [], rfl, rfl, [], rfl, rfl⟩)
  | cons p qs =>
    repeat walk_at "dl"
    refine rs_T ?_
    rw [show (1 : Int) = ((1 : Nat) : Int) from rfl, cut_from (by rw [List.length_cons]; omega)]
    repeat walk_at "dl"
    refine rs_T ?_
    rw [cut_to (by rw [List.length_cons]; omega)]
    refine ro_catA (by rw [List.length_map, List.length_map, List.length_drop, List.length_take]; omega) (wa_nil ?_)
    rw [← List.map_append]
    obtain ⟨f1, f2⟩ := fin _ rfl
    exact ⟨_, _, rfl, f1, p :: qs, rfl, f2⟩

/-! ### par7 -/
def ofD : D → Pr2
  | .tup [.int a, .int b] => (a, b)
  | _ => (0, 0)
def polyAt (ps : List Pr2) (k : Nat) : Bool := (List.range ps.length).all fun j => (decide (j = k) || decide (j = (k + 1) % ps.length)) || decide (0 < trn (ps.getD k (0, 0)) (ps.getD ((k + 1) % ps.length) (0, 0)) (ps.getD j (0, 0)))
def polyB (ps : List Pr2) : Bool := (List.range ps.length).all (polyAt ps)
def isPoly : D → Bool
  | .tup xs => ((decide (3 ≤ xs.length) && decide (xs.length ≤ 6)) && xs.all (isBnd 200)) && polyB (xs.map ofD)
  | _ => false
theorem bnd_pr {b : Int} {d : D} (h : isBnd b d = true) : ∃ x y : Int, d = .tup [.int x, .int y] ∧ -b ≤ x ∧ x ≤ b ∧ -b ≤ y ∧ y ≤ b := by
  cases d with
  | tup xs =>
    have h' : ((decide ((xs.length : Int) = 2) && xs.all isNum) && xs.all (inB b)) = true := h
    rw [Bool.and_eq_true, Bool.and_eq_true, decide_eq_true_eq] at h'
    obtain ⟨⟨hl, hn⟩, hb⟩ := h'
    match xs, hl, hn, hb with
    | [.int x, .int y], _, _, hb =>
      have hb' : ((decide (-b ≤ x) && decide (x ≤ b)) && ((decide (-b ≤ y) && decide (y ≤ b)) && true)) = true := hb
      simp only [Bool.and_eq_true, decide_eq_true_eq] at hb'
      exact ⟨x, y, rfl, hb'.1.1, hb'.1.2, hb'.2.1.1, hb'.2.1.2⟩
    | [a, c], _, hn, hb =>
      have hn' : (isNum a && (isNum c && true)) = true := hn
      rw [Bool.and_eq_true, Bool.and_eq_true] at hn'
      have ea : ∃ i, a = .int i := by cases a <;> first | exact ⟨_, rfl⟩ | exact Bool.noConfusion hn'.1
      have ec : ∃ i, c = .int i := by cases c <;> first | exact ⟨_, rfl⟩ | exact Bool.noConfusion hn'.2.1
      obtain ⟨x, rfl⟩ := ea
      obtain ⟨y, rfl⟩ := ec
      have hb' : ((decide (-b ≤ x) && decide (x ≤ b)) && ((decide (-b ≤ y) && decide (y ≤ b)) && true)) = true := hb
      simp only [Bool.and_eq_true, decide_eq_true_eq] at hb'
      exact ⟨x, y, rfl, hb'.1.1, hb'.1.2, hb'.2.1.1, hb'.2.1.2⟩
  | _ => exact Bool.noConfusion h
theorem bnd_ofD {d : D} (h : isBnd 200 d = true) : d = Dl.pairD (ofD d) ∧ Upto 200 (ofD d) := by
  obtain ⟨x, y, rfl, h1, h2, h3, h4⟩ := bnd_pr h
  exact ⟨rfl, h1, h2, h3, h4⟩
theorem bnds_ofD {xs : List D} (h : xs.all (isBnd 200) = true) : xs = (xs.map ofD).map Dl.pairD ∧ ∀ p ∈ xs.map ofD, Upto 200 p := by
  have h' := List.all_eq_true.mp h
  constructor
  · rw [List.map_map]
    conv => lhs; rw [← List.map_id xs]
    exact List.map_congr_left fun d hd => (bnd_ofD (h' d hd)).1
  · intro p hp
    obtain ⟨d, hd, rfl⟩ := List.mem_map.mp hp
    exact (bnd_ofD (h' d hd)).2
theorem rc_allB {bs : List Bool} {K : PySem.W.Frag} {B : Bt} {Q : D → Prop} (p : Q (.bl (bs.all id))) : RC K B (rAll K) [.lst (bs.map D.bl)] Q := by
  have h := rc_allf (f := fun d => match d with | .bl b => b | _ => false) (xs := bs.map D.bl) (P := Q) (K := K) (B := B) (by rw [List.all_map]; exact p)
  rw [List.map_map] at h
  exact h
theorem ro_niI {i a b : Int} {K : PySem.W.Frag} {B : Bt} {Q : D → Prop} (h : Q (.bl (!((a == i) || ((b == i) || false))))) : RO K B (rIn K true) (.int i) (.lst [.int a, .int b]) Q := fun G H x y R o hx hy q => by
  cases hx
  cases hy with
  | lst hg t =>
    cases t with
    | cons h1 t =>
      cases t with
      | cons h2 t =>
        cases t
        cases h1
        cases h2
        exact ⟨_, _, rfl, .inl (SqL.of (o.u _ _ hg)), rfl, rfl, q.nil o (.bl _) h⟩
abbrev s__law_is_poly : Stmt := topS 23
abbrev N__law_is_poly : List Str := ["_law_x", "_law_k", "_law_ends", "_law_c", "_law_j"]
theorem sc__law_is_poly : FnScope N__law_is_poly ["_law_x"] (defScope s__law_is_poly) := ⟨rfl, rfl, rfl, by decide +kernel, rfl, by decide +kernel, by decide +kernel⟩
theorem ok__law_is_poly {k : Nat} (G : Gn mg) (F : Df K mg "_law_is_poly" s__law_is_poly) (C__law_is_spot : ClB P w K mg base k "_law_is_spot" s__law_is_spot "_law_x" (isBnd 200)) (C__law_turn : ClTu P w K mg base k) : ClB P w K mg base (k + 1) "_law_is_poly" s__law_is_poly "_law_x" isPoly := by
  refine cl_of F sc__law_is_poly (fun _ _ _ _ _ _ us hl => match us, hl with | [_], _ => rfl) p1_len fun f cdv A outer s H E hr => ⟨_, (pss_cons (ps_if (PW.pt (pw_or (pt_not (pt_val (pe_callB (show CallR _ (.builtin "isinstance") (rIsi K) from call_isi) (by rfl) G.g_isinstance (by decide +kernel) (pa_cons (pv 0) (pa_cons (pe_bltn (v := .ty "tuple") (u := .type "tuple") (by rfl) G.g_tuple (by decide +kernel) rfl) pa_nil))))) (pw_or (pt_cmpR op_lt (pe_callB (show CallR _ (.builtin "len") (fun xs H Q => ∃ x n, xs = [x] ∧ LenV K x H n ∧ Q (.int n) H) from call_len) (by rfl) G.g_len (by decide +kernel) (pa_cons (pv 0) pa_nil)) pe_int (nomark _)) (pw_or (pt_cmpR op_gt (pe_callB (show CallR _ (.builtin "len") (fun xs H Q => ∃ x n, xs = [x] ∧ LenV K x H n ∧ Q (.int n) H) from call_len) (by rfl) G.g_len (by decide +kernel) (pa_cons (pv 0) pa_nil)) pe_int (nomark _)) (pw_or1 (pt_not (pt_val (pe_callB (cr_all rfl) (by rfl) G.g_all (by decide +kernel) (pa_cons (pe_lc (own := [("_law_c", 3)]) (g := gName 3) (tt := tYes) rfl sc__law_is_poly.nd (pi_tup (pv 0)) (blkOk_by (N := N__law_is_poly) (sc := defScope s__law_is_poly) (by decide +kernel)) (fun _ _ _ _ _ => pg_name (i := 3) sc__law_is_poly.nd rfl (Or.inl rfl)) (fun _ _ _ _ _ => pts_nil) (fun _ _ _ _ _ => (pe_c C__law_is_spot hr (by omega) (by rfl) (pa_cons (pv 3) pa_nil)))) pa_nil))))))))) (pss_one (ps_ret pe_bl)) pss_nil)
      (pss_cons (ps_for PassesOwn.never rfl (pi_range1 rfl G.g_range (pa_cons (pe_callB (show CallR _ (.builtin "len") (fun xs H Q => ∃ x n, xs = [x] ∧ LenV K x H n ∧ Q (.int n) H) from call_len) (by rfl) G.g_len (by decide +kernel) (pa_cons (pv 0) pa_nil)) pa_nil)) (pg_name (i := 1) sc__law_is_poly.nd rfl (Or.inl rfl)) (pss_cons (ps_set (i := 2) sc__law_is_poly.nd rfl (Or.inr rfl) (pe_lst (pa_cons (pv 1) (pa_cons (pe_op op_modN (pe_callTy call_int1 (by rfl) G.g_int (by decide +kernel) (pa_cons (pe_op op_add (pv 1) pe_int) pa_nil)) (pe_callB (show CallR _ (.builtin "len") (fun xs H Q => ∃ x n, xs = [x] ∧ LenV K x H n ∧ Q (.int n) H) from call_len) (by rfl) G.g_len (by decide +kernel) (pa_cons (pv 0) pa_nil))) pa_nil))))
      (pss_one (ps_if (pt_not (pt_val (pe_callB (cr_all rfl) (by rfl) G.g_all (by decide +kernel) (pa_cons (pe_lc (own := [("_law_j", 4)]) (g := gName 4) rfl sc__law_is_poly.nd (pi_range1 rfl G.g_range (pa_cons (pe_callB (show CallR _ (.builtin "len") (fun xs H Q => ∃ x n, xs = [x] ∧ LenV K x H n ∧ Q (.int n) H) from call_len) (by rfl) G.g_len (by decide +kernel) (pa_cons (pv 0) pa_nil)) pa_nil)) (blkOk_by (N := N__law_is_poly) (sc := defScope s__law_is_poly) (by decide +kernel)) (fun _ _ _ _ _ => pg_name (i := 4) sc__law_is_poly.nd rfl (Or.inl rfl)) (fun _ _ _ _ _ => (pts_one (pt_cmpR (show OpR _ (compareOp .NotIn) (rIn K true) from op_notIn_seq) (pv 4) (pv 2) (by rfl)))) (fun _ _ _ _ _ => (pe_cmpR op_gt (pe_c C__law_turn hr (by omega) (by rfl) (pa_cons (pe_ix (show IxR _ (rIxT K) from ix_tup) (pv 0) (pe_ix (show IxR _ (rIxL K) from ix_list) (pv 2) pe_int (fun _ _ => rfl)) (fun _ _ => rfl)) (pa_cons (pe_ix (show IxR _ (rIxT K) from ix_tup) (pv 0) (pe_ix (show IxR _ (rIxL K) from ix_list) (pv 2) pe_int (fun _ _ => rfl)) (fun _ _ => rfl)) (pa_cons (pe_ix (show IxR _ (rIxT K) from ix_tup) (pv 0) (pv 4) (fun _ _ => rfl)) pa_nil)))) pe_int (nomark _)))) pa_nil)))) (pss_one (ps_ret pe_bl)) pss_nil))))
      (pss_one (ps_ret pe_bl)))), fun B ds hp => ?_⟩
  obtain ⟨d, rfl, hd⟩ := p1_ex hp
  show WS K B _ [.val d, .no, .no, .no, .no] _
  try dsimp only [cxOf, Cx.nox, Cx.blk]
  by_cases ht : isTup d = true
  · obtain ⟨xs, rfl⟩ : ∃ xs, d = .tup xs := by cases d <;> first | exact ⟨_, rfl⟩ | exact Bool.noConfusion ht
    obtain ⟨hl, hs⟩ := sm_tup hd
    repeat walk_at "dl"
    refine ite2 (fun h1 => ?_) (fun h1 => ?_)
    · repeat walk_at "dl"
      show D.bl false = D.bl (isPoly (.tup xs))
      have h1' : ¬ 3 ≤ xs.length := by have := of_decide_eq_true h1; omega
      simp [isPoly, h1']
    have h1' : 3 ≤ xs.length := by have : ¬ ((xs.length : Int) < 3) := by simpa using h1
                                   omega
    repeat walk_at "dl"
    refine ite2 (fun h2 => ?_) (fun h2 => ?_)
    · repeat walk_at "dl"
      show D.bl false = D.bl (isPoly (.tup xs))
      have h2' : ¬ xs.length ≤ 6 := by have := of_decide_eq_true h2; omega
      simp [isPoly, h2']
    have h2' : xs.length ≤ 6 := by have : ¬ ((6 : Int) < xs.length) := by simpa using h2
                                   omega
    repeat walk_at "dl"
    refine we_lc (wi_tup (we_var rfl ⟨_, rfl, by omega, fun n acc => acc = (xs.take n).map (fun d => D.bl (isBnd 200 d)), rfl, ?_, ?_⟩))
    · rintro n d acc hdn hacc
      have hacc' : acc = (xs.take n).map (fun d => D.bl (isBnd 200 d)) := hacc
      try dsimp only [List.set]
      refine wt_yes ?_
      rw [if_pos rfl]
      refine we_call (wa_cons (we_var rfl (wa_nil ⟨sms_mem hs (List.mem_of_getElem? hdn), ?_⟩)))
      rintro _ rfl
      show acc ++ [D.bl (isBnd 200 d)] = (xs.take (n + 1)).map (fun d => D.bl (isBnd 200 d))
      rw [hacc', List.take_add_one, hdn, List.map_append]
      rfl
    rintro acc hacc
    have hacc' : acc = (xs.take xs.length).map (fun d => D.bl (isBnd 200 d)) := hacc
    rw [List.take_length] at hacc'
    rw [hacc']
    refine wa_nil (rc_allf ?_)
    repeat walk_at "dl"
    refine ite2 (fun h3 => ?_) (fun h3 => ?_)
    · repeat walk_at "dl"
      show D.bl false = D.bl (isPoly (.tup xs))
      have h3' : xs.all (isBnd 200) = false := by simpa using h3
      show D.bl false = D.bl (((decide (3 ≤ xs.length) && decide (xs.length ≤ 6)) && xs.all (isBnd 200)) && polyB (xs.map ofD))
      rw [h3', Bool.and_false, Bool.false_and]
    have h3' : xs.all (isBnd 200) = true := by simpa using h3
    have hval : isPoly (.tup xs) = polyB (xs.map ofD) := by
      show (((decide (3 ≤ xs.length) && decide (xs.length ≤ 6)) && xs.all (isBnd 200)) && polyB (xs.map ofD)) = _
      rw [h3', decide_eq_true h1', decide_eq_true h2', Bool.and_true, Bool.and_true, Bool.true_and]
    obtain ⟨ex, hb⟩ := bnds_ofD h3'
    have hlen : (xs.map ofD).length = xs.length := List.length_map ..
    obtain ⟨ps, hps⟩ : ∃ ps, ps = xs.map ofD := ⟨_, rfl⟩
    rw [← hps] at ex hb hval hlen
    rw [← hlen] at h1' h2'
    clear h1 h2 h3 h3' hacc hacc' hps hs hl hd hp ht hlen
    subst ex
    refine ws_next ?_
    refine ws_seq (ws_for (wi_range1 (wa_cons (we_cb (wa_cons (we_var rfl (wa_nil (rc_len (n := ps.length) (by show some (ps.map Dl.pairD).length = _; rw [List.length_map]) (by omega) (wa_nil ⟨_, rfl, by omega, by omega, fun k δ1 => ∃ y1 y2, δ1 = [.val (.tup (ps.map Dl.pairD)), y1, y2, .no, .no] ∧ ∀ j, j < k → j < ps.length → polyAt ps j = true, ⟨_, _, rfl, fun j z => absurd z (Nat.not_lt_zero j)⟩, ?_, ?_⟩)))))))))
    · rintro n d δ1 hdn ⟨y1, y2, rfl, hI⟩
      obtain ⟨hn, rfl⟩ := upto_at hdn
      try dsimp only [List.set]
      refine ws_seq (ws_set (we_lst (wa_cons (we_var rfl (wa_cons ?_)))))
      refine we_op (we_cb (wa_cons (we_op (we_var rfl (we_int (ro_int0 (wa_nil (rc_int1 ?_))))))))
      refine we_cb (wa_cons (we_var rfl (wa_nil (rc_len (n := ps.length) (by show some (ps.map Dl.pairD).length = _; rw [List.length_map]) (by omega) ?_))))
      refine ro_int (by intro z; omega) ?_
      have em : ((n : Int) + 1).fmod (ps.length : Int) = (((n + 1) % ps.length : Nat) : Int) := by
        rw [Int.fmod_eq_emod_of_nonneg _ (by omega)]
        push_cast
        rfl
      rw [em]
      have hm : (n + 1) % ps.length < ps.length := Nat.mod_lt _ (by omega)
      have hat : polyAt ps n = (List.range ps.length).all fun j => (decide (j = n) || decide (j = (n + 1) % ps.length)) || decide (0 < trn (ps.getD n (0, 0)) (ps.getD ((n + 1) % ps.length) (0, 0)) (ps.getD j (0, 0))) := rfl
      generalize (n + 1) % ps.length = m at *
      refine wa_nil ⟨by show 2 ≤ 1000; decide, ?_⟩
      try dsimp only [List.set]
      have up : ∀ k : Nat, k < ps.length → Upto 10000000 (ps.getD k (0, 0)) := fun k hk => by
        rw [List.getD_eq_getElem?_getD, List.getElem?_eq_getElem hk]
        exact upto_le (hb _ (List.getElem_mem hk)) (by decide)
      have hfin : (((List.range ps.length).filter fun j => !(decide (j = n) || decide (j = m))).map fun j => decide (0 < trn (ps.getD n (0, 0)) (ps.getD m (0, 0)) (ps.getD j (0, 0)))).all id = polyAt ps n := by
        rw [hat, List.all_map, List.all_filter]
        congr 1
        funext j
        show (!(!(decide (j = n) || decide (j = m))) || _) = _
        rw [Bool.not_not]
        rfl
      refine ws_if (wt_not (wt_B (we_cb (wa_cons (we_lc (wi_range1 (wa_cons (we_cb (wa_cons (we_var rfl (wa_nil (rc_len (n := ps.length) (by show some (ps.map Dl.pairD).length = _; rw [List.length_map]) (by omega) (wa_nil ⟨_, rfl, by omega, by omega, by rw [upto_len]; omega,
        fun i acc => acc = (((List.range i).filter fun j => !(decide (j = n) || decide (j = m))).map fun j => decide (0 < trn (ps.getD n (0, 0)) (ps.getD m (0, 0)) (ps.getD j (0, 0)))).map D.bl, rfl, ?_, ?_⟩)))))))))))))
      · rintro i d acc hdi hacc
        obtain ⟨hi, rfl⟩ := upto_at hdi
        have hacc' : acc = (((List.range i).filter fun j => !(decide (j = n) || decide (j = m))).map fun j => decide (0 < trn (ps.getD n (0, 0)) (ps.getD m (0, 0)) (ps.getD j (0, 0)))).map D.bl := hacc
        try dsimp only [List.set]
        have eb : (!(((n : Int) == (i : Int)) || (((m : Int) == (i : Int)) || false))) = !(decide (i = n) || decide (i = m)) := by
          rw [Bool.or_false]
          congr 2
          · rw [Bool.eq_iff_iff]; simp; omega
          · rw [Bool.eq_iff_iff]; simp; omega
        refine wt_test (we_op (we_var rfl (we_var rfl (ro_niI ⟨_, rfl, ?_⟩))))
        rw [eb]
        refine ite2 (fun hk => ?_) (fun hk => ?_)
        · refine we_op (we_call (wa_cons (we_op (we_var rfl (we_op (we_var rfl (we_int (ro_ixL (d := .int n) rfl (ro_ixT (atI_map hn) (wa_cons ?_)))))))))) 
          refine we_op (we_var rfl (we_op (we_var rfl (we_int (ro_ixL (d := .int m) rfl (ro_ixT (atI_map hm) (wa_cons ?_)))))))
          refine we_op (we_var rfl (we_var rfl (ro_ixT (atI_map hi) (wa_nil ⟨⟨_, _, _, rfl, rfl, rfl, up n hn, up m hm, up i hi⟩, ?_⟩))))
          rintro _ ⟨a, b, c, e, rfl⟩
          have e1 := pairD_inj (List.cons.inj e).1
          have e2 := pairD_inj (List.cons.inj (List.cons.inj e).2).1
          have e3 := pairD_inj (List.cons.inj (List.cons.inj (List.cons.inj e).2).2).1
          subst e1 e2 e3
          refine we_int (ro_bl0 ?_)
          show acc ++ [D.bl _] = (((List.range (i + 1)).filter fun j => !(decide (j = n) || decide (j = m))).map fun j => decide (0 < trn (ps.getD n (0, 0)) (ps.getD m (0, 0)) (ps.getD j (0, 0)))).map D.bl
          rw [hacc', List.range_succ, List.filter_append, List.map_append, List.map_append]
          congr 1
          rw [List.filter_cons, if_pos hk]
          rfl
        · show acc = (((List.range (i + 1)).filter fun j => !(decide (j = n) || decide (j = m))).map fun j => decide (0 < trn (ps.getD n (0, 0)) (ps.getD m (0, 0)) (ps.getD j (0, 0)))).map D.bl
          rw [hacc', List.range_succ, List.filter_append, List.map_append, List.map_append, List.filter_cons, if_neg hk]
          simp
      · rintro acc hacc
        have hacc' : acc = (((List.range (upto 0 (ps.length : Int).toNat).length).filter fun j => !(decide (j = n) || decide (j = m))).map fun j => decide (0 < trn (ps.getD n (0, 0)) (ps.getD m (0, 0)) (ps.getD j (0, 0)))).map D.bl := hacc
        rw [upto_len, Int.toNat_natCast] at hacc'
        rw [hacc']
        refine wa_nil (rc_allB ⟨_, rfl, ?_⟩)
        rw [hfin]
        refine ite2 (fun h => ?_) (fun h => ?_)
        · refine ws_ret (we_bl ?_)
          show D.bl false = D.bl (isPoly (.tup (ps.map Dl.pairD)))
          rw [hval]
          congr 1
          symm
          rw [Bool.eq_false_iff]
          intro z
          have h' : polyAt ps n = false := by simpa using h
          have := List.all_eq_true.mp z n (List.mem_range.mpr hn)
          rw [h'] at this
          cases this
        · have h' : polyAt ps n = true := by simpa using h
          refine ws_next ⟨_, _, rfl, fun j hj hjl => ?_⟩
          by_cases e : j = n
          · rw [e]; exact h'
          · exact hI j (by omega) hjl
    · rintro δ1 ⟨y1, y2, rfl, hI⟩
      refine ws_ret (we_bl ?_)
      show D.bl true = D.bl (isPoly (.tup (ps.map Dl.pairD)))
      rw [hval]
      congr 1
      symm
      rw [upto_len, Int.toNat_natCast] at hI
      exact List.all_eq_true.mpr fun j hj => hI j (List.mem_range.mp hj) (List.mem_range.mp hj)
  · have ht' : isTup d = false := by simpa using ht
    repeat walk_at "dl"
    rw [ht']
    repeat walk_at "dl"
    show D.bl false = D.bl (isPoly d)
    cases d <;> first | rfl | exact Bool.noConfusion ht'

end
/-! #### Xd -/
section
variable {P : Program} {w : World} {K : PySem.W.Frag} {mg : Str → Option Value} {base : Heap}
/-! ### sd1 -/
def dotP (p q : Pr2) : Int := p.1 * q.1 + p.2 * q.2
abbrev s_dot : Stmt := topS 4
abbrev N_dot : List Str := ["one", "other"]
theorem sc_dot : FnScope N_dot ["one", "other"] (defScope s_dot) := ⟨rfl, rfl, rfl, by decide +kernel, rfl, by decide +kernel, by decide +kernel⟩
abbrev ClDo (P : Program) (w : World) (K : PySem.W.Frag) (mg : Str → Option Value) (base : Heap) (k : Nat) := Cl P w K mg base k "dot" s_dot ["one", "other"] (SpD K (p2 fun a b => ∃ p q : Pr2, a = Dl.pairD p ∧ b = Dl.pairD q ∧ Upto 100000000 p ∧ Upto 100000000 q) fun ds r => ∃ p q : Pr2, ds = [Dl.pairD p, Dl.pairD q] ∧ r = .int (dotP p q))
theorem ok_dot {k : Nat} (F : Df K mg "dot" s_dot) : ClDo P w K mg base (k + 1) := by
  refine cl_of F sc_dot (fun _ _ _ _ _ _ us hl => match us, hl with | [_, _], _ => rfl) p2_len fun f cdv A outer s H E hr => ⟨_, (pss_one (ps_ret (pe_op op_add (pe_op op_mul (pe_ix (show IxR _ (rIxT K) from ix_tup) (pv 0) pe_int (fun _ _ => rfl)) (pe_ix (show IxR _ (rIxT K) from ix_tup) (pv 1) pe_int (fun _ _ => rfl))) (pe_op op_mul (pe_ix (show IxR _ (rIxT K) from ix_tup) (pv 0) pe_int (fun _ _ => rfl)) (pe_ix (show IxR _ (rIxT K) from ix_tup) (pv 1) pe_int (fun _ _ => rfl)))))), fun B ds hp => ?_⟩
  obtain ⟨_, _, rfl, p, q, rfl, rfl, ⟨h1, h2, h3, h4⟩, ⟨h5, h6, h7, h8⟩⟩ := p2_ex hp
  show WS K B _ [.val (Dl.pairD p), .val (Dl.pairD q)] _
  try dsimp only [cxOf, Cx.nox, Cx.blk]
  repeat walk_at "dl"
  refine ix0 ?_
  repeat walk_at "dl"
  refine ix0 ?_
  refine ro_int (.inl ⟨by omega, by omega⟩) ?_
  repeat walk_at "dl"
  refine ix1 ?_
  repeat walk_at "dl"
  refine ix1 ?_
  refine ro_int (.inl ⟨by omega, by omega⟩) ?_
  repeat walk_at "dl"
  first | rfl | exact ⟨p, q, rfl, rfl⟩
/-- so many corners, none far away -/
def Few (n : Int) (ps : List Pr2) : Prop := 3 ≤ ps.length ∧ ps.length ≤ 7 ∧ ∀ p ∈ ps, Upto n p
def nll (a b : Pr2) (cs : List Pr2) : Bool := cs.all fun c => decide (trn a b c ≤ 0)
abbrev s_none_lies_left : Stmt := topS 9
abbrev N_none_lies_left : List Str := ["start", "stop", "corners", "corner"]
theorem sc_none_lies_left : FnScope N_none_lies_left ["start", "stop", "corners"] (defScope s_none_lies_left) := ⟨rfl, rfl, rfl, by decide +kernel, rfl, by decide +kernel, by decide +kernel⟩
abbrev ClNl (P : Program) (w : World) (K : PySem.W.Frag) (mg : Str → Option Value) (base : Heap) (k : Nat) := Cl P w K mg base k "none_lies_left" s_none_lies_left ["start", "stop", "corners"] (SpD K (p3 fun x y z => ∃ (a b : Pr2) (cs : List Pr2), x = Dl.pairD a ∧ y = Dl.pairD b ∧ z = .tup (cs.map Dl.pairD) ∧ Upto 10000000 a ∧ Upto 10000000 b ∧ Few 10000000 cs) fun ds r => ∃ (a b : Pr2) (cs : List Pr2), ds = [Dl.pairD a, Dl.pairD b, .tup (cs.map Dl.pairD)] ∧ r = .bl (nll a b cs))
theorem ok_none_lies_left {k : Nat} (G : Gn mg) (F : Df K mg "none_lies_left" s_none_lies_left) (C_bend : ClBn P w K mg base k) : ClNl P w K mg base (k + 1) := by
  refine cl_of F sc_none_lies_left (fun _ _ _ _ _ _ us hl => match us, hl with | [_, _, _], _ => rfl) p3_len fun f cdv A outer s H E hr => ⟨_, (pss_one (ps_ret (pe_callB (cr_all rfl) (by rfl) G.g_all (by decide +kernel) (pa_cons (pe_lc (own := [("corner", 3)]) (g := gName 3) (tt := tYes) rfl sc_none_lies_left.nd (pi_tup (pv 2)) (blkOk_by (N := N_none_lies_left) (sc := defScope s_none_lies_left) (by decide +kernel)) (fun _ _ _ _ _ => pg_name (i := 3) sc_none_lies_left.nd rfl (Or.inl rfl)) (fun _ _ _ _ _ => pts_nil) (fun _ _ _ _ _ => (pe_cmpR op_le (pe_c C_bend hr (by omega) (by rfl) (pa_cons (pv 0) (pa_cons (pv 1) (pa_cons (pv 3) pa_nil)))) pe_int (nomark _)))) pa_nil)))), fun B ds hp => ?_⟩
  obtain ⟨_, _, _, rfl, a, b, cs, rfl, rfl, rfl, ha, hb, h3, h7, hc⟩ := p3_ex hp
  show WS K B _ [.val (Dl.pairD a), .val (Dl.pairD b), .val (.tup (cs.map Dl.pairD)), .no] _
  try dsimp only [cxOf, Cx.nox, Cx.blk]
  refine ws_ret (we_cb (wa_cons (we_lcQ (ps := cs) (fun c => .bl (decide (trn a b c ≤ 0))) (by omega) (wi_tup (we_var rfl ⟨_, rfl, rfl⟩)) (fun c hm => ?_) ?_)))
  · try dsimp only [List.set]
    refine we_op (we_call (wa_cons (we_var rfl (wa_cons (we_var rfl (wa_cons (we_var rfl (wa_nil ⟨⟨a, b, c, rfl, rfl, rfl, ha, hb, hc c hm⟩, ?_⟩))))))))
    rintro _ ⟨a', b', x', e, rfl⟩
    have e1 := pairD_inj (List.cons.inj e).1
    have e2 := pairD_inj (List.cons.inj (List.cons.inj e).2).1
    have e3 := pairD_inj (List.cons.inj (List.cons.inj (List.cons.inj e).2).2).1
    subst e1 e2 e3
    exact we_int (ro_bl0 rfl)
  · rw [show cs.map (fun c => D.bl (decide (trn a b c ≤ 0))) = (cs.map fun c => decide (trn a b c ≤ 0)).map D.bl by rw [List.map_map]; rfl]
    refine wa_nil (rc_all ⟨a, b, cs, rfl, ?_⟩)
    unfold nll
    rw [List.all_map]
    rfl
def hde (ps qs : List Pr2) : Bool := (edg ps).any fun e => nll e.1 e.2 qs
abbrev twoPre (n : Int) : List D → Prop := p2 fun x y => ∃ ps qs : List Pr2, x = .tup (ps.map Dl.pairD) ∧ y = .tup (qs.map Dl.pairD) ∧ Few n ps ∧ Few n qs
theorem prs_inj {ps qs : List Pr2} (h : ps.map Dl.pairD = qs.map Dl.pairD) : ps = qs := (List.map_inj_right fun _ _ h => pairD_inj h).mp h
abbrev s_has_dividing_edge : Stmt := topS 8
abbrev N_has_dividing_edge : List Str := ["part", "other", "start", "stop"]
theorem sc_has_dividing_edge : FnScope N_has_dividing_edge ["part", "other"] (defScope s_has_dividing_edge) := ⟨rfl, rfl, rfl, by decide +kernel, rfl, by decide +kernel, by decide +kernel⟩
abbrev ClHd (P : Program) (w : World) (K : PySem.W.Frag) (mg : Str → Option Value) (base : Heap) (k : Nat) := Cl P w K mg base k "has_dividing_edge" s_has_dividing_edge ["part", "other"] (SpD K (twoPre 10000000) fun ds r => ∃ ps qs : List Pr2, ds = [.tup (ps.map Dl.pairD), .tup (qs.map Dl.pairD)] ∧ r = .bl (hde ps qs))
theorem ok_has_dividing_edge {k : Nat} (G : Gn mg) (F : Df K mg "has_dividing_edge" s_has_dividing_edge) (C_edges : ClEd P w K mg base k) (C_none_lies_left : ClNl P w K mg base k) : ClHd P w K mg base (k + 1) := by
  refine cl_of F sc_has_dividing_edge (fun _ _ _ _ _ _ us hl => match us, hl with | [_, _], _ => rfl) p2_len fun f cdv A outer s H E hr => ⟨_, (pss_one (ps_ret (pe_callB (cr_any rfl) (by rfl) G.g_any (by decide +kernel) (pa_cons (pe_lc (own := [("start", 2), ("stop", 3)]) (g := (gTup K 2 (gCons (gName 2) (gCons (gName 3) gNil)))) (tt := tYes) rfl sc_has_dividing_edge.nd (pi_list (pe_c C_edges hr (by omega) (by rfl) (pa_cons (pv 0) pa_nil))) (blkOk_by (N := N_has_dividing_edge) (sc := defScope s_has_dividing_edge) (by decide +kernel)) (fun _ _ _ _ _ => show PG _ _ (gTup K 2 (gCons (gName 2) (gCons (gName 3) gNil))) from pg_tup rfl (pgs_cons (pg_name (i := 2) sc_has_dividing_edge.nd rfl (Or.inl rfl)) (pgs_cons (pg_name (i := 3) sc_has_dividing_edge.nd rfl (Or.inl rfl)) pgs_nil))) (fun _ _ _ _ _ => pts_nil) (fun _ _ _ _ _ => (pe_c C_none_lies_left hr (by omega) (by rfl) (pa_cons (pv 2) (pa_cons (pv 3) (pa_cons (pv 1) pa_nil)))))) pa_nil)))), fun B ds hp => ?_⟩
  obtain ⟨_, _, rfl, ps, qs, rfl, rfl, hps, hqs⟩ := p2_ex hp
  show WS K B _ [.val (.tup (ps.map Dl.pairD)), .val (.tup (qs.map Dl.pairD)), .no, .no] _
  try dsimp only [cxOf, Cx.nox, Cx.blk]
  have hl := hps.2.1
  refine ws_ret (we_cb (wa_cons (we_lcPQ (by decide) (es := edg ps) (fun e => .bl (nll e.1 e.2 qs)) (by rw [edg_len]; omega) (wi_list (we_call (wa_cons (we_var rfl (wa_nil ⟨⟨ps, rfl, by omega⟩, ?_⟩))))) (fun e hm => ?_) ?_)))
  · rintro _ ⟨ps', e, rfl⟩
    have e1 := prs_inj (D.tup.inj (List.cons.inj e).1)
    subst e1
    exact ⟨_, rfl, rfl⟩
  · have hm' := edg_mem hm
    try dsimp only [List.set]
    refine we_call (wa_cons (we_var rfl (wa_cons (we_var rfl (wa_cons (we_var rfl (wa_nil ⟨⟨e.1, e.2, qs, rfl, rfl, rfl, hps.2.2 _ hm'.1, hps.2.2 _ hm'.2, hqs⟩, ?_⟩)))))))
    rintro _ ⟨a', b', x', e', rfl⟩
    have e1 := pairD_inj (List.cons.inj e').1
    have e2 := pairD_inj (List.cons.inj (List.cons.inj e').2).1
    have e3 := prs_inj (D.tup.inj (List.cons.inj (List.cons.inj (List.cons.inj e').2).2).1)
    rw [e1, e2, e3]
  · rw [show (edg ps).map (fun e => D.bl (nll e.1 e.2 qs)) = ((edg ps).map fun e => nll e.1 e.2 qs).map D.bl by rw [List.map_map]; rfl]
    refine wa_nil (rc_any ⟨ps, qs, rfl, ?_⟩)
    unfold hde
    rw [List.any_map]
    rfl
abbrev s_overlap : Stmt := topS 7
abbrev N_overlap : List Str := ["part", "other"]
theorem sc_overlap : FnScope N_overlap ["part", "other"] (defScope s_overlap) := ⟨rfl, rfl, rfl, by decide +kernel, rfl, by decide +kernel, by decide +kernel⟩
abbrev ClOl (P : Program) (w : World) (K : PySem.W.Frag) (mg : Str → Option Value) (base : Heap) (k : Nat) := Cl P w K mg base k "overlap" s_overlap ["part", "other"] (SpD K (twoPre 10000000) fun ds r => ∃ ps qs : List Pr2, ds = [.tup (ps.map Dl.pairD), .tup (qs.map Dl.pairD)] ∧ r = .bl (!hde ps qs && !hde qs ps))
theorem ok_overlap {k : Nat} (G : Gn mg) (F : Df K mg "overlap" s_overlap) (C_has_dividing_edge : ClHd P w K mg base k) : ClOl P w K mg base (k + 1) := by
  refine cl_of F sc_overlap (fun _ _ _ _ _ _ us hl => match us, hl with | [_, _], _ => rfl) p2_len fun f cdv A outer s H E hr => ⟨_, (pss_one (ps_ret (pe_and (pe_not (pe_c C_has_dividing_edge hr (by omega) (by rfl) (pa_cons (pv 0) (pa_cons (pv 1) pa_nil)))) (pe_one (pe_not (pe_c C_has_dividing_edge hr (by omega) (by rfl) (pa_cons (pv 1) (pa_cons (pv 0) pa_nil)))))))), fun B ds hp => ?_⟩
  obtain ⟨_, _, rfl, ps, qs, rfl, rfl, hps, hqs⟩ := p2_ex hp
  show WS K B _ [.val (.tup (ps.map Dl.pairD)), .val (.tup (qs.map Dl.pairD))] _
  try dsimp only [cxOf, Cx.nox, Cx.blk]
  repeat walk_at "dl"
  refine ⟨⟨ps, qs, rfl, rfl, hps, hqs⟩, ?_⟩
  rintro _ ⟨ps', qs', e, rfl⟩
  have e1 := prs_inj (D.tup.inj (List.cons.inj e).1)
  have e2 := prs_inj (D.tup.inj (List.cons.inj (List.cons.inj e).2).1)
  subst e1 e2
  refine ⟨_, rfl, _, rfl, ?_⟩
  refine ite2 (fun h => ?_) (fun h => ?_)
  · repeat walk_at "dl"
    refine ⟨⟨qs, ps, rfl, rfl, hqs, hps⟩, ?_⟩
    rintro _ ⟨ps', qs', e, rfl⟩
    have e1 := prs_inj (D.tup.inj (List.cons.inj e).1)
    have e2 := prs_inj (D.tup.inj (List.cons.inj (List.cons.inj e).2).1)
    subst e1 e2
    refine ⟨_, rfl, ps, qs, rfl, ?_⟩
    rw [h]; rfl
  · refine ⟨ps, qs, rfl, ?_⟩
    have h' : (!hde ps qs) = false := by simpa using h
    rw [h']; rfl
abbrev s__law_over : Stmt := topS 24
abbrev N__law_over : List Str := ["_law_p", "_law_q", "_law_a", "_law_b", "_law_c"]
theorem sc__law_over : FnScope N__law_over ["_law_p", "_law_q"] (defScope s__law_over) := ⟨rfl, rfl, rfl, by decide +kernel, rfl, by decide +kernel, by decide +kernel⟩
abbrev ClOv (P : Program) (w : World) (K : PySem.W.Frag) (mg : Str → Option Value) (base : Heap) (k : Nat) := Cl P w K mg base k "_law_over" s__law_over ["_law_p", "_law_q"] (SpD K (twoPre 10000000) fun ds r => ∃ ps qs : List Pr2, ds = [.tup (ps.map Dl.pairD), .tup (qs.map Dl.pairD)] ∧ r = .bl (!hde ps qs && !hde qs ps))
theorem max_nll {a b : Pr2} {cs : List Pr2} {m : Int} (hm : m ∈ cs.map (trn a b)) (hle : ∀ y ∈ cs.map (trn a b), y ≤ m) : decide (m ≤ 0) = nll a b cs := by
  unfold nll
  rw [Bool.eq_iff_iff, List.all_eq_true, decide_eq_true_eq]
  constructor
  · intro h c hc
    have := hle _ (List.mem_map.mpr ⟨c, hc, rfl⟩)
    exact decide_eq_true (Int.le_trans this h)
  · intro h
    obtain ⟨c, hc, rfl⟩ := List.mem_map.mp hm
    exact of_decide_eq_true (h c hc)
theorem ok__law_over {k : Nat} (G : Gn mg) (F : Df K mg "_law_over" s__law_over) (C__law_edges : ClEg P w K mg base k) (C__law_turn : ClTu P w K mg base k) : ClOv P w K mg base (k + 1) := by
  refine cl_of F sc__law_over (fun _ _ _ _ _ _ us hl => match us, hl with | [_, _], _ => rfl) p2_len fun f cdv A outer s H E hr => ⟨_, (pss_cons (ps_for PassesOwn.never rfl (pi_list (pe_c C__law_edges hr (by omega) (by rfl) (pa_cons (pv 0) pa_nil))) (show PG _ _ (gTup K 2 (gCons (gName 2) (gCons (gName 3) gNil))) from pg_tup rfl (pgs_cons (pg_name (i := 2) sc__law_over.nd rfl (Or.inr rfl)) (pgs_cons (pg_name (i := 3) sc__law_over.nd rfl (Or.inr rfl)) pgs_nil))) (pss_one (ps_if (pt_cmpR op_le (pe_callB (show CallR _ (.builtin "max") (rMax K) from cr_max rfl) (by rfl) G.g_max (by decide +kernel) (pa_cons (pe_lc (own := [("_law_c", 4)]) (g := gName 4) (tt := tYes) rfl sc__law_over.nd (pi_tup (pv 1)) (blkOk_by (N := N__law_over) (sc := defScope s__law_over) (by decide +kernel)) (fun _ _ _ _ _ => pg_name (i := 4) sc__law_over.nd rfl (Or.inl rfl)) (fun _ _ _ _ _ => pts_nil) (fun _ _ _ _ _ => (pe_c C__law_turn hr (by omega) (by rfl) (pa_cons (pv 2) (pa_cons (pv 3) (pa_cons (pv 4) pa_nil)))))) pa_nil)) pe_int (nomark _)) (pss_one (ps_ret pe_bl)) pss_nil)))
      (pss_cons (ps_for PassesOwn.never rfl (pi_list (pe_c C__law_edges hr (by omega) (by rfl) (pa_cons (pv 1) pa_nil))) (show PG _ _ (gTup K 2 (gCons (gName 2) (gCons (gName 3) gNil))) from pg_tup rfl (pgs_cons (pg_name (i := 2) sc__law_over.nd rfl (Or.inr rfl)) (pgs_cons (pg_name (i := 3) sc__law_over.nd rfl (Or.inr rfl)) pgs_nil))) (pss_one (ps_if (pt_cmpR op_le (pe_callB (show CallR _ (.builtin "max") (rMax K) from cr_max rfl) (by rfl) G.g_max (by decide +kernel) (pa_cons (pe_lc (own := [("_law_c", 4)]) (g := gName 4) (tt := tYes) rfl sc__law_over.nd (pi_tup (pv 0)) (blkOk_by (N := N__law_over) (sc := defScope s__law_over) (by decide +kernel)) (fun _ _ _ _ _ => pg_name (i := 4) sc__law_over.nd rfl (Or.inl rfl)) (fun _ _ _ _ _ => pts_nil) (fun _ _ _ _ _ => (pe_c C__law_turn hr (by omega) (by rfl) (pa_cons (pv 2) (pa_cons (pv 3) (pa_cons (pv 4) pa_nil)))))) pa_nil)) pe_int (nomark _)) (pss_one (ps_ret pe_bl)) pss_nil)))
      (pss_one (ps_ret pe_bl)))), fun B ds hp => ?_⟩
  obtain ⟨_, _, rfl, ps, qs, rfl, rfl, hps, hqs⟩ := p2_ex hp
  show WS K B _ [.val (.tup (ps.map Dl.pairD)), .val (.tup (qs.map Dl.pairD)), .no, .no, .no] _
  try dsimp only [cxOf, Cx.nox, Cx.blk]
  have tn : ∀ {B : Bt} {δ : List Sd} {a b c : Pr2} (i j l : Nat), δ[i]? = some (.val (Dl.pairD a)) → δ[j]? = some (.val (Dl.pairD b)) → δ[l]? = some (.val (Dl.pairD c)) → Upto 10000000 a → Upto 10000000 b → Upto 10000000 c →
      WE K B (tCall (SpD K (p3 (Tri 10000000)) fun ds r => ∃ p q z : Pr2, ds = [Dl.pairD p, Dl.pairD q, Dl.pairD z] ∧ r = .int (trn p q z)) [] E0 (tCons (tVar i) (tCons (tVar j) (tCons (tVar l) tNil)))) δ fun y => y = .int (trn a b c) := by
    intro B δ a b c i j l hi hj hl ha hb hc
    refine we_call (wa_cons (we_var hi (wa_cons (we_var hj (wa_cons (we_var hl (wa_nil ⟨⟨a, b, c, rfl, rfl, rfl, ha, hb, hc⟩, ?_⟩)))))))
    rintro _ ⟨a', b', x', e', rfl⟩
    have e1 := pairD_inj (List.cons.inj e').1
    have e2 := pairD_inj (List.cons.inj (List.cons.inj e').2).1
    have e3 := pairD_inj (List.cons.inj (List.cons.inj (List.cons.inj e').2).2).1
    rw [e1, e2, e3]
  refine ws_seq (ws_forP (wi_list (we_call (wa_cons (we_var rfl (wa_nil ⟨⟨ps, rfl, by have := hps.2.1; omega⟩, ?_⟩))))))
  rintro _ ⟨ps', e, rfl⟩
  have e1 := prs_inj (D.tup.inj (List.cons.inj e).1)
  subst e1
  refine ⟨_, rfl, fun n δ1 => ∃ y1 y2 y3, δ1 = [.val (.tup (ps.map Dl.pairD)), .val (.tup (qs.map Dl.pairD)), y1, y2, y3] ∧ ((edg ps).take n).any (fun e => nll e.1 e.2 qs) = false, ⟨_, _, _, rfl, rfl⟩, ?_, ?_⟩
  · rintro n d δ1 hd ⟨y1, y2, y3, rfl, hn⟩
    rw [List.getElem?_map] at hd
    obtain ⟨x, hx, rfl⟩ : ∃ x, (edg ps)[n]? = some x ∧ edgD x = d := by
      cases e : (edg ps)[n]? with
      | none => rw [e] at hd; cases hd
      | some q => rw [e] at hd; exact ⟨q, rfl, Option.some.inj hd⟩
    have hm := edg_mem (List.mem_of_getElem? hx)
    refine ⟨_, _, rfl, ?_⟩
    try dsimp only [List.set]
    refine ws_if (wt_test (we_op (we_cb (wa_cons (we_lcQ (ps := qs) (fun c => .int (trn x.1 x.2 c)) (by have := hqs.2.1; omega) (wi_tup (we_var rfl ⟨_, rfl, rfl⟩)) (fun c hc => tn _ _ _ rfl rfl rfl (hps.2.2 _ hm.1) (hps.2.2 _ hm.2) (hqs.2.2 _ hc)) ?_)))))
    rw [show qs.map (fun c => D.int (trn x.1 x.2 c)) = (qs.map (trn x.1 x.2)).map D.int by rw [List.map_map]; rfl]
    refine wa_nil (rc_max (by rw [List.length_map]; have := hqs.1; omega) fun m hm1 hle => we_int (ro_bl0 ⟨_, rfl, ?_⟩))
    rw [max_nll hm1 hle]
    have key : ((edg ps).take (n + 1)).any (fun e => nll e.1 e.2 qs) = nll x.1 x.2 qs := by
      rw [List.take_add_one, hx, List.any_append, hn]
      show (nll x.1 x.2 qs || false) = _
      rw [Bool.or_false]
    refine ite2 (fun h => ?_) (fun h => ?_)
    · refine ws_ret (we_bl ⟨ps, qs, rfl, ?_⟩)
      have : hde ps qs = true := List.any_eq_true.mpr ⟨x, List.mem_of_getElem? hx, h⟩
      rw [this]; rfl
    · refine ws_next ⟨_, _, _, rfl, ?_⟩
      rw [key]; simpa using h
  rintro δ1 ⟨y1, y2, y3, rfl, hn⟩
  have hn' : hde ps qs = false := by
    rw [List.length_map, List.take_length] at hn
    exact hn
  refine ws_seq (ws_forP (wi_list (we_call (wa_cons (we_var rfl (wa_nil ⟨⟨qs, rfl, by have := hqs.2.1; omega⟩, ?_⟩))))))
  rintro _ ⟨qs', e, rfl⟩
  have e1 := prs_inj (D.tup.inj (List.cons.inj e).1)
  subst e1
  refine ⟨_, rfl, fun n δ1 => ∃ y1 y2 y3, δ1 = [.val (.tup (ps.map Dl.pairD)), .val (.tup (qs.map Dl.pairD)), y1, y2, y3] ∧ ((edg qs).take n).any (fun e => nll e.1 e.2 ps) = false, ⟨_, _, _, rfl, rfl⟩, ?_, ?_⟩
  · rintro n d δ1 hd ⟨y1, y2, y3, rfl, hn⟩
    rw [List.getElem?_map] at hd
    obtain ⟨x, hx, rfl⟩ : ∃ x, (edg qs)[n]? = some x ∧ edgD x = d := by
      cases e : (edg qs)[n]? with
      | none => rw [e] at hd; cases hd
      | some q => rw [e] at hd; exact ⟨q, rfl, Option.some.inj hd⟩
    have hm := edg_mem (List.mem_of_getElem? hx)
    refine ⟨_, _, rfl, ?_⟩
    try dsimp only [List.set]
    refine ws_if (wt_test (we_op (we_cb (wa_cons (we_lcQ (ps := ps) (fun c => .int (trn x.1 x.2 c)) (by have := hps.2.1; omega) (wi_tup (we_var rfl ⟨_, rfl, rfl⟩)) (fun c hc => tn _ _ _ rfl rfl rfl (hqs.2.2 _ hm.1) (hqs.2.2 _ hm.2) (hps.2.2 _ hc)) ?_)))))
    rw [show ps.map (fun c => D.int (trn x.1 x.2 c)) = (ps.map (trn x.1 x.2)).map D.int by rw [List.map_map]; rfl]
    refine wa_nil (rc_max (by rw [List.length_map]; have := hps.1; omega) fun m hm1 hle => we_int (ro_bl0 ⟨_, rfl, ?_⟩))
    rw [max_nll hm1 hle]
    have key : ((edg qs).take (n + 1)).any (fun e => nll e.1 e.2 ps) = nll x.1 x.2 ps := by
      rw [List.take_add_one, hx, List.any_append, hn]
      show (nll x.1 x.2 ps || false) = _
      rw [Bool.or_false]
    refine ite2 (fun h => ?_) (fun h => ?_)
    · refine ws_ret (we_bl ⟨ps, qs, rfl, ?_⟩)
      have : hde qs ps = true := List.any_eq_true.mpr ⟨x, List.mem_of_getElem? hx, h⟩
      rw [this, hn']; rfl
    · refine ws_next ⟨_, _, _, rfl, ?_⟩
      rw [key]; simpa using h
  rintro δ1 ⟨z1, z2, z3, rfl, hn2⟩
  have hn3 : hde qs ps = false := by
    rw [List.length_map, List.take_length] at hn2
    exact hn2
  refine ws_ret (we_bl ⟨ps, qs, rfl, ?_⟩)
  rw [hn', hn3]; rfl

end
/-! #### Xe -/
section
variable {P : Program} {w : World} {K : PySem.W.Frag} {mg : Str → Option Value} {base : Heap}
/-! ### xd1 -/
/-! ### stretches -/
/-- the stretches that two edges in one line share, as the program reckons it -/
def shB (e b : Pr2 × Pr2) : Bool :=
  if trn e.1 e.2 b.1 ≠ 0 ∨ trn e.1 e.2 b.2 ≠ 0 then false
  else decide (max 0 (min (dotP (mns e.2 e.1) (mns b.1 e.1)) (dotP (mns e.2 e.1) (mns b.2 e.1))) < min (dotP (mns e.2 e.1) (mns e.2 e.1)) (max (dotP (mns e.2 e.1) (mns b.1 e.1)) (dotP (mns e.2 e.1) (mns b.2 e.1))))
theorem edgD_inj {e b : Pr2 × Pr2} (h : edgD e = edgD b) : e = b := by
  have h1 := D.tup.inj h
  exact Prod.ext (pairD_inj (List.cons.inj h1).1) (pairD_inj (List.cons.inj (List.cons.inj h1).2).1)
theorem dot_b {n m : Int} {p q : Pr2} (h : Upto n p) (h' : Upto m q) (hn : 0 ≤ n) (hm : 0 ≤ m) : True := trivial
abbrev s_share_stretch : Stmt := topS 11
abbrev N_share_stretch : List Str := ["edge", "beside", "along", "ends", "start", "stop"]
theorem sc_share_stretch : FnScope N_share_stretch ["edge", "beside"] (defScope s_share_stretch) := ⟨rfl, rfl, rfl, by decide +kernel, rfl, by decide +kernel, by decide +kernel⟩
abbrev ClSs (P : Program) (w : World) (K : PySem.W.Frag) (mg : Str → Option Value) (base : Heap) (k : Nat) := Cl P w K mg base k "share_stretch" s_share_stretch ["edge", "beside"] (SpD K (p2 fun x y => ∃ e b : Pr2 × Pr2, x = edgD e ∧ y = edgD b ∧ Upto 10000000 e.1 ∧ Upto 10000000 e.2 ∧ Upto 10000000 b.1 ∧ Upto 10000000 b.2) fun ds r => ∃ e b : Pr2 × Pr2, ds = [edgD e, edgD b] ∧ r = .bl (shB e b))
theorem ok_share_stretch {k : Nat} (G : Gn mg) (F : Df K mg "share_stretch" s_share_stretch) (C_bend : ClBn P w K mg base k) (C_minus : ClMi P w K mg base k) (C_dot : ClDo P w K mg base k) : ClSs P w K mg base (k + 1) := by
  refine cl_of F sc_share_stretch (fun _ _ _ _ _ _ us hl => match us, hl with | [_, _], _ => rfl) p2_len fun f cdv A outer s H E hr => ⟨_, (pss_cons (ps_asg (pv 0) (show PG _ _ (gTup K 2 (gCons (gName 4) (gCons (gName 5) gNil))) from pg_tup rfl (pgs_cons (pg_name (i := 4) sc_share_stretch.nd rfl (Or.inl rfl)) (pgs_cons (pg_name (i := 5) sc_share_stretch.nd rfl (Or.inl rfl)) pgs_nil))))
      (pss_cons (ps_if (PW.pt (pw_or (pt_cmpR op_ne (pe_c C_bend hr (by omega) (by rfl) (pa_cons (pv 4) (pa_cons (pv 5) (pa_cons (pe_ix (show IxR _ (rIxT K) from ix_tup) (pv 1) pe_int (fun _ _ => rfl)) pa_nil)))) pe_int (nomark _)) (pw_or1 (pt_cmpR op_ne (pe_c C_bend hr (by omega) (by rfl) (pa_cons (pv 4) (pa_cons (pv 5) (pa_cons (pe_ix (show IxR _ (rIxT K) from ix_tup) (pv 1) pe_int (fun _ _ => rfl)) pa_nil)))) pe_int (nomark _))))) (pss_one (ps_ret pe_bl)) pss_nil)
      (pss_cons (ps_set (i := 2) sc_share_stretch.nd rfl (Or.inl rfl) (pe_c C_minus hr (by omega) (by rfl) (pa_cons (pv 5) (pa_cons (pv 4) pa_nil))))
      (pss_cons (ps_set (i := 3) sc_share_stretch.nd rfl (Or.inl rfl) (pe_lst (pa_cons (pe_c C_dot hr (by omega) (by rfl) (pa_cons (pv 2) (pa_cons (pe_c C_minus hr (by omega) (by rfl) (pa_cons (pe_ix (show IxR _ (rIxT K) from ix_tup) (pv 1) pe_int (fun _ _ => rfl)) (pa_cons (pv 4) pa_nil))) pa_nil))) (pa_cons (pe_c C_dot hr (by omega) (by rfl) (pa_cons (pv 2) (pa_cons (pe_c C_minus hr (by omega) (by rfl) (pa_cons (pe_ix (show IxR _ (rIxT K) from ix_tup) (pv 1) pe_int (fun _ _ => rfl)) (pa_cons (pv 4) pa_nil))) pa_nil))) pa_nil))))
      (pss_one (ps_ret (pe_cmpR op_gt (pe_callB (show CallR _ (.builtin "min") (fun xs H Q => ∃ i j, xs = [.int i, .int j] ∧ Q (.int (if j < i then j else i)) H) from call_min2 rfl) (by rfl) G.g_min (by decide +kernel) (pa_cons (pe_c C_dot hr (by omega) (by rfl) (pa_cons (pv 2) (pa_cons (pv 2) pa_nil))) (pa_cons (pe_callB (show CallR _ (.builtin "max") (rMax K) from cr_max rfl) (by rfl) G.g_max (by decide +kernel) (pa_cons (pv 3) pa_nil)) pa_nil))) (pe_callB (show CallR _ (.builtin "max") (fun xs H Q => ∃ i j, xs = [.int i, .int j] ∧ Q (.int (if j > i then j else i)) H) from call_max2 rfl) (by rfl) G.g_max (by decide +kernel) (pa_cons pe_int (pa_cons (pe_callB (show CallR _ (.builtin "min") (rMin K) from cr_min rfl) (by rfl) G.g_min (by decide +kernel) (pa_cons (pv 3) pa_nil)) pa_nil))) (nomark _)))))))), fun B ds hp => ?_⟩
  obtain ⟨_, _, rfl, ⟨a, b⟩, ⟨c, d⟩, rfl, rfl, ha, hb, hc, hd⟩ := p2_ex hp
  show WS K B _ [.val (edgD (a, b)), .val (edgD (c, d)), .no, .no, .no, .no] _
  try dsimp only [cxOf, Cx.nox, Cx.blk]
  have fin : ∀ v : Bool, shB (a, b) (c, d) = v → ∃ e b' : Pr2 × Pr2, [edgD (a, b), edgD (c, d)] = [edgD e, edgD b'] ∧ D.bl v = .bl (shB e b') := fun v e => ⟨(a, b), (c, d), rfl, by rw [e]⟩
  have bn : ∀ {Q : D → Prop} (x y z : Pr2), Q (.int (trn x y z)) → ∀ r, (∃ p q z' : Pr2, [Dl.pairD x, Dl.pairD y, Dl.pairD z] = [Dl.pairD p, Dl.pairD q, Dl.pairD z'] ∧ r = .int (trn p q z')) → Q r := by
    rintro Q x y z h r ⟨p, q, z', e, rfl⟩
    have e1 := pairD_inj (List.cons.inj e).1
    have e2 := pairD_inj (List.cons.inj (List.cons.inj e).2).1
    have e3 := pairD_inj (List.cons.inj (List.cons.inj (List.cons.inj e).2).2).1
    rw [← e1, ← e2, ← e3]; exact h
  have mn : ∀ {Q : D → Prop} (x y : Pr2), Q (Dl.pairD (mns x y)) → ∀ r, (∃ p q : Pr2, [Dl.pairD x, Dl.pairD y] = [Dl.pairD p, Dl.pairD q] ∧ r = Dl.pairD (mns p q)) → Q r := by
    rintro Q x y h r ⟨p, q, e, rfl⟩
    have e1 := pairD_inj (List.cons.inj e).1
    have e2 := pairD_inj (List.cons.inj (List.cons.inj e).2).1
    rw [← e1, ← e2]; exact h
  have dt : ∀ {Q : D → Prop} (x y : Pr2), Q (.int (dotP x y)) → ∀ r, (∃ p q : Pr2, [Dl.pairD x, Dl.pairD y] = [Dl.pairD p, Dl.pairD q] ∧ r = .int (dotP p q)) → Q r := by
    rintro Q x y h r ⟨p, q, e, rfl⟩
    have e1 := pairD_inj (List.cons.inj e).1
    have e2 := pairD_inj (List.cons.inj (List.cons.inj e).2).1
    rw [← e1, ← e2]; exact h
  refine ws_seq (ws_unt2 (we_var rfl ⟨_, _, rfl, ?_⟩))
  try dsimp only [List.set]
  refine ws_seq (ws_if (wt_or (wt_test (we_op (we_call (wa_cons (we_var rfl (wa_cons (we_var rfl (wa_cons (we_op (we_var rfl (we_int (ro_ixT (d := Dl.pairD c) rfl (wa_nil ⟨⟨a, b, c, rfl, rfl, rfl, ha, hb, hc⟩, bn a b c ?_⟩)))))))))))))))
  refine we_int (ro_neI ⟨_, rfl, ?_⟩)
  by_cases h1 : trn a b c = 0
  · rw [decide_eq_true h1]
    refine iteF (wt_test (we_op (we_call (wa_cons (we_var rfl (wa_cons (we_var rfl (wa_cons (we_op (we_var rfl (we_int (ro_ixT (d := Dl.pairD d) rfl (wa_nil ⟨⟨a, b, d, rfl, rfl, rfl, ha, hb, hd⟩, bn a b d ?_⟩)))))))))))))
    refine we_int (ro_neI ⟨_, rfl, ?_⟩)
    by_cases h2 : trn a b d = 0
    · rw [decide_eq_true h2]
      refine iteF (ws_next ?_)
      have ub : Upto 20000000 (mns b a) := upto_mns hb ha
      have uc : Upto 20000000 (mns c a) := upto_mns hc ha
      have ud : Upto 20000000 (mns d a) := upto_mns hd ha
      refine ws_seq (ws_set (we_call (wa_cons (we_var rfl (wa_cons (we_var rfl (wa_nil ⟨⟨b, a, rfl, rfl⟩, mn b a ?_⟩)))))))
      try dsimp only [List.set]
      refine ws_seq (ws_set (we_lst (wa_cons (we_call (wa_cons (we_var rfl (wa_cons (we_call (wa_cons (we_op (we_var rfl (we_int (ro_ixT (d := Dl.pairD c) rfl (wa_cons (we_var rfl (wa_nil ⟨⟨c, a, rfl, rfl⟩, mn c a ?_⟩))))))))))))))))
      refine wa_nil ⟨⟨mns b a, mns c a, rfl, rfl, upto_le ub (by decide), upto_le uc (by decide)⟩, dt _ _ ?_⟩
      refine wa_cons (we_call (wa_cons (we_var rfl (wa_cons (we_call (wa_cons (we_op (we_var rfl (we_int (ro_ixT (d := Dl.pairD d) rfl (wa_cons (we_var rfl (wa_nil ⟨⟨d, a, rfl, rfl⟩, mn d a ?_⟩)))))))))))))
      refine wa_nil ⟨⟨mns b a, mns d a, rfl, rfl, upto_le ub (by decide), upto_le ud (by decide)⟩, dt _ _ (wa_nil ⟨by show 2 ≤ 1000; decide, ?_⟩)⟩
      try dsimp only [List.set]
      refine ws_ret (we_op (we_cb (wa_cons (we_call (wa_cons (we_var rfl (wa_cons (we_var rfl (wa_nil ⟨⟨mns b a, mns b a, rfl, rfl, upto_le ub (by decide), upto_le ub (by decide)⟩, dt _ _ ?_⟩)))))))))
      refine wa_cons (we_cb (wa_cons (we_var rfl (wa_nil (rc_max (ns := [dotP (mns b a) (mns c a), dotP (mns b a) (mns d a)]) (by show 0 < 2; decide) fun mx hx hxl => wa_nil (rc_min2 ?_))))))
      refine we_cb (wa_cons (we_int (wa_cons (we_cb (wa_cons (we_var rfl (wa_nil (rc_min (ns := [dotP (mns b a) (mns c a), dotP (mns b a) (mns d a)]) (by show 0 < 2; decide) fun mi hi hil => wa_nil (rc_max2 ?_)))))))))
      refine ro_bl0 (fin _ ?_)
      have hx1 := hxl _ List.mem_cons_self
      have hx2 := hxl _ (List.mem_cons_of_mem _ List.mem_cons_self)
      have hi1 := hil _ List.mem_cons_self
      have hi2 := hil _ (List.mem_cons_of_mem _ List.mem_cons_self)
      simp only [List.mem_cons, List.not_mem_nil, or_false] at hx hi
      unfold shB
      rw [if_neg (by simp [h1, h2])]
      dsimp only
      rw [Bool.eq_iff_iff, decide_eq_true_eq, decide_eq_true_eq]
      generalize dotP (mns b a) (mns c a) = s at *
      generalize dotP (mns b a) (mns d a) = t at *
      generalize dotP (mns b a) (mns b a) = u at *
      split <;> split <;> omega
    · rw [decide_eq_false h2]
      refine iteT (ws_ret (we_bl (fin _ ?_)))
      unfold shB
      rw [if_pos (.inr h2)]
  · rw [decide_eq_false h1]
    refine iteT (ws_ret (we_bl (fin _ ?_)))
    unfold shB
    rw [if_pos (.inl h1)]

end
/-! #### Xf -/
section
variable {P : Program} {w : World} {K : PySem.W.Frag} {mg : Str → Option Value} {base : Heap}
/-! ### xd2 -/
/-! ### joined, and the law's own way -/
def ovB (ps qs : List Pr2) : Bool := !hde ps qs && !hde qs ps
def joB (ps qs : List Pr2) : Bool := !ovB ps qs && (edg ps).any fun e => (edg qs).any fun b => shB e b
def unE : D → Pr2 × Pr2
  | .tup [x, y] => (unD x, unD y)
  | _ => ((0, 0), (0, 0))
theorem unE_edg (e : Pr2 × Pr2) : unE (edgD e) = e := rfl
theorem few_edg {n : Int} {ps : List Pr2} (h : Few n ps) {e : Pr2 × Pr2} (he : e ∈ edg ps) : Upto n e.1 ∧ Upto n e.2 := ⟨h.2.2 _ (edg_mem he).1, h.2.2 _ (edg_mem he).2⟩
abbrev s_joined : Stmt := topS 10
abbrev N_joined : List Str := ["part", "other", "edge", "beside"]
theorem sc_joined : FnScope N_joined ["part", "other"] (defScope s_joined) := ⟨rfl, rfl, rfl, by decide +kernel, rfl, by decide +kernel, by decide +kernel⟩
abbrev ClJo (P : Program) (w : World) (K : PySem.W.Frag) (mg : Str → Option Value) (base : Heap) (k : Nat) := Cl P w K mg base k "joined" s_joined ["part", "other"] (SpD K (twoPre 10000000) fun ds r => ∃ ps qs : List Pr2, ds = [.tup (ps.map Dl.pairD), .tup (qs.map Dl.pairD)] ∧ r = .bl (joB ps qs))
theorem ok_joined {k : Nat} (G : Gn mg) (F : Df K mg "joined" s_joined) (C_overlap : ClOl P w K mg base k) (C_edges : ClEd P w K mg base k) (C_share_stretch : ClSs P w K mg base k) : ClJo P w K mg base (k + 1) := by
  refine cl_of F sc_joined (fun _ _ _ _ _ _ us hl => match us, hl with | [_, _], _ => rfl) p2_len fun f cdv A outer s H E hr => ⟨_, (pss_cons (ps_if (pt_val (pe_c C_overlap hr (by omega) (by rfl) (pa_cons (pv 0) (pa_cons (pv 1) pa_nil)))) (pss_one (ps_ret pe_bl)) pss_nil)
      (pss_one (ps_ret (pe_callB (cr_any rfl) (by rfl) G.g_any (by decide +kernel) (pa_cons (pe_lc2 (own := [("edge", 2), ("beside", 3)]) (vs1 := [3]) (g := gName 2) (g1 := gName 3) (tt := tYes) (tt1 := tYes) rfl sc_joined.nd (pi_list (pe_c C_edges hr (by omega) (by rfl) (pa_cons (pv 0) pa_nil))) (blkOk_by (N := N_joined) (sc := defScope s_joined) (by decide +kernel)) (by decide) (fun _ _ _ _ _ => pg_name (i := 2) sc_joined.nd rfl (Or.inl rfl)) (fun _ _ _ _ _ => pts_nil) (fun _ _ _ _ _ => (show PI _ _ _ (iList K _) from (pi_list (pe_c C_edges hr (by omega) (by rfl) (pa_cons (pv 1) pa_nil))))) (fun _ _ _ _ _ => pg_name (i := 3) sc_joined.nd rfl (Or.inl rfl)) (fun _ _ _ _ _ => pts_nil) (fun _ _ _ _ _ => (pe_c C_share_stretch hr (by omega) (by rfl) (pa_cons (pv 2) (pa_cons (pv 3) pa_nil))))) pa_nil))))), fun B ds hp => ?_⟩
  obtain ⟨_, _, rfl, ps, qs, rfl, rfl, hps, hqs⟩ := p2_ex hp
  show WS K B _ [.val (.tup (ps.map Dl.pairD)), .val (.tup (qs.map Dl.pairD)), .no, .no] _
  try dsimp only [cxOf, Cx.nox, Cx.blk]
  refine ws_seq (ws_if (wt_B (we_call (wa_cons (we_var rfl (wa_cons (we_var rfl (wa_nil ⟨⟨ps, qs, rfl, rfl, hps, hqs⟩, ?_⟩))))))))
  rintro _ ⟨ps', qs', e, rfl⟩
  have e1 := prs_inj (D.tup.inj (List.cons.inj e).1)
  have e2 := prs_inj (D.tup.inj (List.cons.inj (List.cons.inj e).2).1)
  rw [← e1, ← e2]
  clear e1 e2 e
  refine ⟨ovB ps qs, rfl, ?_⟩
  refine ite2 (fun h => ?_) (fun h => ?_)
  · refine ws_ret (we_bl ⟨ps, qs, rfl, ?_⟩)
    unfold joB
    rw [h]; rfl
  refine ws_next ?_
  have h' : ovB ps qs = false := by simpa using h
  have l1 := hps.2.1
  have l2 := hqs.2.1
  have ed : ∀ {B : Bt} {X : Xc} {δ : List Sd} {i : Nat} {ts : List Pr2} {Q : D → Prop}, δ[i]? = some (.val (.tup (ts.map Dl.pairD))) → ts.length ≤ 7 → Q (.lst ((edg ts).map edgD)) → WEx K B X (tCall (SpD K (polyPre 100) fun ds r => ∃ ps : List Pr2, ds = [.tup (ps.map Dl.pairD)] ∧ r = .lst ((edg ps).map edgD)) [] E0 (tCons (tVar i) tNil)) δ Q := by
    intro B X δ i ts Q hi hl hq
    refine we_call (wa_cons (we_var hi (wa_nil ⟨⟨ts, rfl, by omega⟩, ?_⟩)))
    rintro _ ⟨ts', e, rfl⟩
    have e1 := prs_inj (D.tup.inj (List.cons.inj e).1)
    rw [← e1]; exact hq
  refine ws_ret (we_cb (wa_cons (we_lc2 (by decide) (its := (edg ps).map edgD) (its1 := (edg qs).map edgD) (fun d1 d2 => .bl (shB (unE d1) (unE d2))) ?_ (wi_list (ed rfl l1 ⟨_, rfl, rfl⟩)) (fun d1 _ => wi_list (ed rfl l2 ⟨_, rfl, rfl⟩)) (fun d1 h1 d2 h2 => ?_) ?_)))
  · rw [List.length_map, List.length_map, edg_len, edg_len]
    have := Nat.mul_le_mul l1 l2
    omega
  · obtain ⟨e, he, rfl⟩ := List.mem_map.mp h1
    obtain ⟨b, hb, rfl⟩ := List.mem_map.mp h2
    obtain ⟨u1, u2⟩ := few_edg hps he
    obtain ⟨u3, u4⟩ := few_edg hqs hb
    try dsimp only [List.set]
    refine we_call (wa_cons (we_var rfl (wa_cons (we_var rfl (wa_nil ⟨⟨e, b, rfl, rfl, u1, u2, u3, u4⟩, ?_⟩)))))
    rintro _ ⟨e', b', ee, rfl⟩
    have e1 := edgD_inj (List.cons.inj ee).1
    have e2 := edgD_inj (List.cons.inj (List.cons.inj ee).2).1
    rw [unE_edg, unE_edg, e1, e2]
  · have e0 : (((edg ps).map edgD).flatMap fun d1 => ((edg qs).map edgD).map fun d2 => D.bl (shB (unE d1) (unE d2))) = ((edg ps).flatMap fun e => (edg qs).map fun b => shB e b).map D.bl := by
      rw [List.flatMap_map, List.map_flatMap]
      congr 1
      funext e
      rw [List.map_map, List.map_map]
      rfl
    rw [e0]
    refine wa_nil (rc_any ⟨ps, qs, rfl, ?_⟩)
    unfold joB
    rw [h', List.any_flatMap]
    show D.bl _ = D.bl (true && _)
    rw [Bool.true_and]
    congr 2
    funext e
    rw [List.any_map]
    rfl
def lsB (a b c d : Pr2) : Bool :=
  if trn a b c ≠ 0 ∨ trn a b d ≠ 0 then false
  else decide (min (dotP (mns c a) (mns b a)) (dotP (mns d a) (mns b a)) < dotP (mns b a) (mns b a)) && decide (0 < max (dotP (mns c a) (mns b a)) (dotP (mns d a) (mns b a)))
abbrev s__law_share : Stmt := topS 25
abbrev N__law_share : List Str := ["_law_a", "_law_b", "_law_c", "_law_d", "_law_spots", "_law_x", "_law_y"]
theorem sc__law_share : FnScope N__law_share ["_law_a", "_law_b", "_law_c", "_law_d"] (defScope s__law_share) := ⟨rfl, rfl, rfl, by decide +kernel, rfl, by decide +kernel, by decide +kernel⟩
abbrev ClLs (P : Program) (w : World) (K : PySem.W.Frag) (mg : Str → Option Value) (base : Heap) (k : Nat) := Cl P w K mg base k "_law_share" s__law_share ["_law_a", "_law_b", "_law_c", "_law_d"] (SpD K (fun ds => ∃ a b c d : Pr2, ds = [Dl.pairD a, Dl.pairD b, Dl.pairD c, Dl.pairD d] ∧ Upto 10000000 a ∧ Upto 10000000 b ∧ Upto 10000000 c ∧ Upto 10000000 d) fun ds r => ∃ a b c d : Pr2, ds = [Dl.pairD a, Dl.pairD b, Dl.pairD c, Dl.pairD d] ∧ r = .bl (lsB a b c d))
theorem two_srt {s t : Int} {ms : List Int} (p : ms.Perm [s, t]) (o : ms.Pairwise (· ≤ ·)) : ms = [min s t, max s t] := by
  have hl := p.length_eq
  match ms, hl, p, o with
  | [u, v], _, p, o =>
    have h1 := p.mem_iff (a := u)
    have h2 := p.mem_iff (a := v)
    have h3 := p.mem_iff (a := s)
    have h4 := p.mem_iff (a := t)
    simp at h1 h2 h3 h4 o
    have : u = min s t ∧ v = max s t := by omega
    rw [this.1, this.2]
theorem ok__law_share {k : Nat} (G : Gn mg) (F : Df K mg "_law_share" s__law_share) (C__law_turn : ClTu P w K mg base k) : ClLs P w K mg base (k + 1) := by
  refine cl_of F sc__law_share (fun _ _ _ _ _ _ us hl => match us, hl with | [_, _, _, _], _ => rfl) (fun ds ⟨a, b, c, d, e, _⟩ => by rw [e]; rfl) fun f cdv A outer s H E hr => ⟨_, (pss_cons (ps_if (PW.pt (pw_or (pt_cmpR op_ne (pe_c C__law_turn hr (by omega) (by rfl) (pa_cons (pv 0) (pa_cons (pv 1) (pa_cons (pv 2) pa_nil)))) pe_int (nomark _)) (pw_or1 (pt_cmpR op_ne (pe_c C__law_turn hr (by omega) (by rfl) (pa_cons (pv 0) (pa_cons (pv 1) (pa_cons (pv 3) pa_nil)))) pe_int (nomark _))))) (pss_one (ps_ret pe_bl)) pss_nil)
      (pss_cons (ps_par (i := 5) (j := 6) (by rfl) sc__law_share.nd rfl rfl (by decide) rfl rfl (pa_cons (pe_op op_sub (pe_ix (show IxR _ (rIxT K) from ix_tup) (pv 1) pe_int (fun _ _ => rfl)) (pe_ix (show IxR _ (rIxT K) from ix_tup) (pv 0) pe_int (fun _ _ => rfl))) (pa_cons (pe_op op_sub (pe_ix (show IxR _ (rIxT K) from ix_tup) (pv 1) pe_int (fun _ _ => rfl)) (pe_ix (show IxR _ (rIxT K) from ix_tup) (pv 0) pe_int (fun _ _ => rfl))) pa_nil)) (by rfl))
      (pss_cons (ps_set (i := 4) sc__law_share.nd rfl (Or.inl rfl) (pe_callB (show CallR _ (.builtin "sorted") (rSortedI K) from cr_sortedI) (by rfl) G.g_sorted (by decide +kernel) (pa_cons (pe_lst (pa_cons (pe_op op_add (pe_op op_mul (pe_op op_sub (pe_ix (show IxR _ (rIxT K) from ix_tup) (pv 2) pe_int (fun _ _ => rfl)) (pe_ix (show IxR _ (rIxT K) from ix_tup) (pv 0) pe_int (fun _ _ => rfl))) (pv 5)) (pe_op op_mul (pe_op op_sub (pe_ix (show IxR _ (rIxT K) from ix_tup) (pv 2) pe_int (fun _ _ => rfl)) (pe_ix (show IxR _ (rIxT K) from ix_tup) (pv 0) pe_int (fun _ _ => rfl))) (pv 6))) (pa_cons (pe_op op_add (pe_op op_mul (pe_op op_sub (pe_ix (show IxR _ (rIxT K) from ix_tup) (pv 3) pe_int (fun _ _ => rfl)) (pe_ix (show IxR _ (rIxT K) from ix_tup) (pv 0) pe_int (fun _ _ => rfl))) (pv 5)) (pe_op op_mul (pe_op op_sub (pe_ix (show IxR _ (rIxT K) from ix_tup) (pv 3) pe_int (fun _ _ => rfl)) (pe_ix (show IxR _ (rIxT K) from ix_tup) (pv 0) pe_int (fun _ _ => rfl))) (pv 6))) pa_nil))) pa_nil)))
      (pss_one (ps_ret (pe_and (pe_cmpR op_lt (pe_ix (show IxR _ (rIxL K) from ix_list) (pv 4) pe_int (fun _ _ => rfl)) (pe_op op_add (pe_op op_mul (pv 5) (pv 5)) (pe_op op_mul (pv 6) (pv 6))) (nomark _)) (pe_one (pe_cmpR op_gt (pe_ix (show IxR _ (rIxL K) from ix_list) (pv 4) pe_int (fun _ _ => rfl)) pe_int (nomark _))))))))), fun B ds hp => ?_⟩
  obtain ⟨a, b, c, d, rfl, ha, hb, hc, hd⟩ := hp
  show WS K B _ [.val (Dl.pairD a), .val (Dl.pairD b), .val (Dl.pairD c), .val (Dl.pairD d), .no, .no, .no] _
  try dsimp only [cxOf, Cx.nox, Cx.blk]
  have fin : ∀ v : Bool, lsB a b c d = v → ∃ a' b' c' d' : Pr2, [Dl.pairD a, Dl.pairD b, Dl.pairD c, Dl.pairD d] = [Dl.pairD a', Dl.pairD b', Dl.pairD c', Dl.pairD d'] ∧ D.bl v = .bl (lsB a' b' c' d') := fun v e => ⟨a, b, c, d, rfl, by rw [e]⟩
  have bn : ∀ {Q : D → Prop} (x y z : Pr2), Q (.int (trn x y z)) → ∀ r, (∃ p q z' : Pr2, [Dl.pairD x, Dl.pairD y, Dl.pairD z] = [Dl.pairD p, Dl.pairD q, Dl.pairD z'] ∧ r = .int (trn p q z')) → Q r := by
    rintro Q x y z h r ⟨p, q, z', e, rfl⟩
    have e1 := pairD_inj (List.cons.inj e).1
    have e2 := pairD_inj (List.cons.inj (List.cons.inj e).2).1
    have e3 := pairD_inj (List.cons.inj (List.cons.inj (List.cons.inj e).2).2).1
    rw [← e1, ← e2, ← e3]; exact h
  refine ws_seq (ws_if (wt_or (wt_test (we_op (we_call (wa_cons (we_var rfl (wa_cons (we_var rfl (wa_cons (we_var rfl (wa_nil ⟨⟨a, b, c, rfl, rfl, rfl, ha, hb, hc⟩, bn a b c ?_⟩))))))))))))
  refine we_int (ro_neI ⟨_, rfl, ?_⟩)
  by_cases h1 : trn a b c = 0
  · rw [decide_eq_true h1]
    refine iteF (wt_test (we_op (we_call (wa_cons (we_var rfl (wa_cons (we_var rfl (wa_cons (we_var rfl (wa_nil ⟨⟨a, b, d, rfl, rfl, rfl, ha, hb, hd⟩, bn a b d ?_⟩))))))))))
    refine we_int (ro_neI ⟨_, rfl, ?_⟩)
    by_cases h2 : trn a b d = 0
    · rw [decide_eq_true h2]
      refine iteF (ws_next ?_)
      obtain ⟨a1, a2, a3, a4⟩ := ha
      obtain ⟨b1, b2, b3, b4⟩ := hb
      obtain ⟨c1, c2, c3, c4⟩ := hc
      obtain ⟨d1, d2, d3, d4⟩ := hd
      refine ws_seq (ws_par (wa_cons (we_op (we_op (we_var rfl (we_int (ix0 (we_op (we_var rfl (we_int (ix0 (ro_int0 ?_))))))))))))
      refine wa_cons (we_op (we_op (we_var rfl (we_int (ix1 (we_op (we_var rfl (we_int (ix1 (ro_int0 (wa_nil ⟨_, _, rfl, ?_⟩)))))))))))
      try dsimp only [List.set]
      refine ws_seq (ws_set ?_)
      repeat walk_at "dl"
      refine ix0 ?_
      repeat walk_at "dl"
      refine ix0 ?_
      repeat walk_at "dl"
      refine ro_int (.inl ⟨by omega, by omega⟩) ?_
      repeat walk_at "dl"
      refine ix1 ?_
      repeat walk_at "dl"
      refine ix1 ?_
      repeat walk_at "dl"
      refine ro_int (.inl ⟨by omega, by omega⟩) ?_
      repeat walk_at "dl"
      refine ix0 ?_
      repeat walk_at "dl"
      refine ix0 ?_
      repeat walk_at "dl"
      refine ro_int (.inl ⟨by omega, by omega⟩) ?_
      repeat walk_at "dl"
      refine ix1 ?_
      repeat walk_at "dl"
      refine ix1 ?_
      repeat walk_at "dl"
      refine ro_int (.inl ⟨by omega, by omega⟩) ?_
      repeat walk_at "dl"
      refine rc_sortI (ns := [dotP (mns c a) (mns b a), dotP (mns d a) (mns b a)]) fun ms pm pw => ?_
      rw [two_srt pm pw]
      try dsimp only [List.set, List.map]
      repeat walk_at "dl"
      refine ro_ixL rfl ?_
      repeat walk_at "dl"
      refine ro_int (.inl ⟨by omega, by omega⟩) ?_
      repeat walk_at "dl"
      refine ro_int (.inl ⟨by omega, by omega⟩) ?_
      repeat walk_at "dl"
      refine ite2 (fun h => ?_) (fun h => ?_)
      · repeat walk_at "dl"
        refine ro_ixL rfl ?_
        repeat walk_at "dl"
        refine fin _ ?_
        unfold lsB
        rw [if_neg (by simp [h1, h2])]
        have hd : decide (min (dotP (mns c a) (mns b a)) (dotP (mns d a) (mns b a)) < dotP (mns b a) (mns b a)) = true := h
        rw [hd, Bool.true_and]
      · refine fin _ ?_
        unfold lsB
        rw [if_neg (by simp [h1, h2])]
        have hd : decide (min (dotP (mns c a) (mns b a)) (dotP (mns d a) (mns b a)) < dotP (mns b a) (mns b a)) = false := Bool.eq_false_iff.mpr h
        rw [hd]; rfl
    · rw [decide_eq_false h2]
      refine iteT (ws_ret (we_bl (fin _ ?_)))
      unfold lsB
      rw [if_pos (.inr h2)]
  · rw [decide_eq_false h1]
    refine iteT (ws_ret (we_bl (fin _ ?_)))
    unfold lsB
    rw [if_pos (.inl h1)]

end
/-! #### Xg -/
section
variable {P : Program} {w : World} {K : PySem.W.Frag} {mg : Str → Option Value} {base : Heap}
/-! ### xd3 -/
theorem one_pair {ps : List Pr2} {n : Nat} {d : D} (hd : (ps.map Dl.pairD)[n]? = some d) : ∃ x, ps[n]? = some x ∧ d = Dl.pairD x := by
  rw [List.getElem?_map] at hd
  cases e : ps[n]? with
  | none => rw [e] at hd; cases hd
  | some q => rw [e] at hd; exact ⟨q, rfl, (Option.some.inj hd).symm⟩
/-! ### _law_hang, _law_meet -/
def hgB (ps qs : List Pr2) : Bool := !ovB ps qs && (edg ps).any fun e => (edg qs).any fun b => lsB e.1 e.2 b.1 b.2
abbrev s__law_hang : Stmt := topS 26
abbrev N__law_hang : List Str := ["_law_p", "_law_q", "_law_a", "_law_b", "_law_c", "_law_d"]
theorem sc__law_hang : FnScope N__law_hang ["_law_p", "_law_q"] (defScope s__law_hang) := ⟨rfl, rfl, rfl, by decide +kernel, rfl, by decide +kernel, by decide +kernel⟩
abbrev ClHg (P : Program) (w : World) (K : PySem.W.Frag) (mg : Str → Option Value) (base : Heap) (k : Nat) := Cl P w K mg base k "_law_hang" s__law_hang ["_law_p", "_law_q"] (SpD K (twoPre 10000000) fun ds r => ∃ ps qs : List Pr2, ds = [.tup (ps.map Dl.pairD), .tup (qs.map Dl.pairD)] ∧ r = .bl (hgB ps qs))
theorem ok__law_hang {k : Nat} (G : Gn mg) (F : Df K mg "_law_hang" s__law_hang) (C__law_over : ClOv P w K mg base k) (C__law_edges : ClEg P w K mg base k) (C__law_share : ClLs P w K mg base k) : ClHg P w K mg base (k + 1) := by
  refine cl_of F sc__law_hang (fun _ _ _ _ _ _ us hl => match us, hl with | [_, _], _ => rfl) p2_len fun f cdv A outer s H E hr => ⟨_, (pss_cons (ps_if (pt_val (pe_c C__law_over hr (by omega) (by rfl) (pa_cons (pv 0) (pa_cons (pv 1) pa_nil)))) (pss_one (ps_ret pe_bl)) pss_nil)
      (pss_cons (ps_for PassesOwn.never rfl (pi_list (pe_c C__law_edges hr (by omega) (by rfl) (pa_cons (pv 0) pa_nil))) (show PG _ _ (gTup K 2 (gCons (gName 2) (gCons (gName 3) gNil))) from pg_tup rfl (pgs_cons (pg_name (i := 2) sc__law_hang.nd rfl (Or.inr rfl)) (pgs_cons (pg_name (i := 3) sc__law_hang.nd rfl (Or.inr rfl)) pgs_nil))) (pss_one (ps_if (pt_val (pe_callB (cr_any rfl) (by rfl) G.g_any (by decide +kernel) (pa_cons (pe_lc (own := [("_law_c", 4), ("_law_d", 5)]) (g := (gTup K 2 (gCons (gName 4) (gCons (gName 5) gNil)))) (tt := tYes) rfl sc__law_hang.nd (pi_list (pe_c C__law_edges hr (by omega) (by rfl) (pa_cons (pv 1) pa_nil))) (blkOk_by (N := N__law_hang) (sc := defScope s__law_hang) (by decide +kernel)) (fun _ _ _ _ _ => show PG _ _ (gTup K 2 (gCons (gName 4) (gCons (gName 5) gNil))) from pg_tup rfl (pgs_cons (pg_name (i := 4) sc__law_hang.nd rfl (Or.inl rfl)) (pgs_cons (pg_name (i := 5) sc__law_hang.nd rfl (Or.inl rfl)) pgs_nil))) (fun _ _ _ _ _ => pts_nil) (fun _ _ _ _ _ => (pe_c C__law_share hr (by omega) (by rfl) (pa_cons (pv 2) (pa_cons (pv 3) (pa_cons (pv 4) (pa_cons (pv 5) pa_nil))))))) pa_nil))) (pss_one (ps_ret pe_bl)) pss_nil)))
      (pss_one (ps_ret pe_bl)))), fun B ds hp => ?_⟩
  obtain ⟨_, _, rfl, ps, qs, rfl, rfl, hps, hqs⟩ := p2_ex hp
  show WS K B _ [.val (.tup (ps.map Dl.pairD)), .val (.tup (qs.map Dl.pairD)), .no, .no, .no, .no] _
  try dsimp only [cxOf, Cx.nox, Cx.blk]
  refine ws_seq (ws_if (wt_B (we_call (wa_cons (we_var rfl (wa_cons (we_var rfl (wa_nil ⟨⟨ps, qs, rfl, rfl, hps, hqs⟩, ?_⟩))))))))
  rintro _ ⟨ps', qs', e, rfl⟩
  have e1 := prs_inj (D.tup.inj (List.cons.inj e).1)
  have e2 := prs_inj (D.tup.inj (List.cons.inj (List.cons.inj e).2).1)
  rw [← e1, ← e2]
  clear e1 e2 e
  refine ⟨ovB ps qs, rfl, ?_⟩
  refine ite2 (fun h => ?_) (fun h => ?_)
  · refine ws_ret (we_bl ⟨ps, qs, rfl, ?_⟩)
    unfold hgB
    rw [h]; rfl
  refine ws_next ?_
  have h' : ovB ps qs = false := by simpa using h
  have l1 := hps.2.1
  have l2 := hqs.2.1
  have ed : ∀ {B : Bt} {X : Xc} {δ : List Sd} {i : Nat} {ts : List Pr2} {Q : D → Prop}, δ[i]? = some (.val (.tup (ts.map Dl.pairD))) → ts.length ≤ 7 → Q (.lst ((edg ts).map edgD)) → WEx K B X (tCall (SpD K (polyPre 100) fun ds r => ∃ ps : List Pr2, ds = [.tup (ps.map Dl.pairD)] ∧ r = .lst ((edg ps).map edgD)) [] E0 (tCons (tVar i) tNil)) δ Q := by
    intro B X δ i ts Q hi hl hq
    refine we_call (wa_cons (we_var hi (wa_nil ⟨⟨ts, rfl, by omega⟩, ?_⟩)))
    rintro _ ⟨ts', e, rfl⟩
    have e1 := prs_inj (D.tup.inj (List.cons.inj e).1)
    rw [← e1]; exact hq
  let G1 : Pr2 × Pr2 → Bool := fun e => (edg qs).any fun b => lsB e.1 e.2 b.1 b.2
  have hfin : ∀ v : Bool, (edg ps).any G1 = v → ∃ ps' qs' : List Pr2, [D.tup (ps.map Dl.pairD), .tup (qs.map Dl.pairD)] = [.tup (ps'.map Dl.pairD), .tup (qs'.map Dl.pairD)] ∧ D.bl v = .bl (hgB ps' qs') := fun v e => ⟨ps, qs, rfl, by unfold hgB; rw [h', ← e]; rfl⟩
  refine ws_seq (ws_forP (wi_list (ed rfl l1 ⟨_, rfl, fun n δ1 => ∃ y1 y2 y3 y4, δ1 = [.val (.tup (ps.map Dl.pairD)), .val (.tup (qs.map Dl.pairD)), y1, y2, y3, y4] ∧ ((edg ps).take n).any G1 = false, ⟨_, _, _, _, rfl, rfl⟩, ?_, ?_⟩)))
  · rintro n d δ1 hd ⟨y1, y2, y3, y4, rfl, hn⟩
    rw [List.getElem?_map] at hd
    obtain ⟨x, hx, rfl⟩ : ∃ x, (edg ps)[n]? = some x ∧ edgD x = d := by
      cases e : (edg ps)[n]? with
      | none => rw [e] at hd; cases hd
      | some q => rw [e] at hd; exact ⟨q, rfl, Option.some.inj hd⟩
    have hxm := List.mem_of_getElem? hx
    obtain ⟨u1, u2⟩ := few_edg hps hxm
    refine ⟨_, _, rfl, ?_⟩
    try dsimp only [List.set]
    refine ws_if (wt_B (we_cb (wa_cons (we_lcPQ (by decide) (es := edg qs) (fun b => .bl (lsB x.1 x.2 b.1 b.2)) (by rw [edg_len]; omega) (wi_list (ed rfl l2 ⟨_, rfl, rfl⟩)) (fun b hb => ?_) ?_))))
    · obtain ⟨u3, u4⟩ := few_edg hqs hb
      try dsimp only [List.set]
      refine we_call (wa_cons (we_var rfl (wa_cons (we_var rfl (wa_cons (we_var rfl (wa_cons (we_var rfl (wa_nil ⟨⟨x.1, x.2, b.1, b.2, rfl, u1, u2, u3, u4⟩, ?_⟩)))))))))
      rintro _ ⟨a', b', c', d', e, rfl⟩
      have e1 := pairD_inj (List.cons.inj e).1
      have e2 := pairD_inj (List.cons.inj (List.cons.inj e).2).1
      have e3 := pairD_inj (List.cons.inj (List.cons.inj (List.cons.inj e).2).2).1
      have e4 := pairD_inj (List.cons.inj (List.cons.inj (List.cons.inj (List.cons.inj e).2).2).2).1
      rw [e1, e2, e3, e4]
    · rw [show (edg qs).map (fun b => D.bl (lsB x.1 x.2 b.1 b.2)) = ((edg qs).map fun b => lsB x.1 x.2 b.1 b.2).map D.bl by rw [List.map_map]; rfl]
      refine wa_nil (rc_any ⟨_, rfl, ?_⟩)
      have eg : ((edg qs).map fun b => lsB x.1 x.2 b.1 b.2).any id = G1 x := by
        rw [List.any_map]; rfl
      rw [eg]
      refine ite2 (fun h => ?_) (fun h => ?_)
      · exact ws_ret (we_bl (hfin _ (List.any_eq_true.mpr ⟨x, hxm, h⟩)))
      · refine ws_next ⟨_, _, _, _, rfl, ?_⟩
        rw [List.take_add_one, hx, List.any_append, hn]
        show (G1 x || false) = false
        rw [Bool.or_false]
        exact Bool.eq_false_iff.mpr h
  · rintro δ1 ⟨y1, y2, y3, y4, rfl, hn⟩
    rw [List.length_map, List.take_length] at hn
    exact ws_ret (we_bl (hfin _ hn))
/-- the law's way with the normals -/
def nrA (e : Pr2 × Pr2) : Pr2 := (e.2.2 - e.1.2, e.1.1 - e.2.1)
def nrB (e : Pr2 × Pr2) : Pr2 := (e.1.2 - e.2.2, e.2.1 - e.1.1)
def mtB (ps qs : List Pr2) : Bool := !((edg ps).map nrA ++ (edg qs).map nrB).any fun n => qs.all fun y => ps.all fun x => decide (0 ≤ dotP n (mns y x))
abbrev s__law_meet : Stmt := topS 34
abbrev N__law_meet : List Str := ["_law_p", "_law_q", "_law_apart", "_law_y", "_law_normals", "_law_x", "_law_a", "_law_b", "_law_n", "_law_d"]
theorem sc__law_meet : FnScope N__law_meet ["_law_p", "_law_q"] (defScope s__law_meet) := ⟨rfl, rfl, rfl, by decide +kernel, rfl, by decide +kernel, by decide +kernel⟩
abbrev ClMe (P : Program) (w : World) (K : PySem.W.Frag) (mg : Str → Option Value) (base : Heap) (k : Nat) := Cl P w K mg base k "_law_meet" s__law_meet ["_law_p", "_law_q"] (SpD K (twoPre 10000000) fun ds r => ∃ ps qs : List Pr2, ds = [.tup (ps.map Dl.pairD), .tup (qs.map Dl.pairD)] ∧ r = .bl (mtB ps qs))
theorem min_ge0 {f : Pr2 → Int} {cs : List Pr2} {m : Int} (hm : m ∈ cs.map f) (hle : ∀ y ∈ cs.map f, m ≤ y) : decide (m ≥ 0) = cs.all fun c => decide (0 ≤ f c) := by
  rw [Bool.eq_iff_iff, List.all_eq_true, decide_eq_true_eq]
  constructor
  · intro h c hc
    have := hle _ (List.mem_map.mpr ⟨c, hc, rfl⟩)
    exact decide_eq_true (Int.le_trans h this)
  · intro h
    obtain ⟨c, hc, rfl⟩ := List.mem_map.mp hm
    exact of_decide_eq_true (h c hc)
def apP (ps qs : List Pr2) : List Pr2 := qs.flatMap fun y => ps.map fun x => mns y x
theorem apP_len {ps qs : List Pr2} : (apP ps qs).length = qs.length * ps.length := by
  unfold apP
  induction qs with
  | nil => simp
  | cons q qs ih => rw [List.flatMap_cons, List.length_append, ih, List.length_map, List.length_cons, Nat.succ_mul, Nat.add_comm]
theorem ok__law_meet {k : Nat} (G : Gn mg) (F : Df K mg "_law_meet" s__law_meet) (C__law_edges : ClEg P w K mg base k) : ClMe P w K mg base (k + 1) := by
  refine cl_of F sc__law_meet (fun _ _ _ _ _ _ us hl => match us, hl with | [_, _], _ => rfl) p2_len fun f cdv A outer s H E hr => ⟨_, (pss_cons (ps_set (i := 2) sc__law_meet.nd rfl (Or.inr rfl) (pe_lst pa_nil))
      (pss_cons (ps_for PassesOwn.never rfl (pi_tup (pv 1)) (pg_name (i := 3) sc__law_meet.nd rfl (Or.inr rfl)) (pss_one (ps_set (i := 2) sc__law_meet.nd rfl (Or.inr rfl) (pe_op op_cat (pv 2) (pe_lc (own := [("_law_x", 5)]) (g := gName 5) (tt := tYes) rfl sc__law_meet.nd (pi_tup (pv 0)) (blkOk_by (N := N__law_meet) (sc := defScope s__law_meet) (by decide +kernel)) (fun _ _ _ _ _ => pg_name (i := 5) sc__law_meet.nd rfl (Or.inl rfl)) (fun _ _ _ _ _ => pts_nil) (fun _ _ _ _ _ => (pe_tupZ (pa_cons (pe_op op_sub (pe_ix (show IxR _ (rIxT K) from ix_tup) (pv 3) pe_int (fun _ _ => rfl)) (pe_ix (show IxR _ (rIxT K) from ix_tup) (pv 5) pe_int (fun _ _ => rfl))) (pa_cons (pe_op op_sub (pe_ix (show IxR _ (rIxT K) from ix_tup) (pv 3) pe_int (fun _ _ => rfl)) (pe_ix (show IxR _ (rIxT K) from ix_tup) (pv 5) pe_int (fun _ _ => rfl))) pa_nil)))))))))
      (pss_cons (ps_set (i := 4) sc__law_meet.nd rfl (Or.inl rfl) (pe_op op_cat (pe_lc (own := [("_law_a", 6), ("_law_b", 7)]) (g := (gTup K 2 (gCons (gName 6) (gCons (gName 7) gNil)))) (tt := tYes) rfl sc__law_meet.nd (pi_list (pe_c C__law_edges hr (by omega) (by rfl) (pa_cons (pv 0) pa_nil))) (blkOk_by (N := N__law_meet) (sc := defScope s__law_meet) (by decide +kernel)) (fun _ _ _ _ _ => show PG _ _ (gTup K 2 (gCons (gName 6) (gCons (gName 7) gNil))) from pg_tup rfl (pgs_cons (pg_name (i := 6) sc__law_meet.nd rfl (Or.inl rfl)) (pgs_cons (pg_name (i := 7) sc__law_meet.nd rfl (Or.inl rfl)) pgs_nil))) (fun _ _ _ _ _ => pts_nil) (fun _ _ _ _ _ => (pe_tupZ (pa_cons (pe_op op_sub (pe_ix (show IxR _ (rIxT K) from ix_tup) (pv 7) pe_int (fun _ _ => rfl)) (pe_ix (show IxR _ (rIxT K) from ix_tup) (pv 6) pe_int (fun _ _ => rfl))) (pa_cons (pe_op op_sub (pe_ix (show IxR _ (rIxT K) from ix_tup) (pv 6) pe_int (fun _ _ => rfl)) (pe_ix (show IxR _ (rIxT K) from ix_tup) (pv 7) pe_int (fun _ _ => rfl))) pa_nil))))) (pe_lc (own := [("_law_a", 6), ("_law_b", 7)]) (g := (gTup K 2 (gCons (gName 6) (gCons (gName 7) gNil)))) (tt := tYes) rfl sc__law_meet.nd (pi_list (pe_c C__law_edges hr (by omega) (by rfl) (pa_cons (pv 1) pa_nil))) (blkOk_by (N := N__law_meet) (sc := defScope s__law_meet) (by decide +kernel)) (fun _ _ _ _ _ => show PG _ _ (gTup K 2 (gCons (gName 6) (gCons (gName 7) gNil))) from pg_tup rfl (pgs_cons (pg_name (i := 6) sc__law_meet.nd rfl (Or.inl rfl)) (pgs_cons (pg_name (i := 7) sc__law_meet.nd rfl (Or.inl rfl)) pgs_nil))) (fun _ _ _ _ _ => pts_nil) (fun _ _ _ _ _ => (pe_tupZ (pa_cons (pe_op op_sub (pe_ix (show IxR _ (rIxT K) from ix_tup) (pv 6) pe_int (fun _ _ => rfl)) (pe_ix (show IxR _ (rIxT K) from ix_tup) (pv 7) pe_int (fun _ _ => rfl))) (pa_cons (pe_op op_sub (pe_ix (show IxR _ (rIxT K) from ix_tup) (pv 7) pe_int (fun _ _ => rfl)) (pe_ix (show IxR _ (rIxT K) from ix_tup) (pv 6) pe_int (fun _ _ => rfl))) pa_nil)))))))
      (pss_one (ps_ret (pe_not (pe_callB (cr_any rfl) (by rfl) G.g_any (by decide +kernel) (pa_cons (pe_lc (own := [("_law_n", 8)]) (g := gName 8) (tt := tYes) rfl sc__law_meet.nd (pi_list (pv 4)) (blkOk_by (N := N__law_meet) (sc := defScope s__law_meet) (by decide +kernel)) (fun _ _ _ _ _ => pg_name (i := 8) sc__law_meet.nd rfl (Or.inr rfl)) (fun _ _ _ _ _ => pts_nil) (fun _ _ _ _ _ => (pe_cmpR op_ge (pe_callB (show CallR _ (.builtin "min") (rMin K) from cr_min rfl) (by rfl) G.g_min (by decide +kernel) (pa_cons (pe_lc (own := [("_law_d", 9)]) (g := gName 9) (tt := tYes) rfl sc__law_meet.nd (show PI _ _ _ (iList K _) from (pi_list (pv 2))) (blkOk_by (N := N__law_meet) (by rfl)) (fun _ _ _ _ _ => pg_name (i := 9) sc__law_meet.nd rfl (Or.inl rfl)) (fun _ _ _ _ _ => pts_nil) (fun _ _ _ _ _ => (pe_op op_add (pe_op op_mul (pe_ix (show IxR _ (rIxT K) from ix_tup) (pv 8) pe_int (fun _ _ => rfl)) (pe_ix (show IxR _ (rIxT K) from ix_tup) (pv 9) pe_int (fun _ _ => rfl))) (pe_op op_mul (pe_ix (show IxR _ (rIxT K) from ix_tup) (pv 8) pe_int (fun _ _ => rfl)) (pe_ix (show IxR _ (rIxT K) from ix_tup) (pv 9) pe_int (fun _ _ => rfl)))))) pa_nil)) pe_int (nomark _)))) pa_nil)))))))), fun B ds hp => ?_⟩
  obtain ⟨_, _, rfl, ps, qs, rfl, rfl, hps, hqs⟩ := p2_ex hp
  show WS K B _ [.val (.tup (ps.map Dl.pairD)), .val (.tup (qs.map Dl.pairD)), .no, .no, .no, .no, .no, .no, .no, .no] _
  try dsimp only [cxOf, Cx.nox, Cx.blk]
  have l1 := hps.2.1
  have l2 := hqs.2.1
  have ed : ∀ {B : Bt} {X : Xc} {δ : List Sd} {i : Nat} {ts : List Pr2} {Q : D → Prop}, δ[i]? = some (.val (.tup (ts.map Dl.pairD))) → ts.length ≤ 7 → Q (.lst ((edg ts).map edgD)) → WEx K B X (tCall (SpD K (polyPre 100) fun ds r => ∃ ps : List Pr2, ds = [.tup (ps.map Dl.pairD)] ∧ r = .lst ((edg ps).map edgD)) [] E0 (tCons (tVar i) tNil)) δ Q := by
    intro B X δ i ts Q hi hl hq
    refine we_call (wa_cons (we_var hi (wa_nil ⟨⟨ts, rfl, by omega⟩, ?_⟩)))
    rintro _ ⟨ts', e, rfl⟩
    have e1 := prs_inj (D.tup.inj (List.cons.inj e).1)
    rw [← e1]; exact hq
  refine ws_seq (ws_set (we_lst (wa_nil ⟨by decide, ?_⟩)))
  try dsimp only [List.set]
  refine ws_seq (ws_for (wi_tup (we_var rfl ⟨_, rfl, fun n δ1 => ∃ y3 y4 y5 y6 y7 y8 y9, δ1 = [.val (.tup (ps.map Dl.pairD)), .val (.tup (qs.map Dl.pairD)), .val (.lst ((apP ps (qs.take n)).map Dl.pairD)), y3, y4, y5, y6, y7, y8, y9], ⟨_, _, _, _, _, _, _, rfl⟩, ?_, ?_⟩)))
  · rintro n d δ1 hd ⟨y3, y4, y5, y6, y7, y8, y9, rfl⟩
    obtain ⟨y, hy, rfl⟩ := one_pair hd
    have hn : n < 7 := by have := (List.getElem?_eq_some_iff.mp hy).1; omega
    try dsimp only [List.set]
    refine ws_set (we_op ?_)
    refine we_var rfl ?_
    refine we_lcQ (ps := ps) (fun x => Dl.pairD (mns y x)) (by omega) (wi_tup (we_var rfl ⟨_, rfl, rfl⟩)) (fun x hx => ?_) (ro_cat ?_ ?_)
    · try dsimp only [List.set]
      refine we_tup (wa_cons (we_op (we_op (we_var rfl (we_int (ix0 (we_op (we_var rfl (we_int (ix0 (ro_int0 ?_)))))))))))
      refine wa_cons (we_op (we_op (we_var rfl (we_int (ix1 (we_op (we_var rfl (we_int (ix1 (ro_int0 (wa_nil ⟨by show 2 ≤ 1000; decide, rfl⟩)))))))))))
    · rw [List.length_map, List.length_map, apP_len, List.length_take]
      have := Nat.mul_le_mul (show min n qs.length ≤ 7 by omega) l1
      omega
    · try dsimp only [List.set]
      refine ⟨.val (Dl.pairD y), y4, y5, y6, y7, y8, y9, ?_⟩
      have ea : (apP ps (qs.take (n + 1))).map Dl.pairD = (apP ps (qs.take n)).map Dl.pairD ++ ps.map (fun x => Dl.pairD (mns y x)) := by
        unfold apP
        rw [List.take_add_one, hy, List.flatMap_append, List.map_append]
        show _ ++ (((ps.map fun x => mns y x) ++ []).map Dl.pairD) = _
        rw [List.append_nil, List.map_map]
        rfl
      rw [ea]
  · rintro δ1 ⟨y3, y4, y5, y6, y7, y8, y9, rfl⟩
    rw [List.length_map, List.take_length]
    refine ws_seq (ws_set (we_op (we_lcPQ (by decide) (es := edg ps) (fun e => Dl.pairD (nrA e)) (by rw [edg_len]; omega) (wi_list (ed rfl l1 ⟨_, rfl, rfl⟩)) (fun e he => ?_) ?_)))
    · try dsimp only [List.set]
      refine we_tup (wa_cons (we_op (we_op (we_var rfl (we_int (ix1 (we_op (we_var rfl (we_int (ix1 (ro_int0 ?_)))))))))))
      refine wa_cons (we_op (we_op (we_var rfl (we_int (ix0 (we_op (we_var rfl (we_int (ix0 (ro_int0 (wa_nil ⟨by show 2 ≤ 1000; decide, rfl⟩)))))))))))
    refine we_lcPQ (by decide) (es := edg qs) (fun e => Dl.pairD (nrB e)) (by rw [edg_len]; omega) (wi_list (ed rfl l2 ⟨_, rfl, rfl⟩)) (fun e he => ?_) (ro_cat ?_ ?_)
    · try dsimp only [List.set]
      refine we_tup (wa_cons (we_op (we_op (we_var rfl (we_int (ix1 (we_op (we_var rfl (we_int (ix1 (ro_int0 ?_)))))))))))
      refine wa_cons (we_op (we_op (we_var rfl (we_int (ix0 (we_op (we_var rfl (we_int (ix0 (ro_int0 (wa_nil ⟨by show 2 ≤ 1000; decide, rfl⟩)))))))))))
    · rw [List.length_map, List.length_map, edg_len, edg_len]; omega
    have en : ((edg ps).map fun e => Dl.pairD (nrA e)) ++ ((edg qs).map fun e => Dl.pairD (nrB e)) = ((edg ps).map nrA ++ (edg qs).map nrB).map Dl.pairD := by
      rw [List.map_append, List.map_map, List.map_map]; rfl
    rw [en]
    try dsimp only [List.set]
    have hN : ((edg ps).map nrA ++ (edg qs).map nrB).length ≤ 14 := by rw [List.length_append, List.length_map, List.length_map, edg_len, edg_len]; omega
    have hNb : ∀ n ∈ (edg ps).map nrA ++ (edg qs).map nrB, Upto 20000000 n := by
      intro n hn
      rcases List.mem_append.mp hn with h | h
      · obtain ⟨e, he, rfl⟩ := List.mem_map.mp h
        obtain ⟨⟨u1, u2, u3, u4⟩, ⟨v1, v2, v3, v4⟩⟩ := few_edg hps he
        refine ⟨?_, ?_, ?_, ?_⟩ <;> dsimp only [nrA] <;> omega
      · obtain ⟨e, he, rfl⟩ := List.mem_map.mp h
        obtain ⟨⟨u1, u2, u3, u4⟩, ⟨v1, v2, v3, v4⟩⟩ := few_edg hqs he
        refine ⟨?_, ?_, ?_, ?_⟩ <;> dsimp only [nrB] <;> omega
    have hA0 : 0 < (apP ps qs).length := by rw [apP_len]; exact Nat.mul_pos (by have := hqs.1; omega) (by have := hps.1; omega)
    have hA1 : (apP ps qs).length ≤ 49 := by rw [apP_len]; exact Nat.mul_le_mul l2 l1
    have hAb : ∀ d ∈ apP ps qs, Upto 20000000 d := by
      intro d hd
      unfold apP at hd
      obtain ⟨y, hy, hd⟩ := List.mem_flatMap.mp hd
      obtain ⟨x, hx, rfl⟩ := List.mem_map.mp hd
      exact upto_mns (hqs.2.2 y hy) (hps.2.2 x hx)
    have hall : ∀ n : Pr2, ((apP ps qs).all fun d => decide (0 ≤ dotP n d)) = (qs.all fun y => ps.all fun x => decide (0 ≤ dotP n (mns y x))) := by
      intro n
      unfold apP
      rw [List.all_flatMap]
      congr 1
      funext y
      rw [List.all_map]
      rfl
    generalize hNN : (edg ps).map nrA ++ (edg qs).map nrB = N at hN hNb
    generalize hAA : apP ps qs = A0 at hA0 hA1 hAb hall
    refine ws_ret (we_notV (we_cb (wa_cons (we_lcQ (ps := N) (fun n => .bl (A0.all fun d => decide (0 ≤ dotP n d))) (by omega) (wi_list (we_var rfl ⟨_, rfl, rfl⟩)) (fun n hn => ?_) ?_))))
    · obtain ⟨u1, u2, u3, u4⟩ := hNb n hn
      try dsimp only [List.set]
      refine we_op (we_cb (wa_cons (we_lcQ (ps := A0) (fun d => .int (dotP n d)) (by omega) (wi_list (we_var rfl ⟨_, rfl, rfl⟩)) (fun d hd => ?_) ?_)))
      · obtain ⟨v1, v2, v3, v4⟩ := hAb d hd
        try dsimp only [List.set]
        refine we_op (we_op (we_op (we_var rfl (we_int (ix0 (we_op (we_var rfl (we_int (ix0 (ro_int (.inl ⟨by omega, by omega⟩) ?_))))))))))
        refine we_op (we_op (we_var rfl (we_int (ix1 (we_op (we_var rfl (we_int (ix1 (ro_int (.inl ⟨by omega, by omega⟩) (ro_int0 rfl))))))))))
      · rw [show A0.map (fun d => D.int (dotP n d)) = (A0.map (dotP n)).map D.int by rw [List.map_map]; rfl]
        refine wa_nil (rc_min (by rw [List.length_map]; exact hA0) fun m hm hle => we_int (ro_bl0 ?_))
        rw [min_ge0 hm hle]
    · rw [show N.map (fun n => D.bl (A0.all fun d => decide (0 ≤ dotP n d))) = (N.map fun n => A0.all fun d => decide (0 ≤ dotP n d)).map D.bl by rw [List.map_map]; rfl]
      refine wa_nil (rc_any ⟨_, rfl, ps, qs, rfl, ?_⟩)
      unfold mtB
      rw [hNN, List.any_map]
      congr 3
      funext n
      exact hall n

end
/-! #### Xh -/
section
variable {P : Program} {w : World} {K : PySem.W.Frag} {mg : Str → Option Value} {base : Heap}
/-! ### xd4 -/
/-- a part of pairs of numbers up to n, or nearly one -/
def Pg (n : Int) (d : D) : Prop := ∃ ps : List Pr2, d = .tup (ps.map Dl.pairD) ∧ Few n ps ∧ ps.Nodup
theorem few_le {n m : Int} {ps : List Pr2} (h : Few n ps) (l : n ≤ m) : Few m ps := ⟨h.1, h.2.1, fun p hp => upto_le (h.2.2 p hp) l⟩
theorem two_map {f : Pr2 → Pr2} (inj : ∀ a b, f a = f b → a = b) {ps : List Pr2} (t : ps.Nodup) : (ps.map f).Nodup := List.pairwise_map.mpr (t.imp fun hne e => hne (inj _ _ e))
theorem pg_le {n m : Int} {d : D} (h : Pg n d) (l : n ≤ m) : Pg m d := by
  obtain ⟨ps, e, f, t⟩ := h
  exact ⟨ps, e, few_le f l, t⟩
def qtrP (p : Pr2) : Pr2 := (0 - p.2, p.1)
abbrev s__law_quarter : Stmt := topS 28
abbrev N__law_quarter : List Str := ["_law_poly", "_law_times", "_law_found", "_law_k", "_law_c"]
theorem sc__law_quarter : FnScope N__law_quarter ["_law_poly", "_law_times"] (defScope s__law_quarter) := ⟨rfl, rfl, rfl, by decide +kernel, rfl, by decide +kernel, by decide +kernel⟩
abbrev ClQu (P : Program) (w : World) (K : PySem.W.Frag) (mg : Str → Option Value) (base : Heap) (k : Nat) := Cl P w K mg base k "_law_quarter" s__law_quarter ["_law_poly", "_law_times"] (SpD K (p2 fun d t => Pg 100000 d ∧ ∃ j : Int, t = .int j) fun _ r => Pg 100000 r)
theorem ok__law_quarter {k : Nat} (G : Gn mg) (F : Df K mg "_law_quarter" s__law_quarter) : ClQu P w K mg base (k + 1) := by
  refine cl_of F sc__law_quarter (fun _ _ _ _ _ _ us hl => match us, hl with | [_, _], _ => rfl) p2_len fun f cdv A outer s H E hr => ⟨_, (pss_cons (ps_set (i := 2) sc__law_quarter.nd rfl (Or.inl rfl) (pv 0))
      (pss_cons (ps_for PassesOwn.never rfl (pi_range1 rfl G.g_range (pa_cons (pe_op op_modN (pe_callTy call_int1 (by rfl) G.g_int (by decide +kernel) (pa_cons (pv 1) pa_nil)) pe_int) pa_nil)) (pg_name (i := 3) sc__law_quarter.nd rfl (Or.inl rfl)) (pss_one (ps_set (i := 2) sc__law_quarter.nd rfl (Or.inl rfl) (pe_callTy (show CallR _ (.type "tuple") (zOf K) from call_tupZ) (by rfl) G.g_tuple (by decide +kernel) (pa_cons (pe_lc (own := [("_law_c", 4)]) (g := gName 4) (tt := tYes) rfl sc__law_quarter.nd (pi_tup (pv 2)) (blkOk_by (N := N__law_quarter) (sc := defScope s__law_quarter) (by decide +kernel)) (fun _ _ _ _ _ => pg_name (i := 4) sc__law_quarter.nd rfl (Or.inl rfl)) (fun _ _ _ _ _ => pts_nil) (fun _ _ _ _ _ => (pe_tupZ (pa_cons (pe_op op_sub pe_int (pe_ix (show IxR _ (rIxT K) from ix_tup) (pv 4) pe_int (fun _ _ => rfl))) (pa_cons (pe_ix (show IxR _ (rIxT K) from ix_tup) (pv 4) pe_int (fun _ _ => rfl)) pa_nil))))) pa_nil)))))
      (pss_one (ps_ret (pv 2))))), fun B ds hp => ?_⟩
  obtain ⟨d, _, rfl, hd, j, rfl⟩ := p2_ex hp
  show WS K B _ [.val d, .val (.int j), .no, .no, .no] _
  try dsimp only [cxOf, Cx.nox, Cx.blk]
  refine ws_seq (ws_set (we_var rfl ?_))
  try dsimp only [List.set]
  refine ws_seq (ws_for (wi_range1 (wa_cons ?_)))
  repeat walk_at "dl"
  refine ro_int (by intro z; exact absurd z (by decide)) ?_
  obtain ⟨h0, h1⟩ := fm0 (i := j) (n := 4) (by decide)
  refine wa_nil ⟨_, rfl, by omega, by omega, fun k δ1 => ∃ e y1 y2, δ1 = [.val d, .val (.int j), .val e, y1, y2] ∧ Pg 100000 e, ⟨_, _, _, rfl, hd⟩, ?_, ?_⟩
  · rintro n dn δ1 hdn ⟨_, y1, y2, rfl, ps, rfl, ⟨h3, h7, hb⟩, tw⟩
    try dsimp only [List.set]
    refine ws_set (we_cb (wa_cons (we_lc (wi_tup (we_var rfl ⟨_, rfl, by rw [List.length_map]; omega, fun n acc => acc = ((ps.take n).map qtrP).map Dl.pairD, rfl, ?_, ?_⟩)))))
    · rintro n d acc hd hacc
      have hacc' : acc = ((ps.take n).map qtrP).map Dl.pairD := hacc
      rw [List.getElem?_map] at hd
      obtain ⟨q, hq, rfl⟩ : ∃ q, ps[n]? = some q ∧ Dl.pairD q = d := by
        cases e : ps[n]? with
        | none => rw [e] at hd; cases hd
        | some q => rw [e] at hd; exact ⟨q, rfl, Option.some.inj hd⟩
      try dsimp only [List.set]
      refine wt_yes ?_
      rw [if_pos rfl]
      repeat walk_at "dl"
      refine ix1 ?_
      repeat walk_at "dl"
      refine ix0 ?_
      repeat walk_at "dl"
      show acc ++ [Dl.pairD (qtrP q)] = ((ps.take (n + 1)).map qtrP).map Dl.pairD
      rw [hacc', List.take_add_one, hq, List.map_append, List.map_append]
      rfl
    · rintro acc hacc
      have hacc' : acc = ((ps.take (ps.map Dl.pairD).length).map qtrP).map Dl.pairD := hacc
      rw [List.length_map, List.take_length] at hacc'
      rw [hacc']
      refine wa_nil (rc_tupZ ?_)
      refine ⟨_, _, _, rfl, ps.map qtrP, rfl, ⟨by rw [List.length_map]; exact h3, by rw [List.length_map]; exact h7, fun p hm => ?_⟩, two_map (fun a b e => by
        unfold qtrP at e
        have h1 := (Prod.mk.inj e).1
        have h2 := (Prod.mk.inj e).2
        exact Prod.ext h2 (by omega)) tw⟩
      obtain ⟨q, hq, rfl⟩ := List.mem_map.mp hm
      have := hb q hq
      unfold Upto qtrP at *
      dsimp only
      omega
  · rintro δ1 ⟨e, y1, y2, rfl, he⟩
    exact ws_ret (we_var rfl he)
/-! ### _law_mixed -/
abbrev mixPre : List D → Prop := p2 fun b d => b = .box ∧ ∃ ds, (d = .lst ds ∨ d = .tup ds) ∧ ds.length ≤ 100
def mixPost : List D → List D → Prop := fun vs es => ∃ b d ds, vs = [b, d] ∧ (d = .lst ds ∨ d = .tup ds) ∧ es.Perm ds
abbrev s__law_mixed : Stmt := topS 16
abbrev N__law_mixed : List Str := ["_law_box_here", "_law_some", "_law_found", "_law_thing_z"]
theorem sc__law_mixed : FnScope N__law_mixed ["_law_box_here", "_law_some"] (defScope s__law_mixed) := ⟨rfl, rfl, rfl, by decide +kernel, rfl, by decide +kernel, by decide +kernel⟩
abbrev ClMx (P : Program) (w : World) (K : PySem.W.Frag) (mg : Str → Option Value) (base : Heap) (k : Nat) := Cl P w K mg base k "_law_mixed" s__law_mixed ["_law_box_here", "_law_some"] (SpN K mixPre mixPost)
theorem ok__law_mixed {k : Nat} (G : Gn mg) (F : Df K mg "_law_mixed" s__law_mixed) (C__law_take : ClT P w K mg base k) : ClMx P w K mg base (k + 1) := by
  refine cln_of F sc__law_mixed (fun _ _ _ _ _ _ us hl => match us, hl with | [_, _], _ => rfl) p2_len fun f cdv A outer s H E hr => ⟨_, (pss_cons (ps_set (i := 2) sc__law_mixed.nd rfl (Or.inl rfl) (pe_lst pa_nil))
      (pss_cons (ps_for PassesOwn.never rfl (pi_any (pv 1)) (pg_name (i := 3) sc__law_mixed.nd rfl (Or.inl rfl)) (pss_one (ps_expr (pe_bm PySem.F.plainAttrs_list PySem.F.slot_list_insert PySem.F.type_list_insert mt_insert (pv 2) (pa_cons (pe_c C__law_take hr (by omega) (by rfl) (pa_cons (pv 0) (pa_cons (pe_op op_add (pe_callB (show CallR _ (.builtin "len") (fun xs H Q => ∃ x n, xs = [x] ∧ LenV K x H n ∧ Q (.int n) H) from call_len) (by rfl) G.g_len (by decide +kernel) (pa_cons (pv 2) pa_nil)) pe_int) pa_nil))) (pa_cons (pv 3) pa_nil))))))
      (pss_one (ps_ret (pv 2))))), fun B ds hp => ?_⟩
  obtain ⟨_, d, rfl, rfl, xs, hxs, hl⟩ := p2_ex hp
  show WS K B _ [.val .box, .val d, .no, .no] _
  try dsimp only [cxOf, Cx.nox, Cx.blk]
  refine ws_seq (ws_setOwn (wa_nil ⟨by decide, ?_⟩))
  dsimp only [List.set]
  refine ws_seq (ws_for (wi_any (we_var rfl ⟨xs, hxs, fun i δ1 => ∃ (row : List D) (y : Sd), δ1 = [.val .box, .val d, .own row, y] ∧ row.Perm (xs.take i), ⟨[], .no, rfl, .nil⟩, ?_, ?_⟩)))
  · rintro i x δ1 hi ⟨row, y, rfl, hrx⟩
    dsimp only [List.set]
    have hi' : i < xs.length := (List.getElem?_eq_some_iff.mp hi).1
    have hrl : row.length = i := by rw [hrx.length_eq, List.length_take]; omega
    refine ws_insert (i := 2) rfl rfl (by omega) (we_frz (i := 2) rfl ?_)
    dsimp only [List.set]
    repeat walk_at "dl"
    refine ⟨⟨rfl, _, rfl, by omega, by omega⟩, ?_⟩
    rintro _ ⟨n, j, e, rfl, h0, h1⟩
    cases e
    obtain ⟨m, rfl⟩ : ∃ m : Nat, j = m := ⟨j.toNat, by omega⟩
    refine ⟨rfl, m, rfl, by omega, we_var rfl ?_⟩
    refine ⟨_, _, rfl, ?_⟩
    have tk : xs.take (i + 1) = xs.take i ++ [x] := by rw [List.take_add_one, hi]; rfl
    rw [tk, List.append_assoc]
    refine List.perm_middle.trans ?_
    show (x :: (row.take m ++ row.drop m)).Perm _
    rw [List.take_append_drop]
    exact (List.Perm.cons x hrx).trans (List.perm_append_comm (l₁ := [x]))
  · rintro δ1 ⟨row, y, rfl, hrx⟩
    rw [List.take_length] at hrx
    exact ws_retOwn (i := 2) rfl ⟨_, _, xs, rfl, hxs, hrx⟩
/-! ### _law_bowl -/
abbrev mixPost' : List D → D → Prop := fun vs r => ∃ es, mixPost vs es ∧ r = .lst es
abbrev ClMf (P : Program) (w : World) (K : PySem.W.Frag) (mg : Str → Option Value) (base : Heap) (k : Nat) := Cl P w K mg base k "_law_mixed" s__law_mixed ["_law_box_here", "_law_some"] (SpD K mixPre mixPost')
theorem mx_frz {k : Nat} (c : ClMx P w K mg base k) : ClMf P w K mg base k := c.frz fun ds es h => ⟨es, h, rfl⟩
def In3 (n : Int) : Prop := -3 ≤ n ∧ n ≤ 3
theorem coef {r : D} (m : r ∈ [D.tup [.int 1, .int 0, .int 0, .int 1], .tup [.int 2, .int 1, .int 1, .int 1], .tup [.int 1, .int (-1), .int 1, .int 1], .tup [.int 0, .int (-1), .int 1, .int 0], .tup [.int 3, .int 1, .int (-1), .int 2], .tup [.int 1, .int 0, .int 2, .int 1], .tup [.int (-1), .int 0, .int 0, .int (-1)]]) :
    ∃ a b c d : Int, r = .tup [.int a, .int b, .int c, .int d] ∧ In3 a ∧ In3 b ∧ In3 c ∧ In3 d ∧ a * d - b * c ≠ 0 := by
  unfold In3
  simp only [List.mem_cons, List.not_mem_nil, or_false] at m
  rcases m with rfl | rfl | rfl | rfl | rfl | rfl | rfl <;> exact ⟨_, _, _, _, rfl, by decide, by decide, by decide, by decide, by decide⟩
theorem ints3 {es : List D} (h : es.Perm [D.int (-3), .int (-2), .int (-1), .int 0, .int 1, .int 2, .int 3]) : ∃ ns : List Int, es = ns.map D.int ∧ ns.length = 7 ∧ ns.Nodup ∧ ∀ n ∈ ns, In3 n := by
  have hm : ∀ e ∈ es, ∃ i : Int, e = .int i ∧ In3 i := fun e he => by
    have he := h.mem_iff.mp he
    unfold In3
    simp only [List.mem_cons, List.not_mem_nil, or_false] at he
    rcases he with rfl | rfl | rfl | rfl | rfl | rfl | rfl <;> exact ⟨_, rfl, by decide⟩
  have nd : es.Nodup := h.nodup_iff.mpr (by simp)
  have hl := h.length_eq
  clear h
  have key : ∀ es : List D, (∀ e ∈ es, ∃ i : Int, e = .int i ∧ In3 i) → es.Nodup → ∃ ns : List Int, es = ns.map D.int ∧ ns.Nodup ∧ ∀ n ∈ ns, In3 n := by
    intro es
    induction es with
    | nil => exact fun _ _ => ⟨[], rfl, .nil, fun _ z => nomatch z⟩
    | cons e es ih =>
      intro hm nd
      obtain ⟨i, rfl, hi⟩ := hm e List.mem_cons_self
      obtain ⟨n1, n2⟩ := List.nodup_cons.mp nd
      obtain ⟨ns, rfl, hn, h3⟩ := ih (fun x hx => hm x (List.mem_cons_of_mem _ hx)) n2
      refine ⟨i :: ns, rfl, List.nodup_cons.mpr ⟨fun z => n1 (List.mem_map.mpr ⟨i, z, rfl⟩), hn⟩, fun n hn' => ?_⟩
      rcases List.mem_cons.mp hn' with rfl | hn'
      · exact hi
      · exact h3 n hn'
  obtain ⟨ns, e, h1, h2⟩ := key es hm nd
  refine ⟨ns, e, ?_, h1, h2⟩
  rw [e, List.length_map] at hl
  exact hl
def bwlP (s a b c d t : Int) : Pr2 := (s * (a * t + b * t * t), s * (c * t + d * t * t))
theorem bwl1 {a b t : Int} (ha : In3 a) (hb : In3 b) (ht : In3 t) : (-9 ≤ a * t ∧ a * t ≤ 9) ∧ (-9 ≤ b * t ∧ b * t ≤ 9) ∧ (-27 ≤ b * t * t ∧ b * t * t ≤ 27) := by
  have h1 := Dl.mulB (m := 3) (n := 3) ha ht
  have h2 := Dl.mulB (m := 3) (n := 3) hb ht
  have h3 := Dl.mulB (m := 9) (n := 3) (show -9 ≤ b * t ∧ b * t ≤ 9 by omega) ht
  omega
theorem bwl_up {z a b c d t : Int} (hz : In3 z) (ha : In3 a) (hb : In3 b) (hc : In3 c) (hd : In3 d) (ht : In3 t) : Upto 1000 (bwlP z a b c d t) := by
  have h1 := bwl1 ha hb ht
  have h2 := bwl1 hc hd ht
  have h3 := Dl.mulB (m := 3) (n := 36) hz (show -36 ≤ a * t + b * t * t ∧ a * t + b * t * t ≤ 36 by omega)
  have h4 := Dl.mulB (m := 3) (n := 36) hz (show -36 ≤ c * t + d * t * t ∧ c * t + d * t * t ≤ 36 by omega)
  unfold Upto bwlP
  dsimp only
  omega
theorem bwl_inj {z a b c d t u : Int} (hz : z ≠ 0) (hd : a * d - b * c ≠ 0) (e : bwlP z a b c d t = bwlP z a b c d u) : t = u := by
  have h1 := Int.eq_of_mul_eq_mul_left hz (Prod.mk.inj e).1
  have h2 := Int.eq_of_mul_eq_mul_left hz (Prod.mk.inj e).2
  have h3 : (a * d - b * c) * t = (a * d - b * c) * u := by grind
  exact Int.eq_of_mul_eq_mul_left hd h3
theorem cut_toI {ns : List Int} {n : Nat} (h : n ≤ ns.length) : Dl.cutD (ns.map D.int) none (some (n : Int)) = (ns.take n).map D.int := by
  unfold Dl.cutD
  rw [HT.sIx_none, HT.sIx_nat, List.length_map, show min n ns.length = n by omega, List.drop_zero, Nat.sub_zero, List.map_take]
abbrev s__law_bowl : Stmt := topS 31
abbrev N__law_bowl : List Str := ["_law_box_here", "_law_many", "_law_spots", "_law_size", "_law_a", "_law_b", "_law_c", "_law_d", "_law_t"]
theorem sc__law_bowl : FnScope N__law_bowl ["_law_box_here", "_law_many"] (defScope s__law_bowl) := ⟨rfl, rfl, rfl, by decide +kernel, rfl, by decide +kernel, by decide +kernel⟩
abbrev ClBo (P : Program) (w : World) (K : PySem.W.Frag) (mg : Str → Option Value) (base : Heap) (k : Nat) := Cl P w K mg base k "_law_bowl" s__law_bowl ["_law_box_here", "_law_many"] (SpD K (p2 fun b m => b = .box ∧ ∃ n : Nat, m = .int (n : Int) ∧ 3 ≤ n ∧ n ≤ 7) fun _ r => Pg 1000 r)
theorem ok__law_bowl {k : Nat} (G : Gn mg) (F : Df K mg "_law_bowl" s__law_bowl) (C__law_mixed : ClMf P w K mg base k) (C__law_pick : ClP P w K mg base k) : ClBo P w K mg base (k + 1) := by
  refine cl_of F sc__law_bowl (fun _ _ _ _ _ _ us hl => match us, hl with | [_, _], _ => rfl) p2_len fun f cdv A outer s H E hr => ⟨_, (pss_cons (ps_set (i := 2) sc__law_bowl.nd rfl (Or.inl rfl) (pe_slice sl_list (pe_c C__law_mixed hr (by omega) (by rfl) (pa_cons (pv 0) (pa_cons (pe_lst (pa_cons (pe_un un_neg pe_int) (pa_cons (pe_un un_neg pe_int) (pa_cons (pe_un un_neg pe_int) (pa_cons pe_int (pa_cons pe_int (pa_cons pe_int (pa_cons pe_int pa_nil)))))))) pa_nil))) po_none (po_some (pv 1))))
      (pss_cons (ps_asg (pe_c C__law_pick hr (by omega) (by rfl) (pa_cons (pv 0) (pa_cons (pe_lst (pa_cons (pe_tupZ (pa_cons pe_int (pa_cons pe_int (pa_cons pe_int (pa_cons pe_int pa_nil))))) (pa_cons (pe_tupZ (pa_cons pe_int (pa_cons pe_int (pa_cons pe_int (pa_cons pe_int pa_nil))))) (pa_cons (pe_tupZ (pa_cons pe_int (pa_cons (pe_un un_neg pe_int) (pa_cons pe_int (pa_cons pe_int pa_nil))))) (pa_cons (pe_tupZ (pa_cons pe_int (pa_cons (pe_un un_neg pe_int) (pa_cons pe_int (pa_cons pe_int pa_nil))))) (pa_cons (pe_tupZ (pa_cons pe_int (pa_cons pe_int (pa_cons (pe_un un_neg pe_int) (pa_cons pe_int pa_nil))))) (pa_cons (pe_tupZ (pa_cons pe_int (pa_cons pe_int (pa_cons pe_int (pa_cons pe_int pa_nil))))) (pa_cons (pe_tupZ (pa_cons (pe_un un_neg pe_int) (pa_cons pe_int (pa_cons pe_int (pa_cons (pe_un un_neg pe_int) pa_nil))))) pa_nil)))))))) pa_nil))) (show PG _ _ (gTup K 4 (gCons (gName 4) (gCons (gName 5) (gCons (gName 6) (gCons (gName 7) gNil))))) from pg_tup rfl (pgs_cons (pg_name (i := 4) sc__law_bowl.nd rfl (Or.inr rfl)) (pgs_cons (pg_name (i := 5) sc__law_bowl.nd rfl (Or.inr rfl)) (pgs_cons (pg_name (i := 6) sc__law_bowl.nd rfl (Or.inr rfl)) (pgs_cons (pg_name (i := 7) sc__law_bowl.nd rfl (Or.inr rfl)) pgs_nil))))))
      (pss_cons (ps_set (i := 3) sc__law_bowl.nd rfl (Or.inr rfl) (pe_c C__law_pick hr (by omega) (by rfl) (pa_cons (pv 0) (pa_cons (pe_lst (pa_cons pe_int (pa_cons pe_int (pa_cons pe_int (pa_cons pe_int pa_nil))))) pa_nil))))
      (pss_one (ps_ret (pe_callTy (show CallR _ (.type "tuple") (zOf K) from call_tupZ) (by rfl) G.g_tuple (by decide +kernel) (pa_cons (pe_lc (own := [("_law_t", 8)]) (g := gName 8) (tt := tYes) rfl sc__law_bowl.nd (pi_list (pe_callB (show CallR _ (.builtin "sorted") (rSortedI K) from cr_sortedI) (by rfl) G.g_sorted (by decide +kernel) (pa_cons (pv 2) pa_nil))) (blkOk_by (N := N__law_bowl) (sc := defScope s__law_bowl) (by decide +kernel)) (fun _ _ _ _ _ => pg_name (i := 8) sc__law_bowl.nd rfl (Or.inl rfl)) (fun _ _ _ _ _ => pts_nil) (fun _ _ _ _ _ => (pe_tupZ (pa_cons (pe_op op_mul (pv 3) (pe_op op_add (pe_op op_mul (pv 4) (pv 8)) (pe_op op_mul (pe_op op_mul (pv 5) (pv 8)) (pv 8)))) (pa_cons (pe_op op_mul (pv 3) (pe_op op_add (pe_op op_mul (pv 6) (pv 8)) (pe_op op_mul (pe_op op_mul (pv 7) (pv 8)) (pv 8)))) pa_nil))))) pa_nil))))))), fun B ds hp => ?_⟩
  obtain ⟨_, _, rfl, rfl, m, rfl, h3, h7⟩ := p2_ex hp
  show WS K B _ [.val .box, .val (.int (m : Int)), .no, .no, .no, .no, .no, .no, .no] _
  try dsimp only [cxOf, Cx.nox, Cx.blk]
  repeat walk_at "dl"
  refine ⟨⟨rfl, _, .inl rfl, by decide⟩, ?_⟩
  rintro _ ⟨es, ⟨_, _, xs, e, hx, hperm⟩, rfl⟩
  cases e
  have hx' : xs = [D.int (-3), .int (-2), .int (-1), .int 0, .int 1, .int 2, .int 3] := by
    rcases hx with hx | hx
    · exact (D.lst.inj hx).symm
    · cases hx
  subst hx'
  obtain ⟨ns, rfl, hlen', hnd, hns⟩ := ints3 hperm
  clear hperm
  repeat walk_at "dl"
  refine rs_L ?_
  rw [cut_toI (by rw [hlen']; exact h7)]
  try dsimp only [List.set]
  have hsl : (ns.take m).length = m := by rw [List.length_take]; omega
  have hs3 : ∀ n ∈ ns.take m, In3 n := fun n h => hns n (List.mem_of_mem_take h)
  have hnd' : (ns.take m).Nodup := hnd.sublist (List.take_sublist ..)
  generalize ns.take m = us at hsl hs3 hnd'
  refine ws_seq (ws_unt4 (we_call (wa_cons ?_)))
  repeat walk_at "dl"
  refine ⟨⟨rfl, _, rfl, by decide, by decide⟩, ?_⟩
  rintro r ⟨_, e, hm⟩
  cases e
  obtain ⟨a, b, c, d, rfl, ha, hb, hc, hd, hdet⟩ := coef hm
  refine ⟨_, _, _, _, rfl, ?_⟩
  try dsimp only [List.set]
  repeat walk_at "dl"
  refine ⟨⟨rfl, _, rfl, by decide, by decide⟩, ?_⟩
  rintro r ⟨_, e, hm⟩
  cases e
  obtain ⟨z, rfl, hz, hz0⟩ : ∃ z : Int, r = .int z ∧ In3 z ∧ z ≠ 0 := by
    unfold In3
    simp only [List.mem_cons, List.not_mem_nil, or_false] at hm
    rcases hm with rfl | rfl | rfl | rfl <;> exact ⟨_, rfl, by decide, by decide⟩
  try dsimp only [List.set]
  refine ws_ret (we_cb (wa_cons (we_lc (wi_list (we_cb (wa_cons (we_var rfl (wa_nil (rc_sortI fun vs hv _ => ⟨_, rfl, by rw [List.length_map, hv.length_eq]; omega, fun n acc => acc = ((vs.take n).map (bwlP z a b c d)).map Dl.pairD, rfl, ?_, ?_⟩)))))))))
  · rintro n d0 acc hdn hacc
    have hacc' : acc = ((vs.take n).map (bwlP z a b c d)).map Dl.pairD := hacc
    rw [List.getElem?_map] at hdn
    obtain ⟨t, ht, rfl⟩ : ∃ t, vs[n]? = some t ∧ D.int t = d0 := by
      cases e : vs[n]? with
      | none => rw [e] at hdn; cases hdn
      | some q => rw [e] at hdn; exact ⟨q, rfl, Option.some.inj hdn⟩
    have ht3 : In3 t := hs3 t (hv.mem_iff.mp (List.mem_of_getElem? ht))
    try dsimp only [List.set]
    refine wt_yes ?_
    rw [if_pos rfl]
    have k1 := bwl1 ha hb ht3
    have k2 := bwl1 hc hd ht3
    have k3 := bwl_up hz ha hb hc hd ht3
    unfold In3 at *
    repeat walk_at "dl"
    refine ro_int (.inl ⟨by omega, by omega⟩) ?_
    repeat walk_at "dl"
    refine ro_int (.inl ⟨by omega, by omega⟩) ?_
    repeat walk_at "dl"
    refine ro_int (.inl ⟨by omega, by omega⟩) ?_
    repeat walk_at "dl"
    refine ro_int (.inl ⟨by omega, by omega⟩) ?_
    repeat walk_at "dl"
    refine ro_int (.inl ⟨by omega, by omega⟩) ?_
    repeat walk_at "dl"
    refine ro_int (.inl ⟨by omega, by omega⟩) ?_
    repeat walk_at "dl"
    refine ro_int (.inl ⟨by omega, by omega⟩) ?_
    repeat walk_at "dl"
    refine ro_int (.inl ⟨by omega, by omega⟩) ?_
    repeat walk_at "dl"
    show acc ++ [Dl.pairD (bwlP z a b c d t)] = ((vs.take (n + 1)).map (bwlP z a b c d)).map Dl.pairD
    rw [hacc', List.take_add_one, ht, List.map_append, List.map_append]
    rfl
  · rintro acc hacc
    have hacc' : acc = ((vs.take (vs.map D.int).length).map (bwlP z a b c d)).map Dl.pairD := hacc
    rw [List.length_map, List.take_length] at hacc'
    rw [hacc']
    refine wa_nil (rc_tupZ ⟨vs.map (bwlP z a b c d), rfl, ⟨?_, ?_, ?_⟩, ?_⟩)
    · rw [List.length_map, hv.length_eq]; omega
    · rw [List.length_map, hv.length_eq]; omega
    · intro p hp
      obtain ⟨t, ht, rfl⟩ := List.mem_map.mp hp
      exact bwl_up hz ha hb hc hd (hs3 t (hv.mem_iff.mp ht))
    · exact List.pairwise_map.mpr ((hv.nodup_iff.mpr hnd').imp fun hne e => hne (bwl_inj hz0 hdet e))

end
/-! #### Xi -/
section
variable {P : Program} {w : World} {K : PySem.W.Frag} {mg : Str → Option Value} {base : Heap}
/-! ### xd5 -/
theorem wex_mono {K : PySem.W.Frag} {B : Bt} {X : Xc} {te : TE} {δ : List Sd} {P Q : D → Prop} (h : WEx K B X te δ P) (m : ∀ d, P d → Q d) : WEx K B X te δ Q := fun G0 H0 σ G H R s xx q => h G0 H0 σ G H R s xx fun v d G1 H1 g o hd p => q v d G1 H1 g o hd (m d p)
theorem wax_mono {K : PySem.W.Frag} {B : Bt} {X : Xc} {ta : TA} {δ : List Sd} {P Q : List D → Prop} (h : WAx K B X ta δ P) (m : ∀ d, P d → Q d) : WAx K B X ta δ Q := fun G0 H0 σ G H R s xx q => h G0 H0 σ G H R s xx fun v d G1 H1 g o hd p => q v d G1 H1 g o hd (m d p)
/-- so many items, of each of which this holds -/
def AllN (P : D → Prop) (n : Nat) (ds : List D) : Prop := ds.length = n ∧ ∀ d ∈ ds, P d
theorem wa_all0 {K : PySem.W.Frag} {B : Bt} {X : Xc} {δ : List Sd} {P : D → Prop} : WAx K B X tNil δ (AllN P 0) := wa_nil ⟨rfl, fun _ z => nomatch z⟩
theorem wa_all {K : PySem.W.Frag} {B : Bt} {X : Xc} {te : TE} {ta : TA} {δ : List Sd} {P : D → Prop} {n : Nat} (h1 : WEx K B X te δ P) (h2 : WAx K B X ta δ (AllN P n)) : WAx K B X (tCons te ta) δ (AllN P (n + 1)) :=
  wa_cons (wex_mono h1 fun d hd => wax_mono h2 fun ds q => ⟨by rw [List.length_cons, q.1], fun x hx => by
    rcases List.mem_cons.mp hx with e | hx
    · rw [e]; exact hd
    · exact q.2 x hx⟩)
def RowP (d : D) : Prop := ∃ ds, d = .lst ds ∧ 0 < ds.length ∧ ds.length ≤ 1000 ∧ ∀ x ∈ ds, Pg 1000 x
theorem pgL (ps : List Pr2) (h3 : 3 ≤ ps.length) (h7 : ps.length ≤ 7) (hb : ∀ p ∈ ps, (-1000 ≤ p.1 ∧ p.1 ≤ 1000) ∧ (-1000 ≤ p.2 ∧ p.2 ≤ 1000)) (t : ps.Nodup) : Pg 1000 (.tup (ps.map Dl.pairD)) :=
  ⟨ps, rfl, ⟨h3, h7, fun p hp => ⟨(hb p hp).1.1, (hb p hp).1.2, (hb p hp).2.1, (hb p hp).2.2⟩⟩, t⟩
abbrev s__law_shape : Stmt := topS 32
abbrev N__law_shape : List Str := ["_law_box_here", "_law_way_z", "_law_s", "_law_base", "_law_left", "_law_hexagon"]
theorem sc__law_shape : FnScope N__law_shape ["_law_box_here"] (defScope s__law_shape) := ⟨rfl, rfl, rfl, by decide +kernel, rfl, by decide +kernel, by decide +kernel⟩
abbrev ClSh (P : Program) (w : World) (K : PySem.W.Frag) (mg : Str → Option Value) (base : Heap) (k : Nat) := Cl P w K mg base k "_law_shape" s__law_shape ["_law_box_here"] (SpD K (p1 fun b => b = .box) fun _ r => RowP r)
theorem pg4 {a b c d : Int} (ha : -100 ≤ a ∧ a ≤ 100) (hb : -100 ≤ b ∧ b ≤ 100) (hc : 1 ≤ c ∧ c ≤ 100) (hd : 1 ≤ d ∧ d ≤ 100) : Pg 1000 (.tup (([(a, b), (a + c, b), (a + c, b + d), (a, b + d)] : List Pr2).map Dl.pairD)) := by
  refine ⟨_, rfl, ⟨by show 3 ≤ 4; decide, by show 4 ≤ 7; decide, fun p hp => ?_⟩, by simp [List.nodup_cons] <;> omega⟩
  simp only [List.mem_cons, List.not_mem_nil, or_false] at hp
  unfold Upto
  rcases hp with rfl | rfl | rfl | rfl <;> dsimp only <;> omega
theorem ok__law_shape {k : Nat} (G : Gn mg) (F : Df K mg "_law_shape" s__law_shape) (C__law_take : ClT P w K mg base k) (C__law_bowl : ClBo P w K mg base k) (C__law_rect : ClRe P w K mg base k) : ClSh P w K mg base (k + 1) := by
  refine cl_of F sc__law_shape (fun _ _ _ _ _ _ us hl => match us, hl with | [_], _ => rfl) p1_len fun f cdv A outer s H E hr => ⟨_, (pss_cons (ps_par (i := 1) (j := 2) (by rfl) sc__law_shape.nd rfl rfl (by decide) rfl rfl (pa_cons (pe_c C__law_take hr (by omega) (by rfl) (pa_cons (pv 0) (pa_cons pe_int pa_nil))) (pa_cons (pe_op op_add pe_int (pe_c C__law_take hr (by omega) (by rfl) (pa_cons (pv 0) (pa_cons pe_int pa_nil)))) pa_nil)) (by rfl))
      (pss_cons (ps_if (pt_cmpR op_eq (pv 1) pe_int (nomark _)) (pss_one (ps_ret (pe_lst (pa_cons (pe_c C__law_bowl hr (by omega) (by rfl) (pa_cons (pv 0) (pa_cons (pe_op op_add pe_int (pe_c C__law_take hr (by omega) (by rfl) (pa_cons (pv 0) (pa_cons pe_int pa_nil)))) pa_nil))) pa_nil)))) pss_nil)
      (pss_cons (ps_par3 (i := 3) (j := 4) (l := 5) (by rfl) sc__law_shape.nd rfl rfl rfl (by decide) (by decide) (by decide) rfl rfl rfl (pa_cons (pe_c C__law_rect hr (by omega) (by rfl) (pa_cons pe_int (pa_cons pe_int (pa_cons pe_int (pa_cons pe_int pa_nil))))) (pa_cons (pe_c C__law_rect hr (by omega) (by rfl) (pa_cons pe_int (pa_cons pe_int (pa_cons pe_int (pa_cons pe_int pa_nil))))) (pa_cons (pe_tupZ (pa_cons (pe_tupZ (pa_cons pe_int (pa_cons pe_int pa_nil))) (pa_cons (pe_tupZ (pa_cons pe_int (pa_cons pe_int pa_nil))) (pa_cons (pe_tupZ (pa_cons pe_int (pa_cons pe_int pa_nil))) (pa_cons (pe_tupZ (pa_cons pe_int (pa_cons pe_int pa_nil))) (pa_cons (pe_tupZ (pa_cons pe_int (pa_cons pe_int pa_nil))) (pa_cons (pe_tupZ (pa_cons pe_int (pa_cons pe_int pa_nil))) pa_nil))))))) pa_nil))) (by rfl))
      (pss_one (ps_ret (pe_ix (show IxR _ (rIxL K) from ix_list) (pe_lst (pa_cons (pe_lst (pa_cons (pe_c C__law_rect hr (by omega) (by rfl) (pa_cons pe_int (pa_cons pe_int (pa_cons (pv 2) (pa_cons (pv 2) pa_nil))))) pa_nil)) (pa_cons (pe_lst (pa_cons (pe_c C__law_rect hr (by omega) (by rfl) (pa_cons pe_int (pa_cons pe_int (pa_cons (pv 2) (pa_cons (pv 2) pa_nil))))) pa_nil)) (pa_cons (pe_lst (pa_cons (pe_c C__law_rect hr (by omega) (by rfl) (pa_cons pe_int (pa_cons pe_int (pa_cons (pe_op op_add (pv 2) pe_int) (pa_cons pe_int pa_nil))))) pa_nil)) (pa_cons (pe_lst (pa_cons (pe_c C__law_rect hr (by omega) (by rfl) (pa_cons pe_int (pa_cons pe_int (pa_cons (pe_op op_add (pv 2) pe_int) (pa_cons pe_int pa_nil))))) pa_nil)) (pa_cons (pe_lst (pa_cons (pe_tupZ (pa_cons (pe_tupZ (pa_cons pe_int (pa_cons pe_int pa_nil))) (pa_cons (pe_tupZ (pa_cons (pe_op op_add (pv 2) pe_int) (pa_cons pe_int pa_nil))) (pa_cons (pe_tupZ (pa_cons pe_int (pa_cons (pv 2) pa_nil))) pa_nil)))) pa_nil)) (pa_cons (pe_lst (pa_cons (pe_tupZ (pa_cons (pe_tupZ (pa_cons pe_int (pa_cons pe_int pa_nil))) (pa_cons (pe_tupZ (pa_cons (pe_op op_add (pv 2) pe_int) (pa_cons pe_int pa_nil))) (pa_cons (pe_tupZ (pa_cons (pe_op op_add (pv 2) pe_int) (pa_cons pe_int pa_nil))) (pa_cons (pe_tupZ (pa_cons pe_int (pa_cons pe_int pa_nil))) pa_nil))))) pa_nil)) (pa_cons (pe_lst (pa_cons (pv 3) (pa_cons (pe_c C__law_rect hr (by omega) (by rfl) (pa_cons pe_int (pa_cons pe_int (pa_cons pe_int (pa_cons (pe_op op_add (pv 2) pe_int) pa_nil))))) pa_nil))) (pa_cons (pe_lst (pa_cons (pv 3) (pa_cons (pe_c C__law_rect hr (by omega) (by rfl) (pa_cons pe_int (pa_cons pe_int (pa_cons pe_int (pa_cons (pe_op op_add (pv 2) pe_int) pa_nil))))) (pa_cons (pe_c C__law_rect hr (by omega) (by rfl) (pa_cons pe_int (pa_cons pe_int (pa_cons pe_int (pa_cons (pe_op op_add (pv 2) pe_int) pa_nil))))) pa_nil)))) (pa_cons (pe_lst (pa_cons (pe_c C__law_rect hr (by omega) (by rfl) (pa_cons pe_int (pa_cons pe_int (pa_cons pe_int (pa_cons pe_int pa_nil))))) pa_nil)) (pa_cons (pe_lst (pa_cons (pe_c C__law_rect hr (by omega) (by rfl) (pa_cons pe_int (pa_cons pe_int (pa_cons pe_int (pa_cons pe_int pa_nil))))) (pa_cons (pe_c C__law_rect hr (by omega) (by rfl) (pa_cons pe_int (pa_cons pe_int (pa_cons pe_int (pa_cons pe_int pa_nil))))) (pa_cons (pv 4) (pa_cons (pe_c C__law_rect hr (by omega) (by rfl) (pa_cons pe_int (pa_cons pe_int (pa_cons pe_int (pa_cons pe_int pa_nil))))) pa_nil))))) (pa_cons (pe_lst (pa_cons (pe_tupZ (pa_cons (pe_tupZ (pa_cons pe_int (pa_cons pe_int pa_nil))) (pa_cons (pe_tupZ (pa_cons pe_int (pa_cons pe_int pa_nil))) (pa_cons (pe_tupZ (pa_cons pe_int (pa_cons pe_int pa_nil))) (pa_cons (pe_tupZ (pa_cons pe_int (pa_cons (pe_op op_add pe_int (pv 2)) pa_nil))) (pa_cons (pe_tupZ (pa_cons pe_int (pa_cons pe_int pa_nil))) pa_nil)))))) pa_nil)) (pa_cons (pe_lst (pa_cons (pv 5) (pa_cons (pe_tupZ (pa_cons (pe_tupZ (pa_cons pe_int (pa_cons pe_int pa_nil))) (pa_cons (pe_tupZ (pa_cons pe_int (pa_cons pe_int pa_nil))) (pa_cons (pe_tupZ (pa_cons pe_int (pa_cons (pe_op op_add pe_int (pv 2)) pa_nil))) pa_nil)))) pa_nil))) pa_nil))))))))))))) (pv 1) (fun _ _ => rfl))))))), fun B ds hp => ?_⟩
  obtain ⟨_, rfl, rfl⟩ := p1_ex hp
  show WS K B _ [.val .box, .no, .no, .no, .no, .no] _
  try dsimp only [cxOf, Cx.nox, Cx.blk]
  repeat walk_at "dl"
  refine ⟨⟨rfl, _, rfl, by decide, by decide⟩, ?_⟩
  rintro _ ⟨n, j, e, rfl, h0, h1⟩
  cases e
  repeat walk_at "dl"
  refine ⟨⟨rfl, _, rfl, by decide, by decide⟩, ?_⟩
  rintro _ ⟨n, i, e, rfl, hi0, hi1⟩
  cases e
  repeat walk_at "dl"
  refine ite2 (fun h => ?_) (fun h => ?_)
  · repeat walk_at "dl"
    refine ⟨⟨rfl, _, rfl, by decide, by decide⟩, ?_⟩
    rintro _ ⟨n, l, e, rfl, hl0, hl1⟩
    cases e
    repeat walk_at "dl"
    refine ⟨⟨rfl, (3 + l).toNat, by rw [Int.toNat_of_nonneg (by omega)], by omega, by omega⟩, fun d hd => ?_⟩
    repeat walk_at "dl"
    exact ⟨_, rfl, Nat.zero_lt_one, by show 1 ≤ 1000; decide, fun x hx => by rw [List.mem_singleton.mp hx]; exact hd⟩
  have hj : j < 12 := by simp at h; omega
  refine ws_next ?_
  have hrow : ∀ {X : Xc} {δ : List Sd} {ta : TA} {n : Nat}, 0 < n → n ≤ 1000 → WAx K B X ta δ (AllN (Pg 1000) n) → WEx K B X (tLst ta) δ RowP := fun h0 h1 h => we_lst (wax_mono h fun ds q => ⟨by rw [q.1]; exact h1, ds, rfl, by rw [q.1]; exact h0, by rw [q.1]; exact h1, q.2⟩)
  clear h hp
  have rc : ∀ {X : Xc} {δ : List Sd} {ta : TA}, WAx K B X ta δ (fun ds => ∃ a b c d : Int, ds = [.int a, .int b, .int c, .int d] ∧ (-100 ≤ a ∧ a ≤ 100) ∧ (-100 ≤ b ∧ b ≤ 100) ∧ (1 ≤ c ∧ c ≤ 100) ∧ (1 ≤ d ∧ d ≤ 100)) → WEx K B X (tCall (SpD K (fun ds => ∃ a b c d : Int, ds = [.int a, .int b, .int c, .int d]) fun ds r => ∃ a b c d : Int, ds = [.int a, .int b, .int c, .int d] ∧ r = .tup (([(a, b), (a + c, b), (a + c, b + d), (a, b + d)] : List Pr2).map Dl.pairD)) [] E0 ta) δ (Pg 1000) := fun h => we_call (wax_mono h fun ds ⟨a, b, c, d, e, ha, hb, hc, hd⟩ => ⟨⟨a, b, c, d, e⟩, fun r ⟨a', b', c', d', e', er⟩ => by
    subst e
    cases e'
    rw [er]
    exact pg4 ha hb hc hd⟩)
  refine ws_seq (ws_par3 (wax_mono (P := fun ds => AllN (Pg 1000) 3 ds) (wa_all (rc ?_) (wa_all (rc ?_) (wa_all ?_ wa_all0))) fun ds q => ?_))
  · repeat walk_at "dl"
    exact ⟨_, _, _, _, rfl, by decide, by decide, by decide, by decide⟩
  · repeat walk_at "dl"
    exact ⟨_, _, _, _, rfl, by decide, by decide, by decide, by decide⟩
  · repeat walk_at "dl"
    exact pgL [(1, 0), (3, 0), (4, 2), (3, 4), (1, 4), (0, 2)] (by decide) (by decide) (by decide) (by decide)
  obtain ⟨x, y, z, rfl⟩ : ∃ x y z, ds = [x, y, z] := by
    match ds, q.1 with
    | [x, y, z], _ => exact ⟨x, y, z, rfl⟩
  have hx := q.2 x (by simp)
  have hy := q.2 y (by simp)
  have hz := q.2 z (by simp)
  clear q
  refine ⟨x, y, z, rfl, ?_⟩
  try dsimp only [List.set]
  refine ws_ret (we_op (wex_mono (we_lst (P := fun d => ∃ ds, d = .lst ds ∧ AllN RowP 12 ds) (wax_mono (P := AllN RowP 12) ?_ fun ds q => ⟨by rw [q.1]; decide, ds, rfl, q⟩)) fun d ⟨ds, e, q⟩ => ?_))
  · refine wa_all (hrow (n := 1) (by decide) (by decide) (wa_all (rc ?_) wa_all0)) (wa_all (hrow (n := 1) (by decide) (by decide) (wa_all (rc ?_) wa_all0)) (wa_all (hrow (n := 1) (by decide) (by decide) (wa_all (rc ?_) wa_all0)) (wa_all (hrow (n := 1) (by decide) (by decide) (wa_all (rc ?_) wa_all0)) (wa_all (hrow (n := 1) (by decide) (by decide) (wa_all ?_ wa_all0)) (wa_all (hrow (n := 1) (by decide) (by decide) (wa_all ?_ wa_all0))
      (wa_all (hrow (n := 2) (by decide) (by decide) (wa_all ?_ (wa_all (rc ?_) wa_all0))) (wa_all (hrow (n := 3) (by decide) (by decide) (wa_all ?_ (wa_all (rc ?_) (wa_all (rc ?_) wa_all0)))) (wa_all (hrow (n := 1) (by decide) (by decide) (wa_all (rc ?_) wa_all0)) (wa_all (hrow (n := 4) (by decide) (by decide) (wa_all (rc ?_) (wa_all (rc ?_) (wa_all ?_ (wa_all (rc ?_) wa_all0))))) (wa_all (hrow (n := 1) (by decide) (by decide) (wa_all ?_ wa_all0)) (wa_all (hrow (n := 2) (by decide) (by decide) (wa_all ?_ (wa_all ?_ wa_all0))) wa_all0)))))))))))
    all_goals (repeat walk_at "dl")
    all_goals (try (exact ⟨_, _, _, _, rfl, ⟨by omega, by omega⟩, ⟨by omega, by omega⟩, ⟨by omega, by omega⟩, ⟨by omega, by omega⟩⟩))
    all_goals (try assumption)
    · exact pgL [(0, 0), (1 + i + 1, 0), (0, 1 + i)] (by show 3 ≤ 3; decide) (by show 3 ≤ 7; decide) (fun p hp => by
        simp only [List.mem_cons, List.not_mem_nil, or_false] at hp
        rcases hp with rfl | rfl | rfl <;> dsimp only <;> omega) (by simp [List.nodup_cons] <;> omega)
    · exact pgL [(0, 0), (1 + i + 4, 0), (1 + i + 2, 2), (0, 2)] (by show 3 ≤ 4; decide) (by show 4 ≤ 7; decide) (fun p hp => by
        simp only [List.mem_cons, List.not_mem_nil, or_false] at hp
        rcases hp with rfl | rfl | rfl | rfl <;> dsimp only <;> omega) (by simp [List.nodup_cons] <;> omega)
    · exact pgL [(0, 0), (4, 0), (4, 2), (2, 2 + (1 + i)), (0, 2)] (by show 3 ≤ 5; decide) (by show 5 ≤ 7; decide) (fun p hp => by
        simp only [List.mem_cons, List.not_mem_nil, or_false] at hp
        rcases hp with rfl | rfl | rfl | rfl | rfl <;> dsimp only <;> omega) (by simp [List.nodup_cons] <;> omega)
    · exact pgL [(1, 4), (3, 4), (2, 4 + (1 + i))] (by show 3 ≤ 3; decide) (by show 3 ≤ 7; decide) (fun p hp => by
        simp only [List.mem_cons, List.not_mem_nil, or_false] at hp
        rcases hp with rfl | rfl | rfl <;> dsimp only <;> omega) (by simp [List.nodup_cons] <;> omega)
  · subst e
    refine we_var rfl ?_
    obtain ⟨m, rfl⟩ : ∃ m : Nat, j = m := ⟨j.toNat, by omega⟩
    have hm : m < ds.length := by rw [q.1]; omega
    refine ro_ixL (atI_nat (List.getElem?_eq_getElem hm)) ?_
    exact q.2 _ (List.getElem_mem hm)

end
/-! #### Xj -/
section
variable {P : Program} {w : World} {K : PySem.W.Frag} {mg : Str → Option Value} {base : Heap}
/-! ### xd6 -/
/-! ### two polygons -/
abbrev Pn (n : Int) (ps : List Pr2) : Prop := Few n ps ∧ ps.Nodup
theorem edg_ne {ps : List Pr2} (h : ps.Nodup) (h2 : 2 ≤ ps.length) {e : Pr2 × Pr2} (he : e ∈ edg ps) : e.1 ≠ e.2 := by
  unfold edg at he
  obtain ⟨k, hk, rfl⟩ := List.mem_map.mp he
  have hk' := List.mem_range.mp hk
  have hm : (k + 1) % ps.length < ps.length := Nat.mod_lt _ (by omega)
  show ps.getD k (0, 0) ≠ ps.getD ((k + 1) % ps.length) (0, 0)
  rw [List.getD_eq_getElem?_getD, List.getElem?_eq_getElem hk', List.getD_eq_getElem?_getD, List.getElem?_eq_getElem hm]
  show ps[k] ≠ ps[(k + 1) % ps.length]
  have pw := List.pairwise_iff_getElem.mp h
  have hkm : k ≠ (k + 1) % ps.length := by
    by_cases c : k + 1 = ps.length
    · rw [c, Nat.mod_self]; omega
    · rw [Nat.mod_eq_of_lt (by omega)]; omega
  rcases Nat.lt_or_gt_of_ne hkm with l | l
  · exact pw _ _ _ _ l
  · exact fun e => pw _ _ _ _ l e.symm
theorem fdiv_b {a n : Int} {g : Nat} (hg : 0 < g) (hn : 0 ≤ n) (h : -n ≤ a ∧ a ≤ n) : -n ≤ a.fdiv (g : Int) ∧ a.fdiv (g : Int) ≤ n := by
  rw [Int.fdiv_eq_ediv_of_nonneg _ (by omega)]
  have hg' : (1 : Int) ≤ (g : Int) := by omega
  have hm : n * 1 ≤ n * (g : Int) := Int.mul_le_mul_of_nonneg_left hg' hn
  constructor
  · refine Int.le_ediv_of_mul_le (by omega) ?_
    rw [Int.neg_mul]
    omega
  · have : a / (g : Int) < n + 1 := Int.ediv_lt_of_lt_mul (by omega) (by rw [Int.add_mul]; omega)
    omega
theorem gcd_b {x : Pr2} {n : Nat} (h0 : x ≠ (0, 0)) (h1 : x.1.natAbs ≤ n) (h2 : x.2.natAbs ≤ n) : 0 < Nat.gcd x.1.natAbs x.2.natAbs ∧ Nat.gcd x.1.natAbs x.2.natAbs ≤ n := by
  constructor
  · rcases Nat.eq_zero_or_pos (Nat.gcd x.1.natAbs x.2.natAbs) with e | e
    · exfalso
      have e1 := Nat.eq_zero_of_gcd_eq_zero_left e
      have e2 := Nat.eq_zero_of_gcd_eq_zero_right e
      exact h0 (Prod.ext (by show x.1 = 0; omega) (by show x.2 = 0; omega))
    · exact e
  · by_cases e : x.1.natAbs = 0
    · rw [e, Nat.gcd_zero_left]; exact h2
    · exact Nat.le_trans (Nat.gcd_le_left _ (by omega)) h1
abbrev s__law_beside : Stmt := topS 35
abbrev N__law_beside : List Str := ["_law_box_here", "_law_poly", "_law_step", "_law_out", "_law_inner", "_law_start", "_law_stop", "_law_a", "_law_b", "_law_x", "_law_y", "_law_by", "_law_slide"]
theorem sc__law_beside : FnScope N__law_beside ["_law_box_here", "_law_poly"] (defScope s__law_beside) := ⟨rfl, rfl, rfl, by decide +kernel, rfl, by decide +kernel, by decide +kernel⟩
abbrev ClBs (P : Program) (w : World) (K : PySem.W.Frag) (mg : Str → Option Value) (base : Heap) (k : Nat) := Cl P w K mg base k "_law_beside" s__law_beside ["_law_box_here", "_law_poly"] (SpD K (p2 fun x y => x = .box ∧ ∃ ps : List Pr2, y = .tup (ps.map Dl.pairD) ∧ Pn 100000 ps) fun _ r => ∃ ps : List Pr2, r = .tup (ps.map Dl.pairD) ∧ Few 10000000 ps)
theorem ok__law_beside {k : Nat} (G : Gn mg) (F : Df K mg "_law_beside" s__law_beside) (C__law_take : ClT P w K mg base k) (C__law_pick : ClP P w K mg base k) (C__law_edges : ClEg P w K mg base k) (C__law_gcd : ClG P w K mg base k) : ClBs P w K mg base (k + 1) := by
  refine cl_of F sc__law_beside (fun _ _ _ _ _ _ us hl => match us, hl with | [_, _], _ => rfl) p2_len fun f cdv A outer s H E hr => ⟨_, (pss_cons (ps_asg (pe_c C__law_pick hr (by omega) (by rfl) (pa_cons (pv 0) (pa_cons (pe_c C__law_edges hr (by omega) (by rfl) (pa_cons (pv 1) pa_nil)) pa_nil))) (show PG _ _ (gTup K 2 (gCons (gName 7) (gCons (gName 8) gNil))) from pg_tup rfl (pgs_cons (pg_name (i := 7) sc__law_beside.nd rfl (Or.inl rfl)) (pgs_cons (pg_name (i := 8) sc__law_beside.nd rfl (Or.inl rfl)) pgs_nil))))
      (pss_cons (ps_par (i := 9) (j := 10) (by rfl) sc__law_beside.nd rfl rfl (by decide) rfl rfl (pa_cons (pe_op op_sub (pe_ix (show IxR _ (rIxT K) from ix_tup) (pv 8) pe_int (fun _ _ => rfl)) (pe_ix (show IxR _ (rIxT K) from ix_tup) (pv 7) pe_int (fun _ _ => rfl))) (pa_cons (pe_op op_sub (pe_ix (show IxR _ (rIxT K) from ix_tup) (pv 8) pe_int (fun _ _ => rfl)) (pe_ix (show IxR _ (rIxT K) from ix_tup) (pv 7) pe_int (fun _ _ => rfl))) pa_nil)) (by rfl))
      (pss_cons (ps_par (i := 11) (j := 12) (by rfl) sc__law_beside.nd rfl rfl (by decide) rfl rfl (pa_cons (pe_c C__law_gcd hr (by omega) (by rfl) (pa_cons (pv 9) (pa_cons (pv 10) pa_nil))) (pa_cons (pe_op op_sub (pe_c C__law_take hr (by omega) (by rfl) (pa_cons (pv 0) (pa_cons pe_int pa_nil))) pe_int) pa_nil)) (by rfl))
      (pss_cons (ps_set (i := 2) sc__law_beside.nd rfl (Or.inl rfl) (pe_tupZ (pa_cons (pe_op op_mul (pe_op op_fdivN (pv 9) (pv 11)) (pv 12)) (pa_cons (pe_op op_mul (pe_op op_fdivN (pv 10) (pv 11)) (pv 12)) pa_nil))))
      (pss_cons (ps_set (i := 3) sc__law_beside.nd rfl (Or.inl rfl) (pe_tupZ (pa_cons (pe_op op_add (pe_op op_add (pe_ix (show IxR _ (rIxT K) from ix_tup) (pv 8) pe_int (fun _ _ => rfl)) (pe_ix (show IxR _ (rIxT K) from ix_tup) (pv 2) pe_int (fun _ _ => rfl))) (pv 10)) (pa_cons (pe_op op_sub (pe_op op_add (pe_ix (show IxR _ (rIxT K) from ix_tup) (pv 8) pe_int (fun _ _ => rfl)) (pe_ix (show IxR _ (rIxT K) from ix_tup) (pv 2) pe_int (fun _ _ => rfl))) (pv 9)) pa_nil))))
      (pss_cons (ps_set (i := 4) sc__law_beside.nd rfl (Or.inl rfl) (pe_tupZ (pa_cons (pe_op op_add (pe_op op_add (pe_ix (show IxR _ (rIxT K) from ix_tup) (pv 7) pe_int (fun _ _ => rfl)) (pe_ix (show IxR _ (rIxT K) from ix_tup) (pv 2) pe_int (fun _ _ => rfl))) (pv 10)) (pa_cons (pe_op op_sub (pe_op op_add (pe_ix (show IxR _ (rIxT K) from ix_tup) (pv 7) pe_int (fun _ _ => rfl)) (pe_ix (show IxR _ (rIxT K) from ix_tup) (pv 2) pe_int (fun _ _ => rfl))) (pv 9)) pa_nil))))
      (pss_cons (ps_set (i := 5) sc__law_beside.nd rfl (Or.inl rfl) (pe_tupZ (pa_cons (pe_op op_add (pe_ix (show IxR _ (rIxT K) from ix_tup) (pv 8) pe_int (fun _ _ => rfl)) (pe_ix (show IxR _ (rIxT K) from ix_tup) (pv 2) pe_int (fun _ _ => rfl))) (pa_cons (pe_op op_add (pe_ix (show IxR _ (rIxT K) from ix_tup) (pv 8) pe_int (fun _ _ => rfl)) (pe_ix (show IxR _ (rIxT K) from ix_tup) (pv 2) pe_int (fun _ _ => rfl))) pa_nil))))
      (pss_cons (ps_set (i := 6) sc__law_beside.nd rfl (Or.inl rfl) (pe_tupZ (pa_cons (pe_op op_add (pe_ix (show IxR _ (rIxT K) from ix_tup) (pv 7) pe_int (fun _ _ => rfl)) (pe_ix (show IxR _ (rIxT K) from ix_tup) (pv 2) pe_int (fun _ _ => rfl))) (pa_cons (pe_op op_add (pe_ix (show IxR _ (rIxT K) from ix_tup) (pv 7) pe_int (fun _ _ => rfl)) (pe_ix (show IxR _ (rIxT K) from ix_tup) (pv 2) pe_int (fun _ _ => rfl))) pa_nil))))
      (pss_one (ps_ret (pe_c C__law_pick hr (by omega) (by rfl) (pa_cons (pv 0) (pa_cons (pe_lst (pa_cons (pe_tupZ (pa_cons (pv 5) (pa_cons (pv 6) (pa_cons (pv 3) pa_nil)))) (pa_cons (pe_tupZ (pa_cons (pv 5) (pa_cons (pv 6) (pa_cons (pv 4) (pa_cons (pv 3) pa_nil))))) pa_nil))) pa_nil))))))))))))), fun B ds hp => ?_⟩
  obtain ⟨_, _, rfl, rfl, ps, rfl, ⟨h3, h7, hb⟩, nd⟩ := p2_ex hp
  show WS K B _ [.val .box, .val (.tup (ps.map Dl.pairD)), .no, .no, .no, .no, .no, .no, .no, .no, .no, .no, .no] _
  try dsimp only [cxOf, Cx.nox, Cx.blk]
  refine ws_seq (ws_unt2 (we_call (wa_cons (we_var rfl (wa_cons (we_call (wa_cons (we_var rfl (wa_nil ⟨⟨ps, rfl, by omega⟩, ?_⟩)))))))))
  rintro _ ⟨ps', e, rfl⟩
  have e1 := prs_inj (D.tup.inj (List.cons.inj e).1)
  subst e1
  refine wa_nil ⟨⟨rfl, _, rfl, by rw [List.length_map, edg_len]; omega, by rw [List.length_map, edg_len]; omega⟩, ?_⟩
  rintro d0 ⟨_, e, hm⟩
  cases e
  obtain ⟨⟨a, b⟩, he, rfl⟩ := List.mem_map.mp hm
  clear hm
  have hne : a ≠ b := edg_ne nd (by omega) he
  have hm := edg_mem he
  obtain ⟨a1, a2, a3, a4⟩ := hb _ hm.1
  obtain ⟨b1, b2, b3, b4⟩ := hb _ hm.2
  dsimp only at a1 a2 a3 a4 b1 b2 b3 b4
  have hu0 : mns b a ≠ (0, 0) := by
    intro z
    unfold mns at z
    have z1 := (Prod.mk.inj z).1
    have z2 := (Prod.mk.inj z).2
    exact hne (Prod.ext (by omega) (by omega))
  obtain ⟨hg0, hg1⟩ := gcd_b (n := 200000) hu0 (by show (b.1 - a.1).natAbs ≤ _; omega) (by show (b.2 - a.2).natAbs ≤ _; omega)
  refine ⟨_, _, rfl, ?_⟩
  try dsimp only [List.set]
  refine ws_seq (ws_par (wa_cons (we_op (we_op (we_var rfl (we_int (ix0 (we_op (we_var rfl (we_int (ix0 (ro_int0 ?_))))))))))))
  refine wa_cons (we_op (we_op (we_var rfl (we_int (ix1 (we_op (we_var rfl (we_int (ix1 (ro_int0 (wa_nil ⟨_, _, rfl, ?_⟩)))))))))))
  try dsimp only [List.set]
  show WS K B _ [.val .box, .val (.tup (ps.map Dl.pairD)), .no, .no, .no, .no, .no, .val (Dl.pairD a), .val (Dl.pairD b), .val (.int (mns b a).1), .val (.int (mns b a).2), .no, .no] _
  have x1 : -200000 ≤ (mns b a).1 ∧ (mns b a).1 ≤ 200000 := by show -200000 ≤ b.1 - a.1 ∧ b.1 - a.1 ≤ 200000; omega
  have y1 : -200000 ≤ (mns b a).2 ∧ (mns b a).2 ≤ 200000 := by show -200000 ≤ b.2 - a.2 ∧ b.2 - a.2 ≤ 200000; omega
  generalize mns b a = u at hu0 hg0 hg1 x1 y1
  refine ws_seq (ws_par (wa_cons (we_callF (wa_cons (we_var rfl (wa_cons (we_var rfl (wa_nil ⟨⟨⟨_, rfl⟩, _, rfl⟩, ?_⟩))))))))
  dsimp only [f2, gcdF]
  generalize Nat.gcd u.1.natAbs u.2.natAbs = gg at hg0 hg1
  have q1 := fdiv_b hg0 (show (0 : Int) ≤ 200000 by decide) x1
  have q2 := fdiv_b hg0 (show (0 : Int) ≤ 200000 by decide) y1
  refine wa_cons (we_op (we_call (wa_cons (we_var rfl (wa_cons (we_int (wa_nil ⟨⟨rfl, 9, rfl, by decide, by decide⟩, ?_⟩)))))))
  rintro _ ⟨n, sl, e, rfl, hs0, hs1⟩
  cases e
  refine we_int (ro_int0 (wa_nil ⟨_, _, rfl, ?_⟩))
  try dsimp only [List.set]
  have m1 := Dl.mulB (m := 200000) (n := 9) q1 (show -9 ≤ sl - 4 ∧ sl - 4 ≤ 9 by omega)
  have m2 := Dl.mulB (m := 200000) (n := 9) q2 (show -9 ≤ sl - 4 ∧ sl - 4 ≤ 9 by omega)
  refine ws_seq (ws_set (we_tup (wa_cons (we_op (we_op (we_var rfl (we_var rfl (ro_int ⟨by omega, by omega⟩ (we_var rfl (ro_int (.inl ⟨by omega, by omega⟩) ?_))))))))))
  refine wa_cons (we_op (we_op (we_var rfl (we_var rfl (ro_int ⟨by omega, by omega⟩ (we_var rfl (ro_int (.inl ⟨by omega, by omega⟩) (wa_nil ⟨by show 2 ≤ 1000; decide, ?_⟩))))))))
  try dsimp only [List.set]
  generalize u.1.fdiv (gg : Int) * (sl - 4) = s1 at m1
  generalize u.2.fdiv (gg : Int) * (sl - 4) = s2 at m2
  repeat (first | walk_at "dl" | refine ro_ixT rfl ?_)
  refine ⟨⟨rfl, _, rfl, by show 0 < 2; decide, by show 2 ≤ 1000; decide⟩, ?_⟩
  rintro r ⟨_, e, hm⟩
  cases e
  have fw : ∀ qs : List Pr2, 3 ≤ qs.length → qs.length ≤ 7 → (∀ p ∈ qs, Upto 10000000 p) → ∃ ps : List Pr2, D.tup (qs.map Dl.pairD) = .tup (ps.map Dl.pairD) ∧ Few 10000000 ps := fun qs h1 h2 h3 => ⟨qs, rfl, h1, h2, h3⟩
  simp only [List.mem_cons, List.not_mem_nil, or_false] at hm
  rcases hm with rfl | rfl
  · refine fw [(_, _), (_, _), (_, _)] (by show 3 ≤ 3; decide) (by show 3 ≤ 7; decide) fun p hp => ?_
    simp only [List.mem_cons, List.not_mem_nil, or_false] at hp
    rcases hp with rfl | rfl | rfl <;> refine ⟨?_, ?_, ?_, ?_⟩ <;> dsimp only <;> omega
  · refine fw [(_, _), (_, _), (_, _), (_, _)] (by show 3 ≤ 4; decide) (by show 4 ≤ 7; decide) fun p hp => ?_
    simp only [List.mem_cons, List.not_mem_nil, or_false] at hp
    rcases hp with rfl | rfl | rfl | rfl <;> refine ⟨?_, ?_, ?_, ?_⟩ <;> dsimp only <;> omega

end
/-! #### Xk -/
section
variable {P : Program} {w : World} {K : PySem.W.Frag} {mg : Str → Option Value} {base : Heap}
/-! ### hull -/
abbrev s__law_hull : Stmt := topS 33
abbrev N__law_hull : List Str := ["_law_polys", "_law_p", "_law_xs", "_law_ys", "_law_c"]
theorem sc__law_hull : FnScope N__law_hull ["_law_polys"] (defScope s__law_hull) := ⟨rfl, rfl, rfl, by decide +kernel, rfl, by decide +kernel, by decide +kernel⟩
abbrev ClHu (P : Program) (w : World) (K : PySem.W.Frag) (mg : Str → Option Value) (base : Heap) (k : Nat) := Cl P w K mg base k "_law_hull" s__law_hull ["_law_polys"] (SpD K (p1 fun y => ∃ ps : List Pr2, y = .lst [.tup (ps.map Dl.pairD)] ∧ Few 100000 ps) fun _ r => ∃ a b c d : Int, r = .tup [.int a, .int b, .int c, .int d] ∧ Upto 100000 (a, b) ∧ Upto 100000 (c, d))
theorem ok__law_hull {k : Nat} (G : Gn mg) (F : Df K mg "_law_hull" s__law_hull) : ClHu P w K mg base (k + 1) := by
  refine cl_of F sc__law_hull (fun _ _ _ _ _ _ us hl => match us, hl with | [_], _ => rfl) p1_len fun f cdv A outer s H E hr => ⟨_, (pss_cons (ps_par (i := 2) (j := 3) (by rfl) sc__law_hull.nd rfl rfl (by decide) rfl rfl (pa_cons (pe_lst pa_nil) (pa_cons (pe_lst pa_nil) pa_nil)) (by rfl))
      (pss_cons (ps_for PassesOwn.never rfl (pi_list (pv 0)) (pg_name (i := 1) sc__law_hull.nd rfl (Or.inl rfl)) (pss_cons (ps_set (i := 2) sc__law_hull.nd rfl (Or.inl rfl) (pe_op op_cat (pv 2) (pe_lc (own := [("_law_c", 4)]) (g := gName 4) (tt := tYes) rfl sc__law_hull.nd (pi_tup (pv 1)) (blkOk_by (N := N__law_hull) (sc := defScope s__law_hull) (by decide +kernel)) (fun _ _ _ _ _ => pg_name (i := 4) sc__law_hull.nd rfl (Or.inl rfl)) (fun _ _ _ _ _ => pts_nil) (fun _ _ _ _ _ => (pe_ix (show IxR _ (rIxT K) from ix_tup) (pv 4) pe_int (fun _ _ => rfl))))))
      (pss_one (ps_set (i := 3) sc__law_hull.nd rfl (Or.inl rfl) (pe_op op_cat (pv 3) (pe_lc (own := [("_law_c", 4)]) (g := gName 4) (tt := tYes) rfl sc__law_hull.nd (pi_tup (pv 1)) (blkOk_by (N := N__law_hull) (sc := defScope s__law_hull) (by decide +kernel)) (fun _ _ _ _ _ => pg_name (i := 4) sc__law_hull.nd rfl (Or.inl rfl)) (fun _ _ _ _ _ => pts_nil) (fun _ _ _ _ _ => (pe_ix (show IxR _ (rIxT K) from ix_tup) (pv 4) pe_int (fun _ _ => rfl)))))))))
      (pss_one (ps_ret (pe_tupZ (pa_cons (pe_callB (show CallR _ (.builtin "min") (rMin K) from cr_min rfl) (by rfl) G.g_min (by decide +kernel) (pa_cons (pv 2) pa_nil)) (pa_cons (pe_callB (show CallR _ (.builtin "min") (rMin K) from cr_min rfl) (by rfl) G.g_min (by decide +kernel) (pa_cons (pv 3) pa_nil)) (pa_cons (pe_callB (show CallR _ (.builtin "max") (rMax K) from cr_max rfl) (by rfl) G.g_max (by decide +kernel) (pa_cons (pv 2) pa_nil)) (pa_cons (pe_callB (show CallR _ (.builtin "max") (rMax K) from cr_max rfl) (by rfl) G.g_max (by decide +kernel) (pa_cons (pv 3) pa_nil)) pa_nil))))))))), fun B ds hp => ?_⟩
  obtain ⟨_, rfl, ps, rfl, h3, h7, hps⟩ := p1_ex hp
  show WS K B _ [.val (.lst [.tup (ps.map Dl.pairD)]), .no, .no, .no, .no] _
  try dsimp only [cxOf, Cx.nox, Cx.blk]
  repeat walk_at "dl"
  try dsimp only [List.set]
  let xsn (n : Nat) : List Int := if n = 0 then [] else ps.map (·.1)
  let ysn (n : Nat) : List Int := if n = 0 then [] else ps.map (·.2)
  refine ws_for (wi_list (we_var rfl ⟨_, rfl, fun n δ1 => ∃ y1 y2, δ1 = [.val (.lst [.tup (ps.map Dl.pairD)]), y1, .val (.lst ((xsn n).map D.int)), .val (.lst ((ysn n).map D.int)), y2], ⟨_, _, rfl⟩, ?_, ?_⟩))
  · rintro n d δ1 hd ⟨y1, y2, rfl⟩
    obtain ⟨rfl, rfl⟩ : n = 0 ∧ d = .tup (ps.map Dl.pairD) := by
      match n, hd with
      | 0, hd => exact ⟨rfl, (Option.some.inj hd).symm⟩
      | n + 1, hd => cases hd
    try dsimp only [List.set]
    refine ws_seq (ws_set (we_op ?_))
    refine we_var rfl ?_
    refine we_lcQ (ps := ps) (fun c => .int c.1) (by omega) (wi_tup (we_var rfl ⟨_, rfl, rfl⟩)) (fun c hc => we_op (we_var rfl (we_int (ix0 rfl)))) (ro_cat ?_ ?_)
    · rw [List.length_map, List.length_map]; show 0 + _ ≤ _; omega
    try dsimp only [List.set]
    refine ws_set (we_op ?_)
    refine we_var rfl ?_
    refine we_lcQ (ps := ps) (fun c => .int c.2) (by omega) (wi_tup (we_var rfl ⟨_, rfl, rfl⟩)) (fun c hc => we_op (we_var rfl (we_int (ix1 rfl)))) (ro_cat ?_ ?_)
    · rw [List.length_map, List.length_map]; show 0 + _ ≤ _; omega
    try dsimp only [List.set]
    refine ⟨.val (.tup (ps.map Dl.pairD)), y2, ?_⟩
    rw [show (xsn (0 + 1)).map D.int = ps.map fun c => D.int c.1 by show (ps.map _).map D.int = _; rw [List.map_map]; rfl, show (ysn (0 + 1)).map D.int = ps.map fun c => D.int c.2 by show (ps.map _).map D.int = _; rw [List.map_map]; rfl]
    rfl
  · rintro δ1 ⟨y1, y2, rfl⟩
    have hx : ∀ m ∈ ps.map (·.1), -100000 ≤ m ∧ m ≤ 100000 := fun m hm => by
      obtain ⟨p, hp, rfl⟩ := List.mem_map.mp hm
      exact ⟨(hps p hp).1, (hps p hp).2.1⟩
    have hy : ∀ m ∈ ps.map (·.2), -100000 ≤ m ∧ m ≤ 100000 := fun m hm => by
      obtain ⟨p, hp, rfl⟩ := List.mem_map.mp hm
      exact ⟨(hps p hp).2.2.1, (hps p hp).2.2.2⟩
    have l1 : 0 < (ps.map (·.1)).length := by rw [List.length_map]; omega
    have l2 : 0 < (ps.map (·.2)).length := by rw [List.length_map]; omega
    refine ws_ret (we_tup (wa_cons (we_cb (wa_cons (we_var rfl (wa_nil (rc_min (ns := ps.map (·.1)) l1 fun a ha _ => ?_)))))))
    refine wa_cons (we_cb (wa_cons (we_var rfl (wa_nil (rc_min (ns := ps.map (·.2)) l2 fun b hb _ => ?_)))))
    refine wa_cons (we_cb (wa_cons (we_var rfl (wa_nil (rc_max (ns := ps.map (·.1)) l1 fun c hc _ => ?_)))))
    refine wa_cons (we_cb (wa_cons (we_var rfl (wa_nil (rc_max (ns := ps.map (·.2)) l2 fun d hd _ => ?_)))))
    refine wa_nil ⟨by show 4 ≤ 1000; decide, a, b, c, d, rfl, ⟨(hx a ha).1, (hx a ha).2, (hy b hb).1, (hy b hb).2⟩, ⟨(hx c hc).1, (hx c hc).2, (hy d hd).1, (hy d hd).2⟩⟩

/-! ### xd7 -/
abbrev s__law_two : Stmt := topS 36
abbrev N__law_two : List Str := ["_law_box_here", "_law_p", "_law_way_z", "_law_q", "_law_old", "_law_new", "_law_a", "_law_b"]
theorem sc__law_two : FnScope N__law_two ["_law_box_here"] (defScope s__law_two) := ⟨rfl, rfl, rfl, by decide +kernel, rfl, by decide +kernel, by decide +kernel⟩
abbrev ClTw (P : Program) (w : World) (K : PySem.W.Frag) (mg : Str → Option Value) (base : Heap) (k : Nat) := Cl P w K mg base k "_law_two" s__law_two ["_law_box_here"] (SpD K (p1 fun b => b = .box) fun _ r => ∃ ps qs : List Pr2, r = .tup [.tup (ps.map Dl.pairD), .tup (qs.map Dl.pairD)] ∧ ps.length ≤ 100 ∧ qs.length ≤ 100)
theorem sent_inj {x y : Int} (a b : Pr2) (e : sentP x y a = sentP x y b) : a = b := by
  unfold sentP at e
  have h1 := (Prod.mk.inj e).1
  have h2 := (Prod.mk.inj e).2
  exact Prod.ext (by omega) (by omega)
theorem pg_sent {ps : List Pr2} {x y : Int} (h : Pn 1000 ps) (hx : -10 ≤ x ∧ x ≤ 10) (hy : -10 ≤ y ∧ y ≤ 10) : Pg 100000 (.tup ((ps.map (sentP x y)).map Dl.pairD)) := by
  obtain ⟨⟨h1, h2, h3⟩, nd⟩ := h
  refine ⟨_, rfl, ⟨by rw [List.length_map]; exact h1, by rw [List.length_map]; exact h2, fun p hp => ?_⟩, two_map sent_inj nd⟩
  obtain ⟨q, hq, rfl⟩ := List.mem_map.mp hp
  have := h3 q hq
  unfold Upto sentP at *
  dsimp only
  omega
theorem ok__law_two {k : Nat} (G : Gn mg) (F : Df K mg "_law_two" s__law_two) (C__law_take : ClT P w K mg base k) (C__law_pick : ClP P w K mg base k) (C__law_shape : ClSh P w K mg base k) (C__law_quarter : ClQu P w K mg base k) (C__law_hull : ClHu P w K mg base k) (C__law_sent : ClSe P w K mg base k) (C__law_beside : ClBs P w K mg base k) : ClTw P w K mg base (k + 1) := by
  refine cl_of F sc__law_two (fun _ _ _ _ _ _ us hl => match us, hl with | [_], _ => rfl) p1_len fun f cdv A outer s H E hr => ⟨_, (pss_cons (ps_set (i := 1) sc__law_two.nd rfl (Or.inl rfl) (pe_c C__law_sent hr (by omega) (by rfl) (pa_cons (pe_c C__law_pick hr (by omega) (by rfl) (pa_cons (pv 0) (pa_cons (pe_c C__law_shape hr (by omega) (by rfl) (pa_cons (pv 0) pa_nil)) pa_nil))) (pa_cons (pe_op op_sub (pe_c C__law_take hr (by omega) (by rfl) (pa_cons (pv 0) (pa_cons pe_int pa_nil))) pe_int) (pa_cons (pe_op op_sub (pe_c C__law_take hr (by omega) (by rfl) (pa_cons (pv 0) (pa_cons pe_int pa_nil))) pe_int) pa_nil)))))
      (pss_cons (ps_set (i := 1) sc__law_two.nd rfl (Or.inl rfl) (pe_c C__law_quarter hr (by omega) (by rfl) (pa_cons (pv 1) (pa_cons (pe_c C__law_take hr (by omega) (by rfl) (pa_cons (pv 0) (pa_cons pe_int pa_nil))) pa_nil))))
      (pss_cons (ps_set (i := 2) sc__law_two.nd rfl (Or.inl rfl) (pe_c C__law_take hr (by omega) (by rfl) (pa_cons (pv 0) (pa_cons pe_int pa_nil))))
      (pss_cons (ps_if (pt_cmpR op_lt (pv 2) pe_int (nomark _)) (pss_one (ps_ret (pe_tupZ (pa_cons (pv 1) (pa_cons (pe_c C__law_beside hr (by omega) (by rfl) (pa_cons (pv 0) (pa_cons (pv 1) pa_nil))) pa_nil))))) pss_nil)
      (pss_cons (ps_set (i := 3) sc__law_two.nd rfl (Or.inl rfl) (pe_c C__law_quarter hr (by omega) (by rfl) (pa_cons (pe_c C__law_pick hr (by omega) (by rfl) (pa_cons (pv 0) (pa_cons (pe_c C__law_shape hr (by omega) (by rfl) (pa_cons (pv 0) pa_nil)) pa_nil))) (pa_cons (pe_c C__law_take hr (by omega) (by rfl) (pa_cons (pv 0) (pa_cons pe_int pa_nil))) pa_nil))))
      (pss_cons (ps_if (pt_cmpR op_eq (pv 2) pe_int (nomark _)) (pss_cons (ps_par (i := 6) (j := 7) (by rfl) sc__law_two.nd rfl rfl (by decide) rfl rfl (pa_cons (pe_c C__law_pick hr (by omega) (by rfl) (pa_cons (pv 0) (pa_cons (pe_callTy call_list_of (by rfl) G.g_list (by decide +kernel) (pa_cons (pv 1) pa_nil)) pa_nil))) (pa_cons (pe_c C__law_pick hr (by omega) (by rfl) (pa_cons (pv 0) (pa_cons (pe_callTy call_list_of (by rfl) G.g_list (by decide +kernel) (pa_cons (pv 3) pa_nil)) pa_nil))) pa_nil)) (by rfl))
      (pss_one (ps_ret (pe_tupZ (pa_cons (pv 1) (pa_cons (pe_c C__law_sent hr (by omega) (by rfl) (pa_cons (pv 3) (pa_cons (pe_op op_sub (pe_ix (show IxR _ (rIxT K) from ix_tup) (pv 6) pe_int (fun _ _ => rfl)) (pe_ix (show IxR _ (rIxT K) from ix_tup) (pv 7) pe_int (fun _ _ => rfl))) (pa_cons (pe_op op_sub (pe_ix (show IxR _ (rIxT K) from ix_tup) (pv 6) pe_int (fun _ _ => rfl)) (pe_ix (show IxR _ (rIxT K) from ix_tup) (pv 7) pe_int (fun _ _ => rfl))) pa_nil)))) pa_nil)))))) pss_nil)
      (pss_cons (ps_par (i := 4) (j := 5) (by rfl) sc__law_two.nd rfl rfl (by decide) rfl rfl (pa_cons (pe_c C__law_hull hr (by omega) (by rfl) (pa_cons (pe_lst (pa_cons (pv 1) pa_nil)) pa_nil)) (pa_cons (pe_c C__law_hull hr (by omega) (by rfl) (pa_cons (pe_lst (pa_cons (pv 3) pa_nil)) pa_nil)) pa_nil)) (by rfl))
      (pss_cons (ps_if (pt_cmpR op_eq (pv 2) pe_int (nomark _)) (pss_one (ps_ret (pe_tupZ (pa_cons (pv 1) (pa_cons (pe_c C__law_sent hr (by omega) (by rfl) (pa_cons (pv 3) (pa_cons (pe_op op_sub (pe_ix (show IxR _ (rIxT K) from ix_tup) (pv 4) pe_int (fun _ _ => rfl)) (pe_ix (show IxR _ (rIxT K) from ix_tup) (pv 5) pe_int (fun _ _ => rfl))) (pa_cons (pe_op op_sub (pe_op op_add (pe_op op_sub (pe_ix (show IxR _ (rIxT K) from ix_tup) (pv 4) pe_int (fun _ _ => rfl)) (pe_ix (show IxR _ (rIxT K) from ix_tup) (pv 5) pe_int (fun _ _ => rfl))) (pe_c C__law_take hr (by omega) (by rfl) (pa_cons (pv 0) (pa_cons pe_int pa_nil)))) pe_int) pa_nil)))) pa_nil))))) pss_nil)
      (pss_one (ps_ret (pe_tupZ (pa_cons (pv 1) (pa_cons (pe_c C__law_sent hr (by omega) (by rfl) (pa_cons (pv 3) (pa_cons (pe_op op_sub (pe_c C__law_take hr (by omega) (by rfl) (pa_cons (pv 0) (pa_cons pe_int pa_nil))) pe_int) (pa_cons (pe_op op_sub (pe_c C__law_take hr (by omega) (by rfl) (pa_cons (pv 0) (pa_cons pe_int pa_nil))) pe_int) pa_nil)))) pa_nil))))))))))))), fun B ds hp => ?_⟩
  obtain ⟨_, rfl, rfl⟩ := p1_ex hp
  show WS K B _ [.val .box, .no, .no, .no, .no, .no, .no, .no] _
  try dsimp only [cxOf, Cx.nox, Cx.blk]
  have tk : ∀ {X : Xc} {δ : List Sd} {m : Nat} {Q : D → Prop}, δ[0]? = some (.val .box) → 0 < m → m ≤ 1000 → (∀ i : Int, 0 ≤ i → i < (m : Int) → Q (.int i)) → WEx K B X (tCall (SpD K takePre takePost) [] E0 (tCons (tVar 0) (tCons (tC (.int (m : Int))) tNil))) δ Q := by
    intro X δ m Q h0 h1 h2 h
    refine we_call (wa_cons (we_var h0 (wa_cons (we_int (wa_nil ⟨⟨rfl, m, rfl, by omega, by omega⟩, ?_⟩)))))
    rintro _ ⟨n, j, e, rfl, a1, a2⟩
    cases e
    exact h j a1 a2
  refine ws_seq (ws_set (we_call (wa_cons (we_call (wa_cons (we_var rfl (wa_cons (we_call (wa_cons (we_var rfl (wa_nil ⟨rfl, ?_⟩)))))))))))
  rintro _ ⟨xs, rfl, h0, h1, hpg⟩
  refine wa_nil ⟨⟨rfl, _, rfl, h0, h1⟩, ?_⟩
  rintro pd ⟨_, e, hm⟩
  cases e
  obtain ⟨ps, rfl, hps⟩ := hpg pd hm
  clear hm
  refine wa_cons (we_op (tk (m := 9) rfl (by decide) (by decide) fun i hi0 hi1 => we_int (ro_int0 (wa_cons (we_op (tk (m := 9) rfl (by decide) (by decide) fun j hj0 hj1 => we_int (ro_int0 (wa_nil ⟨⟨ps, _, _, rfl, rfl, rfl, by have := hps.1.2.1; omega⟩, ?_⟩))))))))
  rintro _ ⟨ps', x', y', e, rfl⟩
  have e1 := prs_inj (D.tup.inj (List.cons.inj e).1)
  have e2 := D.int.inj (List.cons.inj (List.cons.inj e).2).1
  have e3 := D.int.inj (List.cons.inj (List.cons.inj (List.cons.inj e).2).2).1
  rw [← e1, ← e2, ← e3]
  clear e1 e2 e3 e
  have hp1 := pg_sent (x := i - 4) (y := j - 4) hps ⟨by omega, by omega⟩ ⟨by omega, by omega⟩
  try dsimp only [List.set]
  generalize D.tup ((ps.map (sentP (i - 4) (j - 4))).map Dl.pairD) = d1 at hp1
  refine ws_seq (ws_set (we_call (wa_cons (we_var rfl (wa_cons (tk (m := 4) rfl (by decide) (by decide) fun t _ _ => wa_nil ⟨⟨hp1, _, rfl⟩, ?_⟩))))))
  rintro _ ⟨ps, rfl, hps⟩
  try dsimp only [List.set]
  refine ws_seq (ws_set (tk (m := 5) rfl (by decide) (by decide) fun way hw0 hw1 => ?_))
  try dsimp only [List.set]
  have lp : ps.length ≤ 7 := hps.1.2.1
  refine ws_seq (ws_if (wt_test (we_op (we_var rfl (we_int (ro_bl0 ⟨_, rfl, ?_⟩))))))
  refine ite2 (fun h => ?_) (fun h => ?_)
  · refine ws_ret (we_tup (wa_cons (we_var rfl (wa_cons (we_call (wa_cons (we_var rfl (wa_cons (we_var rfl (wa_nil ⟨⟨rfl, ps, rfl, hps⟩, ?_⟩))))))))))
    rintro _ ⟨qs, rfl, hqs⟩
    exact wa_nil ⟨by show 2 ≤ 1000; decide, ps, qs, rfl, by omega, by have := hqs.2.1; omega⟩
  refine ws_next ?_
  refine ws_seq (ws_set (we_call (wa_cons (we_call (wa_cons (we_var rfl (wa_cons (we_call (wa_cons (we_var rfl (wa_nil ⟨rfl, ?_⟩)))))))))))
  rintro _ ⟨xs, rfl, h0, h1, hpg⟩
  refine wa_nil ⟨⟨rfl, _, rfl, h0, h1⟩, ?_⟩
  rintro qd ⟨_, e, hm⟩
  cases e
  have hq1 := hpg qd hm
  clear hm hpg
  refine wa_cons (tk (m := 4) rfl (by decide) (by decide) fun t _ _ => wa_nil ⟨⟨pg_le hq1 (by decide), _, rfl⟩, ?_⟩)
  rintro _ ⟨qs, rfl, hqs⟩
  have lq : qs.length ≤ 7 := hqs.1.2.1
  try dsimp only [List.set]
  have fin : ∀ {δ : List Sd} {tx ty : TE} {O : Out}, (O.rt = fun r => ∃ ps qs : List Pr2, r = .tup [.tup (ps.map Dl.pairD), .tup (qs.map Dl.pairD)] ∧ ps.length ≤ 100 ∧ qs.length ≤ 100) → δ[1]? = some (.val (.tup (ps.map Dl.pairD))) → δ[3]? = some (.val (.tup (qs.map Dl.pairD))) → WEx K B O.x tx δ (fun x => ∃ i, x = .int i ∧ WEx K B O.x ty δ fun y => ∃ j, y = .int j) →
      WS K B (tRet (zTup (tCons (tVar 1) (tCons (tCall (SpD K (p3 fun d x y => ∃ (ps : List Pr2) (i j : Int), d = .tup (ps.map Dl.pairD) ∧ x = .int i ∧ y = .int j ∧ ps.length ≤ 100) fun ds r => ∃ (ps : List Pr2) (i j : Int), ds = [.tup (ps.map Dl.pairD), .int i, .int j] ∧ r = .tup ((ps.map (sentP i j)).map Dl.pairD)) [] E0 (tCons (tVar 3) (tCons tx (tCons ty tNil)))) tNil)))) δ O := by
    intro δ tx ty O ho h1 h3 h
    refine ws_ret (we_tup (wa_cons (we_var h1 (wa_cons (we_call (wa_cons (we_var h3 (wa_cons (wex_mono h fun x ⟨i, e, hy⟩ => wa_cons (wex_mono hy fun y ⟨j, e2⟩ => wa_nil ?_))))))))))
    subst e e2
    refine ⟨⟨qs, i, j, rfl, rfl, rfl, by omega⟩, ?_⟩
    rintro _ ⟨qs', i', j', e, rfl⟩
    have e1 := prs_inj (D.tup.inj (List.cons.inj e).1)
    refine wa_nil ⟨by show 2 ≤ 1000; decide, ?_⟩
    rw [ho]
    exact ⟨ps, qs'.map (sentP i' j'), rfl, by omega, by rw [List.length_map, ← e1]; omega⟩
  refine ws_seq (ws_if (wt_test (we_op (we_var rfl (we_int (ro_eqI ⟨_, rfl, ?_⟩))))))
  refine ite2 (fun h => ?_) (fun h => ?_)
  · refine ws_seq (ws_par (wa_cons (we_call (wa_cons (we_var rfl (wa_cons (we_cb (wa_cons (we_var rfl (wa_nil (rc_listOf (wa_nil ⟨⟨rfl, _, rfl, by rw [List.length_map]; have := hps.1.1; omega, by rw [List.length_map]; omega⟩, ?_⟩)).2))))))))))
    rintro _ ⟨_, e, hm⟩
    cases e
    obtain ⟨a, ha, rfl⟩ := List.mem_map.mp hm
    clear hm
    refine wa_cons (we_call (wa_cons (we_var rfl (wa_cons (we_cb (wa_cons (we_var rfl (wa_nil (rc_listOf (wa_nil ⟨⟨rfl, _, rfl, by rw [List.length_map]; have := hqs.1.1; omega, by rw [List.length_map]; omega⟩, ?_⟩)).2))))))))
    rintro _ ⟨_, e, hm⟩
    cases e
    obtain ⟨b, hb, rfl⟩ := List.mem_map.mp hm
    clear hm
    refine wa_nil ⟨_, _, rfl, ?_⟩
    try dsimp only [List.set]
    refine fin rfl rfl rfl (we_op (we_op (we_var rfl (we_int (ix0 (we_op (we_var rfl (we_int (ix0 (ro_int0 ⟨_, rfl, ?_⟩))))))))))
    exact we_op (we_op (we_var rfl (we_int (ix1 (we_op (we_var rfl (we_int (ix1 (ro_int0 ⟨_, rfl⟩)))))))))
  refine ws_next ?_
  refine ws_seq (ws_par (wa_cons (we_call (wa_cons (we_lst (wa_cons (we_var rfl (wa_nil ⟨by show 1 ≤ 1000; decide, wa_nil ⟨⟨ps, rfl, hps.1⟩, ?_⟩⟩))))))))
  rintro _ ⟨a1, a2, a3, a4, rfl, _, _⟩
  refine wa_cons (we_call (wa_cons (we_lst (wa_cons (we_var rfl (wa_nil ⟨by show 1 ≤ 1000; decide, wa_nil ⟨⟨qs, rfl, hqs.1⟩, ?_⟩⟩))))))
  rintro _ ⟨b1, b2, b3, b4, rfl, _, _⟩
  refine wa_nil ⟨_, _, rfl, ?_⟩
  try dsimp only [List.set]
  refine ws_seq (ws_if (wt_test (we_op (we_var rfl (we_int (ro_eqI ⟨_, rfl, ?_⟩))))))
  refine ite2 (fun h => ?_) (fun h => ?_)
  · refine fin rfl rfl rfl (we_op (we_op (we_var rfl (we_int (ro_ixT rfl (we_op (we_var rfl (we_int (ro_ixT rfl (ro_int0 ⟨_, rfl, ?_⟩))))))))))
    refine we_op (we_op (we_op (we_op (we_var rfl (we_int (ro_ixT rfl (we_op (we_var rfl (we_int (ro_ixT rfl (ro_int0 (tk (m := 9) rfl (by decide) (by decide) fun i _ _ => ro_int0 (we_int (ro_int0 ⟨_, rfl⟩))))))))))))))
  · refine ws_next ?_
    exact fin rfl rfl rfl (we_op (tk (m := 13) rfl (by decide) (by decide) fun i _ _ => we_int (ro_int0 ⟨_, rfl, we_op (tk (m := 13) rfl (by decide) (by decide) fun i _ _ => we_int (ro_int0 ⟨_, rfl⟩))⟩)))

end
/-! #### Xl -/
section
variable {P : Program} {w : World} {K : PySem.W.Frag} {mg : Str → Option Value} {base : Heap}
/-! ### xd8 -/
/-! ### _law_so -/
abbrev s__law_so : Stmt := topS 37
abbrev N__law_so : List Str := ["_law_p", "_law_q", "_law_due", "_law_found"]
theorem sc__law_so : FnScope N__law_so ["_law_p", "_law_q", "_law_due"] (defScope s__law_so) := ⟨rfl, rfl, rfl, by decide +kernel, rfl, by decide +kernel, by decide +kernel⟩
/-- all that is asked of two parts answers so -/
def SoP (ps qs : List Pr2) (b c : Bool) : Prop := ovB ps qs = b ∧ joB ps qs = c ∧ joB qs ps = c
theorem ovB_comm (ps qs : List Pr2) : ovB ps qs = ovB qs ps := by unfold ovB; exact Bool.and_comm _ _
abbrev ClSo (P : Program) (w : World) (K : PySem.W.Frag) (mg : Str → Option Value) (base : Heap) (k : Nat) := Cl P w K mg base k "_law_so" s__law_so ["_law_p", "_law_q", "_law_due"] (SpD K (p3 fun x y z => ∃ (ps qs : List Pr2) (b c : Bool), x = .tup (ps.map Dl.pairD) ∧ y = .tup (qs.map Dl.pairD) ∧ z = .lst [.bl b, .bl c] ∧ Few 10000000 ps ∧ Few 10000000 qs ∧ SoP ps qs b c) fun _ r => r = .bl true)
theorem ok__law_so {k : Nat} (G : Gn mg) (F : Df K mg "_law_so" s__law_so) (C_overlap : ClOl P w K mg base k) (C_joined : ClJo P w K mg base k) (K_overlap : Ck P w K mg base k "overlap" ["other", "part"] (SpD K (twoPre 10000000) fun ds r => ∃ ps qs : List Pr2, ds = [.tup (ps.map Dl.pairD), .tup (qs.map Dl.pairD)] ∧ r = .bl (!hde ps qs && !hde qs ps)) (fun zs => zs.reverse)) (K_joined : Ck P w K mg base k "joined" ["other", "part"] (SpD K (twoPre 10000000) fun ds r => ∃ ps qs : List Pr2, ds = [.tup (ps.map Dl.pairD), .tup (qs.map Dl.pairD)] ∧ r = .bl (joB ps qs)) (fun zs => zs.reverse)) (C__law_same : ClS P w K mg base k 3) : ClSo P w K mg base (k + 1) := by
  refine cl_of F sc__law_so (fun _ _ _ _ _ _ us hl => match us, hl with | [_, _, _], _ => rfl) p3_len fun f cdv A outer s H E hr => ⟨_, (pss_cons (ps_set (i := 3) sc__law_so.nd rfl (Or.inl rfl) (pe_lst (pa_cons (pe_c C_overlap hr (by omega) (by rfl) (pa_cons (pv 0) (pa_cons (pv 1) pa_nil))) (pa_cons (pe_c C_overlap hr (by omega) (by rfl) (pa_cons (pv 1) (pa_cons (pv 0) pa_nil))) (pa_cons (pe_c C_joined hr (by omega) (by rfl) (pa_cons (pv 0) (pa_cons (pv 1) pa_nil))) (pa_cons (pe_c C_joined hr (by omega) (by rfl) (pa_cons (pv 1) (pa_cons (pv 0) pa_nil))) (pa_cons (pe_ck K_overlap hr (by omega) (by rfl) (pk_cons (pv 1) (pk_cons (pv 0) pk_nil))) (pa_cons (pe_ck K_joined hr (by omega) (by rfl) (pk_cons (pv 0) (pk_cons (pv 1) pk_nil))) pa_nil))))))))
      (pss_one (ps_ret (pe_c C__law_same hr (by omega) (by rfl) (pa_cons (pv 3) (pa_cons (pe_lst (pa_cons (pe_ix (show IxR _ (rIxL K) from ix_list) (pv 2) pe_int (fun _ _ => rfl)) (pa_cons (pe_ix (show IxR _ (rIxL K) from ix_list) (pv 2) pe_int (fun _ _ => rfl)) (pa_cons (pe_ix (show IxR _ (rIxL K) from ix_list) (pv 2) pe_int (fun _ _ => rfl)) (pa_cons (pe_ix (show IxR _ (rIxL K) from ix_list) (pv 2) pe_int (fun _ _ => rfl)) (pa_cons (pe_ix (show IxR _ (rIxL K) from ix_list) (pv 2) pe_int (fun _ _ => rfl)) (pa_cons (pe_ix (show IxR _ (rIxL K) from ix_list) (pv 2) pe_int (fun _ _ => rfl)) pa_nil))))))) pa_nil)))))), fun B ds hp => ?_⟩
  obtain ⟨_, _, _, rfl, ps, qs, b, c, rfl, rfl, rfl, hps, hqs, ho, hj1, hj2⟩ := p3_ex hp
  show WS K B _ [.val (.tup (ps.map Dl.pairD)), .val (.tup (qs.map Dl.pairD)), .val (.lst [.bl b, .bl c]), .no] _
  try dsimp only [cxOf, Cx.nox, Cx.blk]
  have ov : ∀ {Q : D → Prop} (ps qs : List Pr2), Q (.bl (ovB ps qs)) → ∀ r, (∃ ps' qs' : List Pr2, [D.tup (ps.map Dl.pairD), .tup (qs.map Dl.pairD)] = [.tup (ps'.map Dl.pairD), .tup (qs'.map Dl.pairD)] ∧ r = .bl (!hde ps' qs' && !hde qs' ps')) → Q r := by
    rintro Q ps qs h r ⟨ps', qs', e, rfl⟩
    have e1 := prs_inj (D.tup.inj (List.cons.inj e).1)
    have e2 := prs_inj (D.tup.inj (List.cons.inj (List.cons.inj e).2).1)
    rw [← e1, ← e2]; exact h
  have jo : ∀ {Q : D → Prop} (ps qs : List Pr2), Q (.bl (joB ps qs)) → ∀ r, (∃ ps' qs' : List Pr2, [D.tup (ps.map Dl.pairD), .tup (qs.map Dl.pairD)] = [.tup (ps'.map Dl.pairD), .tup (qs'.map Dl.pairD)] ∧ r = .bl (joB ps' qs')) → Q r := by
    rintro Q ps qs h r ⟨ps', qs', e, rfl⟩
    have e1 := prs_inj (D.tup.inj (List.cons.inj e).1)
    have e2 := prs_inj (D.tup.inj (List.cons.inj (List.cons.inj e).2).1)
    rw [← e1, ← e2]; exact h
  have ho2 : ovB qs ps = b := by rw [ovB_comm]; exact ho
  refine ws_seq (ws_set (we_lst (wa_cons (we_call (wa_cons (we_var rfl (wa_cons (we_var rfl (wa_nil ⟨⟨ps, qs, rfl, rfl, hps, hqs⟩, ov ps qs ?_⟩)))))))))
  refine wa_cons (we_call (wa_cons (we_var rfl (wa_cons (we_var rfl (wa_nil ⟨⟨qs, ps, rfl, rfl, hqs, hps⟩, ov qs ps ?_⟩))))))
  refine wa_cons (we_call (wa_cons (we_var rfl (wa_cons (we_var rfl (wa_nil ⟨⟨ps, qs, rfl, rfl, hps, hqs⟩, jo ps qs ?_⟩))))))
  refine wa_cons (we_call (wa_cons (we_var rfl (wa_cons (we_var rfl (wa_nil ⟨⟨qs, ps, rfl, rfl, hqs, hps⟩, jo qs ps ?_⟩))))))
  refine wa_cons (we_ck (gD := fun ds => ds.reverse) (fun _ _ _ h => h.rev) (wa_cons (we_var rfl (wa_cons (we_var rfl (wa_nil ⟨rfl, ⟨ps, qs, rfl, rfl, hps, hqs⟩, ov ps qs ?_⟩))))))
  refine wa_cons (we_ck (gD := fun ds => ds.reverse) (fun _ _ _ h => h.rev) (wa_cons (we_var rfl (wa_cons (we_var rfl (wa_nil ⟨rfl, ⟨qs, ps, rfl, rfl, hqs, hps⟩, jo qs ps ?_⟩))))))
  refine wa_nil ⟨by show 6 ≤ 1000; decide, ?_⟩
  rw [ho, ho2, hj1, hj2]
  try dsimp only [List.set]
  refine ws_ret (we_callF (wa_cons (we_var rfl ?_)))
  repeat (first | walk_at "dl" | refine ro_ixL rfl ?_)
  exact ⟨⟨rfl, rfl⟩, rfl⟩

end
/-! #### Xm -/
section
variable {P : Program} {w : World} {K : PySem.W.Frag} {mg : Str → Option Value} {base : Heap}
/-! ### xm1 -/
/-! ### the mathematics: what the law reckons is what the program reckons -/
theorem polyB_all {ps : List Pr2} (h : polyB ps = true) {e : Pr2 × Pr2} (he : e ∈ edg ps) {x : Pr2} (hx : x ∈ ps) : 0 ≤ trn e.1 e.2 x := by
  unfold edg at he
  obtain ⟨k, hk, rfl⟩ := List.mem_map.mp he
  have hk' := List.mem_range.mp hk
  unfold polyB at h
  have hp := List.all_eq_true.mp h k hk
  unfold polyAt at hp
  obtain ⟨j, hj, rfl⟩ := List.mem_iff_getElem.mp hx
  have hq := List.all_eq_true.mp hp j (List.mem_range.mpr hj)
  have ej : ps.getD j (0, 0) = ps[j] := by rw [List.getD_eq_getElem?_getD, List.getElem?_eq_getElem hj]; rfl
  rw [ej, Bool.or_eq_true, Bool.or_eq_true, decide_eq_true_eq, decide_eq_true_eq, decide_eq_true_eq] at hq
  show 0 ≤ trn (ps.getD k (0, 0)) (ps.getD ((k + 1) % ps.length) (0, 0)) ps[j]
  rcases hq with (e | e) | e
  · subst e
    rw [ej]
    have : trn ps[j] (ps.getD ((j + 1) % ps.length) (0, 0)) ps[j] = 0 := by unfold trn crs mns; grind
    omega
  · have e2 : ps.getD ((k + 1) % ps.length) (0, 0) = ps[j] := by rw [← e, ej]
    rw [e2]
    have : trn (ps.getD k (0, 0)) ps[j] ps[j] = 0 := by unfold trn crs mns; grind
    omega
  · omega
theorem nr_A (e : Pr2 × Pr2) (y x : Pr2) : dotP (nrA e) (mns y x) = trn e.1 e.2 x - trn e.1 e.2 y := by unfold dotP nrA mns trn crs mns; grind
theorem nr_B (e : Pr2 × Pr2) (y x : Pr2) : dotP (nrB e) (mns y x) = trn e.1 e.2 y - trn e.1 e.2 x := by unfold dotP nrB mns trn crs mns; grind
theorem trn0 (e : Pr2 × Pr2) : trn e.1 e.2 e.1 = 0 := by unfold trn crs mns; grind
theorem nll_iff {e : Pr2 × Pr2} {cs : List Pr2} : nll e.1 e.2 cs = true ↔ ∀ c ∈ cs, trn e.1 e.2 c ≤ 0 := by
  unfold nll
  rw [List.all_eq_true]
  exact ⟨fun h c hc => of_decide_eq_true (h c hc), fun h c hc => decide_eq_true (h c hc)⟩
theorem meet_ov {ps qs : List Pr2} (hp : polyB ps = true) (hq : polyB qs = true) : mtB ps qs = ovB ps qs := by
  have key : (((edg ps).map nrA ++ (edg qs).map nrB).any fun n => qs.all fun y => ps.all fun x => decide (0 ≤ dotP n (mns y x))) = (hde ps qs || hde qs ps) := by
    rw [List.any_append, List.any_map, List.any_map]
    unfold hde
    congr 1
    · rw [Bool.eq_iff_iff, List.any_eq_true, List.any_eq_true]
      constructor
      · rintro ⟨e, he, h⟩
        refine ⟨e, he, nll_iff.mpr fun y hy => ?_⟩
        have h1 := of_decide_eq_true (List.all_eq_true.mp (List.all_eq_true.mp h y hy) e.1 (edg_mem he).1)
        rw [nr_A, trn0] at h1
        omega
      · rintro ⟨e, he, h⟩
        refine ⟨e, he, List.all_eq_true.mpr fun y hy => List.all_eq_true.mpr fun x hx => decide_eq_true ?_⟩
        rw [nr_A]
        have h1 := nll_iff.mp h y hy
        have h2 := polyB_all hp he hx
        omega
    · rw [Bool.eq_iff_iff, List.any_eq_true, List.any_eq_true]
      constructor
      · rintro ⟨e, he, h⟩
        refine ⟨e, he, nll_iff.mpr fun x hx => ?_⟩
        have h1 := of_decide_eq_true (List.all_eq_true.mp (List.all_eq_true.mp h e.1 (edg_mem he).1) x hx)
        rw [nr_B, trn0] at h1
        omega
      · rintro ⟨e, he, h⟩
        refine ⟨e, he, List.all_eq_true.mpr fun y hy => List.all_eq_true.mpr fun x hx => decide_eq_true ?_⟩
        rw [nr_B]
        have h1 := nll_iff.mp h x hx
        have h2 := polyB_all hq he hy
        omega
  unfold mtB ovB
  rw [key, Bool.not_or]

end
/-! #### Xn -/
section
variable {P : Program} {w : World} {K : PySem.W.Frag} {mg : Str → Option Value} {base : Heap}
/-! ### xm2 -/
/-! ### the stretches: the law's way and the program's, either way round -/
theorem sqs_pos {d : Pr2} (h : d ≠ (0, 0)) : 0 < dotP d d := by
  unfold dotP
  have sq : ∀ a : Int, 0 ≤ a * a := fun a => by
    rcases Int.le_total 0 a with h | h
    · exact Int.mul_nonneg h h
    · have := Int.mul_nonneg (show 0 ≤ -a by omega) (show 0 ≤ -a by omega)
      rw [Int.neg_mul_neg] at this
      exact this
  have h1 := sq d.1
  have h2 := sq d.2
  by_cases e1 : d.1 = 0
  · by_cases e2 : d.2 = 0
    · exact absurd (Prod.ext e1 e2) h
    · have : d.2 * d.2 ≠ 0 := Int.mul_ne_zero e2 e2
      omega
  · have : d.1 * d.1 ≠ 0 := Int.mul_ne_zero e1 e1
    omega
theorem mns_ne {a b : Pr2} (h : a ≠ b) : mns b a ≠ (0, 0) := fun z => by
  unfold mns at z
  have z1 := (Prod.mk.inj z).1
  have z2 := (Prod.mk.inj z).2
  exact h (Prod.ext (by omega) (by omega))
theorem st_ne {a b c d : Pr2} (hab : a ≠ b) (hcd : c ≠ d) (h1 : trn a b c = 0) (h2 : trn a b d = 0) : dotP (mns b a) (mns c a) ≠ dotP (mns b a) (mns d a) := by
  intro e
  have u := sqs_pos (mns_ne hab)
  have w := sqs_pos (mns_ne hcd)
  have k : dotP (mns b a) (mns b a) * dotP (mns d c) (mns d c) = (dotP (mns b a) (mns d a) - dotP (mns b a) (mns c a)) * (dotP (mns b a) (mns d a) - dotP (mns b a) (mns c a)) + (trn a b d - trn a b c) * (trn a b d - trn a b c) := by
    unfold trn crs dotP mns; grind
  rw [e, h1, h2, Int.sub_self, Int.sub_self] at k
  have := Int.mul_pos u w
  omega
theorem sh_ls {e b : Pr2 × Pr2} (he : e.1 ≠ e.2) (hb : b.1 ≠ b.2) : shB e b = lsB e.1 e.2 b.1 b.2 := by
  unfold shB lsB
  by_cases h : trn e.1 e.2 b.1 ≠ 0 ∨ trn e.1 e.2 b.2 ≠ 0
  · rw [if_pos h, if_pos h]
  rw [if_neg h, if_neg h]
  have h1 : trn e.1 e.2 b.1 = 0 := Decidable.byContradiction fun z => h (.inl z)
  have h2 : trn e.1 e.2 b.2 = 0 := Decidable.byContradiction fun z => h (.inr z)
  have u := sqs_pos (mns_ne he)
  have ne := st_ne he hb h1 h2
  have cm : ∀ p q : Pr2, dotP p q = dotP q p := fun p q => by unfold dotP; grind
  rw [cm (mns b.1 e.1), cm (mns b.2 e.1)]
  rw [Bool.eq_iff_iff, Bool.and_eq_true, decide_eq_true_eq, decide_eq_true_eq, decide_eq_true_eq]
  generalize dotP (mns e.2 e.1) (mns b.1 e.1) = s at *
  generalize dotP (mns e.2 e.1) (mns b.2 e.1) = t at *
  generalize dotP (mns e.2 e.1) (mns e.2 e.1) = u at *
  omega
theorem lin {uu s t s' t' vv : Int} (hu : 0 < uu) (e1 : uu * s' = -s * (t - s)) (e2 : uu * t' = (uu - s) * (t - s)) (e3 : uu * vv = (t - s) * (t - s)) (ne : s ≠ t) (h1 : min s t < uu) (h2 : 0 < max s t) : min s' t' < vv ∧ 0 < max s' t' := by
  have lt : ∀ x y : Int, uu * x < uu * y → x < y := fun x y h => Int.lt_of_mul_lt_mul_left h (by omega)
  have ps : ∀ x : Int, 0 < uu * x → 0 < x := fun x h => lt 0 x (by rw [Int.mul_zero]; exact h)
  by_cases c : s < t
  · have q1 := Int.mul_pos (show 0 < t by omega) (show 0 < t - s by omega)
    have q2 := Int.mul_pos (show 0 < uu - s by omega) (show 0 < t - s by omega)
    have r1 : t * (t - s) = (t - s) * (t - s) - (-s * (t - s)) := by grind
    have a1 := lt s' vv (by omega)
    have a2 := ps t' (by omega)
    omega
  · have q1 := Int.mul_pos (show 0 < s by omega) (show 0 < s - t by omega)
    have q2 := Int.mul_pos (show 0 < uu - t by omega) (show 0 < s - t by omega)
    have r1 : s * (s - t) = -s * (t - s) := by grind
    have r2 : (uu - t) * (s - t) = (t - s) * (t - s) - (uu - s) * (t - s) := by grind
    have a1 := lt t' vv (by omega)
    have a2 := ps s' (by omega)
    omega
theorem ls_turn {a b c d : Pr2} (hab : a ≠ b) (hcd : c ≠ d) (h : lsB a b c d = true) : lsB c d a b = true := by
  have hu := sqs_pos (mns_ne hab)
  unfold lsB at h
  by_cases h0 : trn a b c ≠ 0 ∨ trn a b d ≠ 0
  · rw [if_pos h0] at h; cases h
  rw [if_neg h0, Bool.and_eq_true, decide_eq_true_eq, decide_eq_true_eq] at h
  have h1 : trn a b c = 0 := Decidable.byContradiction fun z => h0 (.inl z)
  have h2 : trn a b d = 0 := Decidable.byContradiction fun z => h0 (.inr z)
  have ne := st_ne hab hcd h1 h2
  have cm : ∀ p q : Pr2, dotP p q = dotP q p := fun p q => by unfold dotP; grind
  rw [cm (mns b a) (mns c a), cm (mns b a) (mns d a)] at ne
  have z : ∀ x : Int, dotP (mns b a) (mns b a) * x = 0 → x = 0 := fun x e => by
    rcases Int.mul_eq_zero.mp e with e | e
    · omega
    · exact e
  have t1 : trn c d a = 0 := z _ (by
    have k : dotP (mns b a) (mns b a) * trn c d a = dotP (mns b a) (mns c a) * trn a b d - trn a b c * dotP (mns b a) (mns d a) := by unfold trn crs dotP mns; grind
    rw [k, h1, h2]; omega)
  have t2 : trn c d b = 0 := by
    have k : trn c d b = trn c d a + trn a b c - trn a b d := by unfold trn crs mns; grind
    omega
  unfold lsB
  rw [if_neg (by simp [t1, t2]), Bool.and_eq_true, decide_eq_true_eq, decide_eq_true_eq]
  refine lin hu ?_ ?_ ?_ ne h.1 h.2
  · have k : dotP (mns b a) (mns b a) * dotP (mns a c) (mns d c) = -dotP (mns c a) (mns b a) * (dotP (mns d a) (mns b a) - dotP (mns c a) (mns b a)) - trn a b c * (trn a b d - trn a b c) := by unfold trn crs dotP mns; grind
    rw [k, h1]; omega
  · have k : dotP (mns b a) (mns b a) * dotP (mns b c) (mns d c) = (dotP (mns b a) (mns b a) - dotP (mns c a) (mns b a)) * (dotP (mns d a) (mns b a) - dotP (mns c a) (mns b a)) - trn a b c * (trn a b d - trn a b c) := by unfold trn crs dotP mns; grind
    rw [k, h1]; omega
  · have k : dotP (mns b a) (mns b a) * dotP (mns d c) (mns d c) = (dotP (mns d a) (mns b a) - dotP (mns c a) (mns b a)) * (dotP (mns d a) (mns b a) - dotP (mns c a) (mns b a)) + (trn a b d - trn a b c) * (trn a b d - trn a b c) := by unfold trn crs dotP mns; grind
    rw [k, h1, h2]; omega

end
/-! #### Xo -/
section
variable {P : Program} {w : World} {K : PySem.W.Frag} {mg : Str → Option Value} {base : Heap}
/-! ### xm3 -/
/-! ### joined either way round; a part over itself -/
theorem polyB_third {ps : List Pr2} (h : polyB ps = true) (h3 : 3 ≤ ps.length) {e : Pr2 × Pr2} (he : e ∈ edg ps) : ∃ x ∈ ps, 0 < trn e.1 e.2 x := by
  unfold edg at he
  obtain ⟨k, hk, rfl⟩ := List.mem_map.mp he
  unfold polyB at h
  have hp := List.all_eq_true.mp h k hk
  unfold polyAt at hp
  obtain ⟨j, hj, n1, n2⟩ : ∃ j, j < ps.length ∧ j ≠ k ∧ j ≠ (k + 1) % ps.length := by
    generalize (k + 1) % ps.length = m
    by_cases c : 0 ≠ k ∧ 0 ≠ m
    · exact ⟨0, by omega, c.1, c.2⟩
    by_cases c1 : 1 ≠ k ∧ 1 ≠ m
    · exact ⟨1, by omega, c1.1, c1.2⟩
    exact ⟨2, by omega, by omega, by omega⟩
  have hq := List.all_eq_true.mp hp j (List.mem_range.mpr hj)
  have ej : ps.getD j (0, 0) = ps[j] := by rw [List.getD_eq_getElem?_getD, List.getElem?_eq_getElem hj]; rfl
  rw [ej, Bool.or_eq_true, Bool.or_eq_true, decide_eq_true_eq, decide_eq_true_eq, decide_eq_true_eq] at hq
  refine ⟨ps[j], List.getElem_mem hj, ?_⟩
  rcases hq with (e | e) | e
  · exact absurd e n1
  · exact absurd e n2
  · exact e
theorem polyB_ne {ps : List Pr2} (h : polyB ps = true) (h3 : 3 ≤ ps.length) {e : Pr2 × Pr2} (he : e ∈ edg ps) : e.1 ≠ e.2 := by
  obtain ⟨x, _, hx⟩ := polyB_third h h3 he
  intro z
  rw [z] at hx
  have : trn e.2 e.2 x = 0 := by unfold trn crs mns; grind
  omega
theorem hde_self {ps : List Pr2} (h : polyB ps = true) (h3 : 3 ≤ ps.length) : hde ps ps = false := by
  cases c : hde ps ps with
  | false => rfl
  | true =>
    exfalso
    unfold hde at c
    obtain ⟨e, he, hn⟩ := List.any_eq_true.mp c
    obtain ⟨x, hx, hp⟩ := polyB_third h h3 he
    have := nll_iff.mp hn x hx
    omega
theorem any2 {α β : Type} {xs : List α} {ys : List β} {f : α → β → Bool} : (xs.any fun x => ys.any fun y => f x y) = true ↔ ∃ x ∈ xs, ∃ y ∈ ys, f x y = true := by
  rw [List.any_eq_true]
  constructor
  · rintro ⟨x, hx, h⟩
    obtain ⟨y, hy, e⟩ := List.any_eq_true.mp h
    exact ⟨x, hx, y, hy, e⟩
  · rintro ⟨x, hx, y, hy, e⟩
    exact ⟨x, hx, List.any_eq_true.mpr ⟨y, hy, e⟩⟩
theorem hang_jo {ps qs : List Pr2} (hp : polyB ps = true) (hq : polyB qs = true) (h3 : 3 ≤ ps.length) (h4 : 3 ≤ qs.length) : joB ps qs = hgB ps qs := by
  unfold joB hgB
  congr 1
  rw [Bool.eq_iff_iff, any2, any2]
  constructor
  · rintro ⟨e, he, b, hb, h⟩
    exact ⟨e, he, b, hb, by rw [← sh_ls (polyB_ne hp h3 he) (polyB_ne hq h4 hb)]; exact h⟩
  · rintro ⟨e, he, b, hb, h⟩
    exact ⟨e, he, b, hb, by rw [sh_ls (polyB_ne hp h3 he) (polyB_ne hq h4 hb)]; exact h⟩
theorem hg_comm {ps qs : List Pr2} (hp : polyB ps = true) (hq : polyB qs = true) (h3 : 3 ≤ ps.length) (h4 : 3 ≤ qs.length) : hgB ps qs = hgB qs ps := by
  unfold hgB
  have : ovB ps qs = ovB qs ps := by unfold ovB; exact Bool.and_comm _ _
  rw [this]
  congr 1
  rw [Bool.eq_iff_iff, any2, any2]
  constructor
  · rintro ⟨e, he, b, hb, h⟩
    exact ⟨b, hb, e, he, ls_turn (polyB_ne hp h3 he) (polyB_ne hq h4 hb) h⟩
  · rintro ⟨b, hb, e, he, h⟩
    exact ⟨e, he, b, hb, ls_turn (polyB_ne hq h4 hb) (polyB_ne hp h3 he) h⟩
/-- what is due of two polygons: SoP of them -/
theorem due_so {ps qs : List Pr2} (hp : polyB ps = true) (hq : polyB qs = true) (h3 : 3 ≤ ps.length) (h4 : 3 ≤ qs.length) : ovB ps qs = mtB ps qs ∧ joB ps qs = hgB ps qs ∧ joB qs ps = hgB ps qs :=
  ⟨(meet_ov hp hq).symm, hang_jo hp hq h3 h4, by rw [hang_jo hq hp h4 h3, hg_comm hq hp h4 h3]⟩
theorem self_so {ps : List Pr2} (hp : polyB ps = true) (h3 : 3 ≤ ps.length) : ovB ps ps = true ∧ joB ps ps = false := by
  have : ovB ps ps = true := by unfold ovB; rw [hde_self hp h3]; rfl
  refine ⟨this, ?_⟩
  unfold joB
  rw [this]; rfl
/-! ### what keeps all of it: corners and edges go over into one another -/
structure Sim (G : Pr2 × Pr2 → Pr2 × Pr2) (g : Pr2 → Pr2) (ps ps' : List Pr2) : Prop where
  c : ∀ x, x ∈ ps' ↔ ∃ y ∈ ps, x = g y
  e : ∀ x, x ∈ edg ps' ↔ ∃ y ∈ edg ps, x = G y
structure Keep (G : Pr2 × Pr2 → Pr2 × Pr2) (g : Pr2 → Pr2) : Prop where
  t : ∀ e c, trn (G e).1 (G e).2 (g c) = trn e.1 e.2 c
  s : ∀ e b, lsB (G e).1 (G e).2 (G b).1 (G b).2 = lsB e.1 e.2 b.1 b.2
theorem sim_hde {G : Pr2 × Pr2 → Pr2 × Pr2} {g : Pr2 → Pr2} {ps ps' qs qs' : List Pr2} (k : Keep G g) (hp : Sim G g ps ps') (hq : Sim G g qs qs') : hde ps' qs' = hde ps qs := by
  unfold hde
  rw [Bool.eq_iff_iff, List.any_eq_true, List.any_eq_true]
  constructor
  · rintro ⟨e, he, h⟩
    obtain ⟨y, hy, rfl⟩ := (hp.e e).mp he
    refine ⟨y, hy, nll_iff.mpr fun c hc => ?_⟩
    rw [← k.t]
    exact nll_iff.mp h _ ((hq.c _).mpr ⟨c, hc, rfl⟩)
  · rintro ⟨y, hy, h⟩
    refine ⟨G y, (hp.e _).mpr ⟨y, hy, rfl⟩, nll_iff.mpr fun c hc => ?_⟩
    obtain ⟨d, hd, rfl⟩ := (hq.c c).mp hc
    rw [k.t]
    exact nll_iff.mp h d hd
theorem sim_hg {G : Pr2 × Pr2 → Pr2 × Pr2} {g : Pr2 → Pr2} {ps ps' qs qs' : List Pr2} (k : Keep G g) (hp : Sim G g ps ps') (hq : Sim G g qs qs') : hgB ps' qs' = hgB ps qs := by
  unfold hgB ovB
  rw [sim_hde k hp hq, sim_hde k hq hp]
  congr 1
  rw [Bool.eq_iff_iff, any2, any2]
  constructor
  · rintro ⟨e, he, b, hb, h⟩
    obtain ⟨y, hy, rfl⟩ := (hp.e e).mp he
    obtain ⟨z, hz, rfl⟩ := (hq.e b).mp hb
    exact ⟨y, hy, z, hz, by rw [← k.s]; exact h⟩
  · rintro ⟨y, hy, z, hz, h⟩
    exact ⟨G y, (hp.e _).mpr ⟨y, hy, rfl⟩, G z, (hq.e _).mpr ⟨z, hz, rfl⟩, by rw [k.s]; exact h⟩

end
/-! #### Xp -/
section
variable {P : Program} {w : World} {K : PySem.W.Frag} {mg : Str → Option Value} {base : Heap}
/-! ### xm4 -/
/-! ### turned on, sent, quartered, flipped -/
theorem gD {ps : List Pr2} {k : Nat} (h : k < ps.length) : ps.getD k (0, 0) = ps[k] := by rw [List.getD_eq_getElem?_getD, List.getElem?_eq_getElem h]; rfl
theorem mem_edg {ps : List Pr2} {x : Pr2 × Pr2} : x ∈ edg ps ↔ ∃ k, ∃ h : k < ps.length, x = (ps[k], ps[(k + 1) % ps.length]'(Nat.mod_lt _ (by omega))) := by
  unfold edg
  rw [List.mem_map]
  constructor
  · rintro ⟨k, hk, rfl⟩
    have h := List.mem_range.mp hk
    exact ⟨k, h, by rw [gD h, gD (Nat.mod_lt _ (by omega))]⟩
  · rintro ⟨k, h, rfl⟩
    exact ⟨k, List.mem_range.mpr h, by rw [gD h, gD (Nat.mod_lt _ (by omega))]⟩
abbrev onE (g : Pr2 → Pr2) (e : Pr2 × Pr2) : Pr2 × Pr2 := (g e.1, g e.2)
abbrev onR (g : Pr2 → Pr2) (e : Pr2 × Pr2) : Pr2 × Pr2 := (g e.2, g e.1)
theorem keep_on {g : Pr2 → Pr2} (h1 : ∀ a b c, trn (g a) (g b) (g c) = trn a b c) (h2 : ∀ a b c d, dotP (mns (g a) (g b)) (mns (g c) (g d)) = dotP (mns a b) (mns c d)) : Keep (onE g) g :=
  ⟨fun e c => h1 _ _ _, fun e b => by unfold lsB; dsimp only [onE]; rw [h1, h1, h2, h2, h2]⟩
theorem keep_rev {g : Pr2 → Pr2} (h1 : ∀ a b c, trn (g b) (g a) (g c) = trn a b c) (h2 : ∀ a b c d, dotP (mns (g a) (g b)) (mns (g c) (g d)) = dotP (mns a b) (mns c d)) : Keep (onR g) g :=
  ⟨fun e c => h1 _ _ _, fun e b => by
    unfold lsB
    dsimp only [onR]
    rw [h1, h1, h2, h2, h2]
    by_cases c : trn e.1 e.2 b.1 ≠ 0 ∨ trn e.1 e.2 b.2 ≠ 0
    · rw [if_pos c, if_pos (c.symm)]
    · rw [if_neg c, if_neg (fun z => c z.symm)]
      have k1 : ∀ x, dotP (mns x e.2) (mns e.1 e.2) = dotP (mns e.2 e.1) (mns e.2 e.1) - dotP (mns x e.1) (mns e.2 e.1) := fun x => by unfold dotP mns; grind
      have k2 : dotP (mns e.1 e.2) (mns e.1 e.2) = dotP (mns e.2 e.1) (mns e.2 e.1) := by unfold dotP mns; grind
      rw [k1, k1, k2]
      generalize dotP (mns e.2 e.1) (mns e.2 e.1) = u
      generalize dotP (mns b.1 e.1) (mns e.2 e.1) = s
      generalize dotP (mns b.2 e.1) (mns e.2 e.1) = t
      rw [Bool.eq_iff_iff, Bool.and_eq_true, Bool.and_eq_true, decide_eq_true_eq, decide_eq_true_eq, decide_eq_true_eq, decide_eq_true_eq]
      omega⟩
theorem keep_id : Keep (onE id) id := keep_on (fun _ _ _ => rfl) (fun _ _ _ _ => rfl)
theorem keep_sent (x y : Int) : Keep (onE (sentP x y)) (sentP x y) := keep_on (fun a b c => by unfold trn crs mns sentP; grind) (fun a b c d => by unfold dotP mns sentP; grind)
theorem keep_qtr : Keep (onE qtrP) qtrP := keep_on (fun a b c => by unfold trn crs mns qtrP; grind) (fun a b c d => by unfold dotP mns qtrP; grind)
theorem keep_flip : Keep (onR flipP) flipP := keep_rev (fun a b c => by unfold trn crs mns flipP; grind) (fun a b c d => by unfold dotP mns flipP; grind)
theorem sim_map (g : Pr2 → Pr2) (ps : List Pr2) : Sim (onE g) g ps (ps.map g) := by
  refine ⟨fun x => ⟨fun h => ?_, fun ⟨y, hy, e⟩ => List.mem_map.mpr ⟨y, hy, e.symm⟩⟩, fun x => ?_⟩
  · obtain ⟨y, hy, e⟩ := List.mem_map.mp h
    exact ⟨y, hy, e.symm⟩
  · rw [mem_edg]
    constructor
    · rintro ⟨k, h, rfl⟩
      have h' : k < ps.length := by rw [List.length_map] at h; exact h
      refine ⟨_, mem_edg.mpr ⟨k, h', rfl⟩, ?_⟩
      simp only [List.getElem_map, List.length_map, onE]
    · rintro ⟨y, hy, rfl⟩
      obtain ⟨k, h, rfl⟩ := mem_edg.mp hy
      refine ⟨k, by rw [List.length_map]; exact h, ?_⟩
      simp only [List.getElem_map, List.length_map, onE]
theorem sim_rev (g : Pr2 → Pr2) (ps : List Pr2) : Sim (onR g) g ps (ps.map g).reverse := by
  refine ⟨fun x => ?_, fun x => ?_⟩
  · rw [List.mem_reverse]; exact (sim_map g ps).c x
  · have key : ∀ {qs : List Pr2} {x : Pr2 × Pr2}, x ∈ edg qs.reverse ↔ ∃ y ∈ edg qs, x = (y.2, y.1) := by
      intro qs x
      rw [mem_edg]
      constructor
      · rintro ⟨k, h, rfl⟩
        rw [List.length_reverse] at h
        have hm : (k + 1) % qs.length < qs.length := Nat.mod_lt _ (by omega)
        have hj : qs.length - 1 - (k + 1) % qs.length < qs.length := by omega
        refine ⟨_, mem_edg.mpr ⟨_, hj, rfl⟩, ?_⟩
        have e : (qs.length - 1 - (k + 1) % qs.length + 1) % qs.length = qs.length - 1 - k := by
          by_cases c : k + 1 = qs.length
          · rw [c, Nat.mod_self, show qs.length - 1 - 0 + 1 = qs.length by omega, Nat.mod_self]; omega
          · rw [Nat.mod_eq_of_lt (by omega : k + 1 < qs.length), Nat.mod_eq_of_lt (by omega)]; omega
        simp only [List.getElem_reverse, List.length_reverse, e]
      · rintro ⟨y, hy, rfl⟩
        obtain ⟨j, h, rfl⟩ := mem_edg.mp hy
        have hm : (j + 1) % qs.length < qs.length := Nat.mod_lt _ (by omega)
        refine ⟨qs.length - 1 - (j + 1) % qs.length, by rw [List.length_reverse]; omega, ?_⟩
        have e1 : qs.length - 1 - (qs.length - 1 - (j + 1) % qs.length) = (j + 1) % qs.length := by omega
        have e2 : qs.length - 1 - (qs.length - 1 - (j + 1) % qs.length + 1) % qs.length = j := by
          by_cases c : j + 1 = qs.length
          · rw [c, Nat.mod_self, show qs.length - 1 - 0 + 1 = qs.length by omega, Nat.mod_self]; omega
          · rw [Nat.mod_eq_of_lt (by omega : j + 1 < qs.length), Nat.mod_eq_of_lt (by omega)]; omega
        simp only [List.getElem_reverse, List.length_reverse, e1, e2]
    rw [key]
    constructor
    · rintro ⟨y, hy, rfl⟩
      obtain ⟨z, hz, rfl⟩ := ((sim_map g ps).e y).mp hy
      exact ⟨z, hz, rfl⟩
    · rintro ⟨z, hz, rfl⟩
      exact ⟨onE g z, ((sim_map g ps).e _).mpr ⟨z, hz, rfl⟩, rfl⟩
theorem sim_rot (ps : List Pr2) (k : Nat) (hk : k ≤ ps.length) : Sim (onE id) id ps (ps.drop k ++ ps.take k) := by
  have hl : (ps.drop k ++ ps.take k).length = ps.length := by rw [List.length_append, List.length_drop, List.length_take]; omega
  have at_ : ∀ i (h : i < ps.length), (ps.drop k ++ ps.take k)[i]'(by rw [hl]; exact h) = ps[(i + k) % ps.length]'(Nat.mod_lt _ (by omega)) := by
    intro i h
    by_cases c : i < ps.length - k
    · rw [List.getElem_append_left (by rw [List.length_drop]; exact c), List.getElem_drop]
      congr 1
      rw [Nat.mod_eq_of_lt (by omega), Nat.add_comm]
    · rw [List.getElem_append_right (by rw [List.length_drop]; omega), List.getElem_take]
      congr 1
      rw [List.length_drop, Nat.mod_eq_sub_mod (by omega), Nat.mod_eq_of_lt (by omega)]
      omega
  refine ⟨fun x => ?_, fun x => ?_⟩
  · rw [List.mem_append, or_comm, ← List.mem_append, List.take_append_drop]
    exact ⟨fun h => ⟨x, h, rfl⟩, fun ⟨y, hy, e⟩ => e ▸ hy⟩
  · rw [mem_edg]
    constructor
    · rintro ⟨i, h, rfl⟩
      rw [hl] at h
      have hn : 0 < ps.length := by omega
      refine ⟨_, mem_edg.mpr ⟨(i + k) % ps.length, Nat.mod_lt _ hn, rfl⟩, ?_⟩
      have e : ((i + 1) % ps.length + k) % ps.length = ((i + k) % ps.length + 1) % ps.length := by
        rw [Nat.mod_add_mod, Nat.mod_add_mod]; congr 1; omega
      simp only [onE, id]
      rw [at_ i h]
      congr 1
      have hm : (i + 1) % (ps.drop k ++ ps.take k).length < ps.length := by rw [hl]; exact Nat.mod_lt _ hn
      rw [at_ _ hm]
      congr 1
      rw [hl]
      exact e
    · rintro ⟨y, hy, rfl⟩
      obtain ⟨j, h, rfl⟩ := mem_edg.mp hy
      have hn : 0 < ps.length := by omega
      have hi : (j + (ps.length - k)) % ps.length < ps.length := Nat.mod_lt _ hn
      refine ⟨(j + (ps.length - k)) % ps.length, by rw [hl]; exact hi, ?_⟩
      have e : ((j + (ps.length - k)) % ps.length + k) % ps.length = j := by
        rw [Nat.mod_add_mod, show j + (ps.length - k) + k = j + ps.length by omega, Nat.add_mod_right, Nat.mod_eq_of_lt h]
      have e2 : (((j + (ps.length - k)) % ps.length + 1) % ps.length + k) % ps.length = (j + 1) % ps.length := by
        rw [Nat.mod_add_mod, show (j + (ps.length - k)) % ps.length + 1 + k = (j + (ps.length - k)) % ps.length + (k + 1) by omega, Nat.mod_add_mod, show j + (ps.length - k) + (k + 1) = (j + 1) + ps.length by omega, Nat.add_mod_right]
      simp only [onE, id]
      rw [at_ _ hi]
      have hm : ((j + (ps.length - k)) % ps.length + 1) % (ps.drop k ++ ps.take k).length < ps.length := by rw [hl]; exact Nat.mod_lt _ hn
      rw [at_ _ hm]
      simp only [hl, e, e2]

end
/-! #### Xq -/
section
variable {P : Program} {w : World} {K : PySem.W.Frag} {mg : Str → Option Value} {base : Heap}
/-! ### xl1 -/
/-! ### what is due stays so -/
theorem keep_comp {G G' : Pr2 × Pr2 → Pr2 × Pr2} {g g' : Pr2 → Pr2} (k : Keep G g) (k' : Keep G' g') : Keep (fun e => G' (G e)) (fun x => g' (g x)) :=
  ⟨fun e c => by rw [k'.t, k.t], fun e b => by rw [k'.s, k.s]⟩
theorem sim_comp {G G' : Pr2 × Pr2 → Pr2 × Pr2} {g g' : Pr2 → Pr2} {ps ps' ps'' : List Pr2} (h : Sim G g ps ps') (h' : Sim G' g' ps' ps'') : Sim (fun e => G' (G e)) (fun x => g' (g x)) ps ps'' := by
  refine ⟨fun x => (h'.c x).trans ⟨?_, ?_⟩, fun x => (h'.e x).trans ⟨?_, ?_⟩⟩
  · rintro ⟨y, hy, rfl⟩
    obtain ⟨z, hz, rfl⟩ := (h.c y).mp hy
    exact ⟨z, hz, rfl⟩
  · rintro ⟨z, hz, rfl⟩
    exact ⟨g z, (h.c _).mpr ⟨z, hz, rfl⟩, rfl⟩
  · rintro ⟨y, hy, rfl⟩
    obtain ⟨z, hz, rfl⟩ := (h.e y).mp hy
    exact ⟨z, hz, rfl⟩
  · rintro ⟨z, hz, rfl⟩
    exact ⟨G z, (h.e _).mpr ⟨z, hz, rfl⟩, rfl⟩
def Nd (ps : List Pr2) : Prop := ∀ e ∈ edg ps, e.1 ≠ e.2
theorem nd_sim {G : Pr2 × Pr2 → Pr2 × Pr2} {g : Pr2 → Pr2} {ps ps' : List Pr2} (k : Keep G g) (h : Sim G g ps ps') (hp : polyB ps = true) (h3 : 3 ≤ ps.length) : Nd ps' := by
  intro e he z
  obtain ⟨y, hy, rfl⟩ := (h.e e).mp he
  obtain ⟨x, _, hx⟩ := polyB_third hp h3 hy
  rw [← k.t, z] at hx
  have : trn (G y).2 (G y).2 (g x) = 0 := by unfold trn crs mns; grind
  omega
theorem jo_nd {ps qs : List Pr2} (hp : Nd ps) (hq : Nd qs) : joB ps qs = hgB ps qs := by
  unfold joB hgB
  congr 1
  rw [Bool.eq_iff_iff, any2, any2]
  constructor
  · rintro ⟨e, he, b, hb, h⟩
    exact ⟨e, he, b, hb, by rw [← sh_ls (hp e he) (hq b hb)]; exact h⟩
  · rintro ⟨e, he, b, hb, h⟩
    exact ⟨e, he, b, hb, by rw [sh_ls (hp e he) (hq b hb)]; exact h⟩
/-- two polygons -/
structure Two2 (ps qs : List Pr2) : Prop where
  p : polyB ps = true
  q : polyB qs = true
  lp : 3 ≤ ps.length
  lq : 3 ≤ qs.length
  mp : ps.length ≤ 6
  mq : qs.length ≤ 6
  bp : ∀ x ∈ ps, Upto 200 x
  bq : ∀ x ∈ qs, Upto 200 x
theorem so_sim {G : Pr2 × Pr2 → Pr2 × Pr2} {g : Pr2 → Pr2} {ps qs ps' qs' : List Pr2} (T : Two2 ps qs) (k : Keep G g) (h : Sim G g ps ps') (h' : Sim G g qs qs') : SoP ps' qs' (ovB ps qs) (hgB ps qs) := by
  have n1 := nd_sim k h T.p T.lp
  have n2 := nd_sim k h' T.q T.lq
  refine ⟨?_, ?_, ?_⟩
  · unfold ovB
    rw [sim_hde k h h', sim_hde k h' h]
  · rw [jo_nd n1 n2, sim_hg k h h']
  · rw [jo_nd n2 n1, sim_hg k h' h, hg_comm T.p T.q T.lp T.lq]
theorem so_self {ps qs : List Pr2} (T : Two2 ps qs) : SoP ps ps true false := by
  obtain ⟨h1, h2⟩ := self_so T.p T.lp
  exact ⟨h1, h2, h2⟩
def qtN : Nat → List Pr2 → List Pr2
  | 0, ps => ps
  | n + 1, ps => (qtN n ps).map qtrP
theorem qtN_sim : ∀ n : Nat, ∃ G g, Keep G g ∧ ∀ ps, Sim G g ps (qtN n ps)
  | 0 => ⟨onE id, id, keep_id, fun ps => ⟨fun x => ⟨fun h => ⟨x, h, rfl⟩, fun ⟨y, hy, e⟩ => e ▸ hy⟩, fun x => ⟨fun h => ⟨x, h, rfl⟩, fun ⟨y, hy, e⟩ => e ▸ hy⟩⟩⟩
  | n + 1 => by
    obtain ⟨G, g, k, h⟩ := qtN_sim n
    exact ⟨_, _, keep_comp k keep_qtr, fun ps => sim_comp (h ps) (sim_map qtrP _)⟩
theorem qtN_few {m : Int} : ∀ (n : Nat) {ps : List Pr2}, (qtN n ps).length = ps.length ∧ ((∀ x ∈ ps, Upto m x) → ∀ x ∈ qtN n ps, Upto m x)
  | 0, _ => ⟨rfl, fun h => h⟩
  | n + 1, ps => by
    obtain ⟨h1, h2⟩ := qtN_few (m := m) n (ps := ps)
    refine ⟨by show ((qtN n ps).map qtrP).length = _; rw [List.length_map, h1], fun h x hx => ?_⟩
    obtain ⟨y, hy, rfl⟩ := List.mem_map.mp (show x ∈ (qtN n ps).map qtrP from hx)
    have := h2 h y hy
    unfold Upto qtrP at *
    dsimp only
    omega
/-! ### _law_quarter, told exactly -/
abbrev ClQ2 (P : Program) (w : World) (K : PySem.W.Frag) (mg : Str → Option Value) (base : Heap) (k : Nat) := Cl P w K mg base k "_law_quarter" s__law_quarter ["_law_poly", "_law_times"] (SpD K (p2 fun d t => ∃ (ps : List Pr2) (j : Int), d = .tup (ps.map Dl.pairD) ∧ t = .int j ∧ ps.length ≤ 100) fun ds r => ∃ (ps : List Pr2) (j : Int), ds = [.tup (ps.map Dl.pairD), .int j] ∧ r = .tup ((qtN (j.fmod 4).toNat ps).map Dl.pairD))
theorem ok__law_quarter2 {k : Nat} (G : Gn mg) (F : Df K mg "_law_quarter" s__law_quarter) : ClQ2 P w K mg base (k + 1) := by
  refine cl_of F sc__law_quarter (fun _ _ _ _ _ _ us hl => match us, hl with | [_, _], _ => rfl) p2_len fun f cdv A outer s H E hr => ⟨_, (pss_cons (ps_set (i := 2) sc__law_quarter.nd rfl (Or.inl rfl) (pv 0))
      (pss_cons (ps_for PassesOwn.never rfl (pi_range1 rfl G.g_range (pa_cons (pe_op op_modN (pe_callTy call_int1 (by rfl) G.g_int (by decide +kernel) (pa_cons (pv 1) pa_nil)) pe_int) pa_nil)) (pg_name (i := 3) sc__law_quarter.nd rfl (Or.inl rfl)) (pss_one (ps_set (i := 2) sc__law_quarter.nd rfl (Or.inl rfl) (pe_callTy (show CallR _ (.type "tuple") (zOf K) from call_tupZ) (by rfl) G.g_tuple (by decide +kernel) (pa_cons (pe_lc (own := [("_law_c", 4)]) (g := gName 4) (tt := tYes) rfl sc__law_quarter.nd (pi_tup (pv 2)) (blkOk_by (N := N__law_quarter) (sc := defScope s__law_quarter) (by decide +kernel)) (fun _ _ _ _ _ => pg_name (i := 4) sc__law_quarter.nd rfl (Or.inl rfl)) (fun _ _ _ _ _ => pts_nil) (fun _ _ _ _ _ => (pe_tupZ (pa_cons (pe_op op_sub pe_int (pe_ix (show IxR _ (rIxT K) from ix_tup) (pv 4) pe_int (fun _ _ => rfl))) (pa_cons (pe_ix (show IxR _ (rIxT K) from ix_tup) (pv 4) pe_int (fun _ _ => rfl)) pa_nil))))) pa_nil)))))
      (pss_one (ps_ret (pv 2))))), fun B ds hp => ?_⟩
  obtain ⟨_, _, rfl, ps, j, rfl, rfl, hl⟩ := p2_ex hp
  show WS K B _ [.val (.tup (ps.map Dl.pairD)), .val (.int j), .no, .no, .no] _
  try dsimp only [cxOf, Cx.nox, Cx.blk]
  refine ws_seq (ws_set (we_var rfl ?_))
  try dsimp only [List.set]
  refine ws_seq (ws_for (wi_range1 (wa_cons ?_)))
  repeat walk_at "dl"
  refine ro_int (by intro z; exact absurd z (by decide)) ?_
  obtain ⟨h0, h1⟩ := fm0 (i := j) (n := 4) (by decide)
  refine wa_nil ⟨_, rfl, by omega, by omega, fun k δ1 => ∃ y1 y2, δ1 = [.val (.tup (ps.map Dl.pairD)), .val (.int j), .val (.tup ((qtN k ps).map Dl.pairD)), y1, y2], ⟨_, _, rfl⟩, ?_, ?_⟩
  · rintro n dn δ1 hdn ⟨y1, y2, rfl⟩
    have hln : (qtN n ps).length ≤ 100 := by rw [(qtN_few (m := 0) n).1]; exact hl
    try dsimp only [List.set]
    refine ws_set (we_cb (wa_cons (we_lcQ (ps := qtN n ps) (fun q => Dl.pairD (qtrP q)) (by omega) (wi_tup (we_var rfl ⟨_, rfl, rfl⟩)) (fun q hq => ?_) ?_)))
    · try dsimp only [List.set]
      repeat walk_at "dl"
      refine ix1 ?_
      repeat walk_at "dl"
      refine ix0 ?_
      repeat walk_at "dl"
      rfl
    · rw [show (qtN n ps).map (fun q => Dl.pairD (qtrP q)) = (qtN (n + 1) ps).map Dl.pairD by show _ = ((qtN n ps).map qtrP).map Dl.pairD; rw [List.map_map]; rfl]
      refine wa_nil (rc_tupZ ⟨_, _, rfl⟩)
  · rintro δ1 ⟨y1, y2, rfl⟩
    refine ws_ret (we_var rfl ⟨ps, j, rfl, ?_⟩)
    rw [upto_len]

end
/-! #### Xr -/
section
variable {P : Program} {w : World} {K : PySem.W.Frag} {mg : Str → Option Value} {base : Heap}
/-! ### xl2 -/
/-! ### the law -/
abbrev s_law : Stmt := topS 38
abbrev N_law : List Str := ["_law_script", "_law_box_here", "_law_turn_here", "_law_p", "_law_q", "_law_due", "_law_late", "_law_k", "_law_j", "_law_times", "_law_x", "_law_y"]
theorem sc_law : FnScope N_law ["_law_script"] (defScope s_law) := ⟨rfl, rfl, rfl, by decide +kernel, rfl, by decide +kernel, by decide +kernel⟩
def loopBody : Stmt → List Stmt
  | .For _ _ b _ _ => b
  | _ => []
def spLaw (K : PySem.W.Frag) : Sp := fun vs H Q _ => ∃ (a : Addr) (ns : List Int), vs = [.ref a] ∧ SqL K H a (ns.map V.int) ∧ ns.length ≤ 63 ∧ ∀ H', Q (.bl true) H'
theorem isPoly_ex {d : D} (h : isPoly d = true) : ∃ ps : List Pr2, d = .tup (ps.map Dl.pairD) ∧ 3 ≤ ps.length ∧ ps.length ≤ 6 ∧ (∀ p ∈ ps, Upto 200 p) ∧ polyB ps = true := by
  cases d with
  | tup xs =>
    have h' : (((decide (3 ≤ xs.length) && decide (xs.length ≤ 6)) && xs.all (isBnd 200)) && polyB (xs.map ofD)) = true := h
    rw [Bool.and_eq_true, Bool.and_eq_true, Bool.and_eq_true, decide_eq_true_eq, decide_eq_true_eq] at h'
    obtain ⟨⟨⟨h3, h6⟩, hb⟩, hp⟩ := h'
    obtain ⟨e, hu⟩ := bnds_ofD hb
    exact ⟨xs.map ofD, by rw [← e], by rw [List.length_map]; exact h3, by rw [List.length_map]; exact h6, hu, hp⟩
  | _ => exact Bool.noConfusion h
/-! ### small values of pairs -/
theorem sms_of : ∀ {xs : List D}, (∀ x ∈ xs, sm x = true) → sms xs = true
  | [], _ => rfl
  | x :: xs, h => by
    show (sm x && sms xs) = true
    rw [Bool.and_eq_true]
    exact ⟨h x List.mem_cons_self, sms_of fun y hy => h y (List.mem_cons_of_mem _ hy)⟩
theorem sm_of {xs : List D} (hl : xs.length ≤ 1000) (h : ∀ x ∈ xs, sm x = true) : sm (.tup xs) = true := by
  show (decide (xs.length ≤ 1000) && sms xs) = true
  rw [decide_eq_true hl, sms_of h]
  rfl
theorem sm_ofL {xs : List D} (hl : xs.length ≤ 1000) (h : ∀ x ∈ xs, sm x = true) : sm (.lst xs) = true := by
  show (decide (xs.length ≤ 1000) && sms xs) = true
  rw [decide_eq_true hl, sms_of h]
  rfl
theorem sm_pair (p : Pr2) : sm (Dl.pairD p) = true := rfl
theorem sm_mem {ps : List Pr2} {x : D} (h : x ∈ ps.map Dl.pairD) : sm x = true := by
  obtain ⟨p, _, rfl⟩ := List.mem_map.mp h
  rfl
theorem sm_pairs {ps : List Pr2} (h : ps.length ≤ 1000) : sm (.tup (ps.map Dl.pairD)) = true := sm_of (by rw [List.length_map]; exact h) fun _ hx => sm_mem hx
theorem wt_mono {B : Bt} {X : Xc} {tt : TT} {δ : List Sd} {P Q : Bool → Prop} (h : WTx K B X tt δ P) (m : ∀ b, P b → Q b) : WTx K B X tt δ Q := fun G0 H0 σ G H R s xx q => h G0 H0 σ G H R s xx fun b G1 H1 g o p => q b G1 H1 g o (m b p)
theorem hg_ov {ps qs : List Pr2} (h : ovB ps qs = true) : hgB ps qs = false := by unfold hgB; rw [h]; rfl
abbrev SoSp (K : PySem.W.Frag) : Sp := SpD K (p3 fun x y z => ∃ (ps qs : List Pr2) (b c : Bool), x = .tup (ps.map Dl.pairD) ∧ y = .tup (qs.map Dl.pairD) ∧ z = .lst [.bl b, .bl c] ∧ Few 10000000 ps ∧ Few 10000000 qs ∧ SoP ps qs b c) fun _ r => r = .bl true
structure Law (P : Program) (w : World) (K : PySem.W.Frag) (mg : Str → Option Value) (base : Heap) (k : Nat) : Prop where
  G : Gn mg
  bx : Cl P w K mg base k "_law_box" s__law_box ["_law_script", "_law_own"] (spBox K)
  tw : ClTw P w K mg base k
  tk : ClT P w K mg base k
  se : ClSe P w K mg base k
  ip : ClB P w K mg base k "_law_is_poly" s__law_is_poly "_law_x" isPoly
  me : ClMe P w K mg base k
  hg : ClHg P w K mg base k
  ov : ClOv P w K mg base k
  so : ClSo P w K mg base k
  qu : ClQ2 P w K mg base k
  fl : ClFl P w K mg base k
abbrev lcx (P : Program) (w : World) (K : PySem.W.Frag) (mg : Str → Option Value) (base : Heap) (f : Addr) (cdv : Value) (A : Around) (outer : List Env) (s : Shared) (H : Hp) (E : XK) : Cx := (cxOf CX0 P w K mg base N_law "law" (defScope s_law) f cdv A outer s H E).nox
abbrev lroom (k : Nat) (f : Addr) (cdv : Value) (A : Around) (s : Shared) : Prop := Room k (A.deeper (envOfC "law" (defScope s_law) s.heap.objs.size f cdv))
theorem few200 {ps : List Pr2} (h3 : 3 ≤ ps.length) (h6 : ps.length ≤ 6) (hb : ∀ p ∈ ps, Upto 200 p) : Few 10000000 ps := ⟨h3, by omega, fun p hp => upto_le (hb p hp) (by decide)⟩
/-- the turn -/
theorem piece_A {k : Nat} (L : Law P w K mg base k) (f : Addr) (cdv : Value) (A : Around) (outer : List Env) (s : Shared) (H : Hp) (E : XK) (hr : lroom k f cdv A s) :
    ∃ t, PSs (lcx P w K mg base f cdv A outer s H E) ((loopBody ((defBody s_law).getD 1 (.Pass ⟨0, 0, 0, 0⟩))).drop 0) t ∧ ∀ (B : Bt) (O : Out) (y2 y3 y4 y5 y6 y7 y8 y9 y10 y11 : Sd), (∀ z3 z4 z5 z6 z7 z8 z9 z10 z11, O.nx [.no, .val .box, y2, z3, z4, z5, z6, z7, z8, z9, z10, z11]) →
      WS K B t [.no, .val .box, y2, y3, y4, y5, y6, y7, y8, y9, y10, y11] O := by
  have G := L.G
  have C__law_two := L.tw
  have C__law_take := L.tk
  have C__law_sent := L.se
  have C__law_is_poly := L.ip
  have C__law_meet := L.me
  have C__law_hang := L.hg
  have C__law_over := L.ov
  have C__law_so := L.so
  have C__law_quarter := L.qu
  have C__law_flipped := L.fl
  refine ⟨_, (pss_cons (ps_asg (pe_c C__law_two hr (by omega) (by rfl) (pa_cons (pv 1) pa_nil)) (show PG _ _ (gTup K 2 (gCons (gName 3) (gCons (gName 4) gNil))) from pg_tup rfl (pgs_cons (pg_name (i := 3) sc_law.nd rfl (Or.inl rfl)) (pgs_cons (pg_name (i := 4) sc_law.nd rfl (Or.inl rfl)) pgs_nil))))
      (pss_cons (ps_par (i := 3) (j := 4) (by rfl) sc_law.nd rfl rfl (by decide) rfl rfl (pa_cons (pe_c C__law_sent hr (by omega) (by rfl) (pa_cons (pv 3) (pa_cons pe_int (pa_cons (pe_un un_neg pe_int) pa_nil)))) (pa_cons (pe_c C__law_sent hr (by omega) (by rfl) (pa_cons (pv 4) (pa_cons pe_int (pa_cons (pe_un un_neg pe_int) pa_nil)))) pa_nil)) (by rfl))
      (pss_one (ps_if (PW.pt (pw_and (pt_val (pe_c C__law_is_poly hr (by omega) (by rfl) (pa_cons (pv 3) pa_nil))) (pw_and1 (pt_val (pe_c C__law_is_poly hr (by omega) (by rfl) (pa_cons (pv 4) pa_nil)))))) (pss_cons (ps_set (i := 5) sc_law.nd rfl (Or.inl rfl) (pe_lst (pa_cons (pe_c C__law_meet hr (by omega) (by rfl) (pa_cons (pv 3) (pa_cons (pv 4) pa_nil))) (pa_cons (pe_c C__law_hang hr (by omega) (by rfl) (pa_cons (pv 3) (pa_cons (pv 4) pa_nil))) pa_nil))))
      (pss_cons (ps_if (PW.pt (pw_or (pt_cmpR op_ne (pe_ix (show IxR _ (rIxL K) from ix_list) (pv 5) pe_int (fun _ _ => rfl)) (pe_c C__law_over hr (by omega) (by rfl) (pa_cons (pv 3) (pa_cons (pv 4) pa_nil))) (nomark _)) (pw_or1 (PW.pt (pw_and (pt_val (pe_ix (show IxR _ (rIxL K) from ix_list) (pv 5) pe_int (fun _ _ => rfl))) (pw_and1 (pt_val (pe_ix (show IxR _ (rIxL K) from ix_list) (pv 5) pe_int (fun _ _ => rfl))))))))) (pss_one (ps_ret pe_bl)) pss_nil)
      (pss_cons (ps_par (i := 7) (j := 8) (by rfl) sc_law.nd rfl rfl (by decide) rfl rfl (pa_cons (pe_c C__law_take hr (by omega) (by rfl) (pa_cons (pv 1) (pa_cons (pe_callB (show CallR _ (.builtin "len") (fun xs H Q => ∃ x n, xs = [x] ∧ LenV K x H n ∧ Q (.int n) H) from call_len) (by rfl) G.g_len (by decide +kernel) (pa_cons (pv 3) pa_nil)) pa_nil))) (pa_cons (pe_c C__law_take hr (by omega) (by rfl) (pa_cons (pv 1) (pa_cons (pe_callB (show CallR _ (.builtin "len") (fun xs H Q => ∃ x n, xs = [x] ∧ LenV K x H n ∧ Q (.int n) H) from call_len) (by rfl) G.g_len (by decide +kernel) (pa_cons (pv 4) pa_nil)) pa_nil))) pa_nil)) (by rfl))
      (pss_cons (ps_if (PW.pt (pw_or (pt_not (pt_val (pe_c C__law_so hr (by omega) (by rfl) (pa_cons (pv 3) (pa_cons (pv 4) (pa_cons (pv 5) pa_nil)))))) (pw_or1 (pt_not (pt_val (pe_c C__law_so hr (by omega) (by rfl) (pa_cons (pe_op (show OpR _ (binaryOp .Add) (zCat K) from op_catZ) (pe_slice (show SlR _ (zSl K) from sl_tupZ) (pv 3) (po_some (pv 7)) po_none) (pe_slice (show SlR _ (zSl K) from sl_tupZ) (pv 3) po_none (po_some (pv 7)))) (pa_cons (pe_op (show OpR _ (binaryOp .Add) (zCat K) from op_catZ) (pe_slice (show SlR _ (zSl K) from sl_tupZ) (pv 4) (po_some (pv 8)) po_none) (pe_slice (show SlR _ (zSl K) from sl_tupZ) (pv 4) po_none (po_some (pv 8)))) (pa_cons (pv 5) pa_nil))))))))) (pss_one (ps_ret pe_bl)) pss_nil)
      (pss_cons (ps_par3 (i := 9) (j := 10) (l := 11) (by rfl) sc_law.nd rfl rfl rfl (by decide) (by decide) (by decide) rfl rfl rfl (pa_cons (pe_c C__law_take hr (by omega) (by rfl) (pa_cons (pv 1) (pa_cons pe_int pa_nil))) (pa_cons (pe_op op_sub (pe_c C__law_take hr (by omega) (by rfl) (pa_cons (pv 1) (pa_cons pe_int pa_nil))) pe_int) (pa_cons (pe_op op_sub (pe_c C__law_take hr (by omega) (by rfl) (pa_cons (pv 1) (pa_cons pe_int pa_nil))) pe_int) pa_nil))) (by rfl))
      (pss_cons (ps_if (PW.pt (pw_or (pt_not (pt_val (pe_c C__law_so hr (by omega) (by rfl) (pa_cons (pe_c C__law_quarter hr (by omega) (by rfl) (pa_cons (pv 3) (pa_cons (pv 9) pa_nil))) (pa_cons (pe_c C__law_quarter hr (by omega) (by rfl) (pa_cons (pv 4) (pa_cons (pv 9) pa_nil))) (pa_cons (pv 5) pa_nil)))))) (pw_or1 (pt_not (pt_val (pe_c C__law_so hr (by omega) (by rfl) (pa_cons (pv 3) (pa_cons (pv 3) (pa_cons (pe_lst (pa_cons pe_bl (pa_cons pe_bl pa_nil))) pa_nil))))))))) (pss_one (ps_ret pe_bl)) pss_nil)
      (pss_cons (ps_set (i := 6) sc_law.nd rfl (Or.inl rfl) (pe_lst (pa_cons (pe_c C__law_flipped hr (by omega) (by rfl) (pa_cons (pe_c C__law_sent hr (by omega) (by rfl) (pa_cons (pv 3) (pa_cons (pv 10) (pa_cons (pv 11) pa_nil)))) pa_nil)) (pa_cons (pe_c C__law_flipped hr (by omega) (by rfl) (pa_cons (pe_c C__law_sent hr (by omega) (by rfl) (pa_cons (pv 4) (pa_cons (pv 10) (pa_cons (pv 11) pa_nil)))) pa_nil)) pa_nil))))
      (pss_one (ps_if (PW.pt (pw_and (pt_val (pe_c C__law_is_poly hr (by omega) (by rfl) (pa_cons (pe_ix (show IxR _ (rIxL K) from ix_list) (pv 6) pe_int (fun _ _ => rfl)) pa_nil))) (pw_and (pt_val (pe_c C__law_is_poly hr (by omega) (by rfl) (pa_cons (pe_ix (show IxR _ (rIxL K) from ix_list) (pv 6) pe_int (fun _ _ => rfl)) pa_nil))) (pw_and1 (pt_not (pt_val (pe_c C__law_so hr (by omega) (by rfl) (pa_cons (pe_ix (show IxR _ (rIxL K) from ix_list) (pv 6) pe_int (fun _ _ => rfl)) (pa_cons (pe_ix (show IxR _ (rIxL K) from ix_list) (pv 6) pe_int (fun _ _ => rfl)) (pa_cons (pv 5) pa_nil)))))))))) (pss_one (ps_ret pe_bl)) pss_nil))))))))) pss_nil)))), fun B O y2 y3 y4 y5 y6 y7 y8 y9 y10 y11 hO => ?_⟩
  try dsimp only [lcx, cxOf, Cx.nox, Cx.blk]
  have se : ∀ {X : Xc} {δ : List Sd} {ta : TA} {Q : D → Prop} (ps : List Pr2) (i j : Int), ps.length ≤ 100 → WAx K B X ta δ (fun ds => ds = [.tup (ps.map Dl.pairD), .int i, .int j]) → Q (.tup ((ps.map (sentP i j)).map Dl.pairD)) → WEx K B X (tCall (SpD K (p3 fun d x y => ∃ (ps : List Pr2) (i j : Int), d = .tup (ps.map Dl.pairD) ∧ x = .int i ∧ y = .int j ∧ ps.length ≤ 100) fun ds r => ∃ (ps : List Pr2) (i j : Int), ds = [.tup (ps.map Dl.pairD), .int i, .int j] ∧ r = .tup ((ps.map (sentP i j)).map Dl.pairD)) [] E0 ta) δ Q := by
    intro X δ ta Q ps i j hl h hq
    refine we_call (wax_mono h fun ds e => ?_)
    subst e
    refine ⟨⟨ps, i, j, rfl, rfl, rfl, hl⟩, ?_⟩
    rintro _ ⟨ps', i', j', e, rfl⟩
    have e1 := prs_inj (D.tup.inj (List.cons.inj e).1)
    have e2 := D.int.inj (List.cons.inj (List.cons.inj e).2).1
    have e3 := D.int.inj (List.cons.inj (List.cons.inj (List.cons.inj e).2).2).1
    rw [← e1, ← e2, ← e3]
    exact hq
  refine ws_seq (ws_unt2 (we_call (wa_cons (we_var rfl (wa_nil ⟨rfl, ?_⟩)))))
  rintro _ ⟨ps0, qs0, rfl, hp0, hq0⟩
  refine ⟨_, _, rfl, ?_⟩
  try dsimp only [List.set]
  refine ws_seq (ws_par (wa_cons (se ps0 3 (-2) hp0 ?_ (wa_cons (se qs0 3 (-2) hq0 ?_ (wa_nil ⟨_, _, rfl, ?_⟩))))))
  · repeat walk_at "dl"
    rfl
  · repeat walk_at "dl"
    rfl
  try dsimp only [List.set]
  have lp : (ps0.map (sentP 3 (-2))).length ≤ 100 := by rw [List.length_map]; exact hp0
  have lq : (qs0.map (sentP 3 (-2))).length ≤ 100 := by rw [List.length_map]; exact hq0
  generalize ps0.map (sentP 3 (-2)) = ps at lp
  generalize qs0.map (sentP 3 (-2)) = qs at lq
  refine ws_if (wt_and (wt_B (we_callF (wa_cons (we_var rfl (wa_nil ⟨sm_pairs (by omega), _, rfl, ?_⟩))))))
  refine ite2 (fun h1 => ?_) (fun h1 => ws_next (hO _ _ _ _ _ _ _ _ _))
  refine wt_B (we_callF (wa_cons (we_var rfl (wa_nil ⟨sm_pairs (by omega), _, rfl, ?_⟩))))
  refine ite2 (fun h2 => ?_) (fun h2 => ws_next (hO _ _ _ _ _ _ _ _ _))
  obtain ⟨ps', e, hp3, hp6, hpb, hpp⟩ := isPoly_ex h1
  have e1 := prs_inj (D.tup.inj e)
  subst e1
  obtain ⟨qs', e, hq3, hq6, hqb, hqp⟩ := isPoly_ex h2
  have e1 := prs_inj (D.tup.inj e)
  subst e1
  have T : Two2 ps qs := ⟨hpp, hqp, hp3, hq3, hp6, hq6, hpb, hqb⟩
  have fp := few200 hp3 hp6 hpb
  have fq := few200 hq3 hq6 hqb
  have D1 := due_so hpp hqp hp3 hq3
  have so : ∀ {X : Xc} {δ : List Sd} {ta : TA} (P1 Q1 : List Pr2) (b c : Bool), WAx K B X ta δ (fun ds => ds = [.tup (P1.map Dl.pairD), .tup (Q1.map Dl.pairD), .lst [.bl b, .bl c]]) → Few 10000000 P1 → Few 10000000 Q1 → SoP P1 Q1 b c → WTx K B X (tNot (tB (tCall (SoSp K) [] E0 ta))) δ (fun c => c = false) := by
    intro X δ ta P1 Q1 b c h h1 h2 h3
    refine wt_not (wt_B (we_callF (wax_mono h fun ds e => ?_)))
    subst e
    exact ⟨⟨P1, Q1, b, c, rfl, rfl, rfl, h1, h2, h3⟩, true, rfl, rfl⟩
  have or2 : ∀ {X : Xc} {δ : List Sd} {tt tu : TT}, WTx K B X tt δ (fun c => c = false) → WTx K B X tu δ (fun c => c = false) → WTx K B X (tOr tt tu) δ (fun c => c = false) := by
    intro X δ tt tu a b
    refine wt_or (wt_mono a fun c e => ?_)
    subst e
    rw [if_neg Bool.false_ne_true]
    exact b
  have tk : ∀ {X : Xc} {δ : List Sd} {m : Nat} {Q : D → Prop}, δ[1]? = some (.val .box) → 0 < m → m ≤ 1000 → (∀ i : Int, 0 ≤ i → i < (m : Int) → Q (.int i)) → WEx K B X (tCall (SpD K takePre takePost) [] E0 (tCons (tVar 1) (tCons (tC (.int (m : Int))) tNil))) δ Q := by
    intro X δ m Q h0 h1 h2 h
    refine we_call (wa_cons (we_var h0 (wa_cons (we_int (wa_nil ⟨⟨rfl, m, rfl, by omega, by omega⟩, ?_⟩)))))
    rintro _ ⟨n, j, e, rfl, a1, a2⟩
    cases e
    exact h j a1 a2
  refine ws_seq (ws_set (we_lst (wa_cons (we_call (wa_cons (we_var rfl (wa_cons (we_var rfl (wa_nil ⟨⟨ps, qs, rfl, rfl, fp, fq⟩, ?_⟩)))))))))
  rintro _ ⟨ps', qs', e, rfl⟩
  have e1 := prs_inj (D.tup.inj (List.cons.inj e).1)
  have e2 := prs_inj (D.tup.inj (List.cons.inj (List.cons.inj e).2).1)
  subst e1 e2
  refine wa_cons (we_call (wa_cons (we_var rfl (wa_cons (we_var rfl (wa_nil ⟨⟨ps, qs, rfl, rfl, fp, fq⟩, ?_⟩))))))
  rintro _ ⟨ps', qs', e, rfl⟩
  have e1 := prs_inj (D.tup.inj (List.cons.inj e).1)
  have e2 := prs_inj (D.tup.inj (List.cons.inj (List.cons.inj e).2).1)
  subst e1 e2
  refine wa_nil ⟨by show 2 ≤ 1000; decide, ?_⟩
  rw [meet_ov T.p T.q]
  try dsimp only [List.set]
  refine ws_seq (ws_if (wt_mono (P := fun c => c = false) ?_ (fun c e => ?_)))
  · refine wt_or (wt_test (we_op (we_op (we_var rfl (we_int (ro_ixL rfl (we_call (wa_cons (we_var rfl (wa_cons (we_var rfl (wa_nil ⟨⟨ps, qs, rfl, rfl, fp, fq⟩, ?_⟩))))))))))))
    rintro _ ⟨ps', qs', e, rfl⟩
    have e1 := prs_inj (D.tup.inj (List.cons.inj e).1)
    have e2 := prs_inj (D.tup.inj (List.cons.inj (List.cons.inj e).2).1)
    subst e1 e2
    refine ro_neB (i := ovB ps qs) (j := ovB ps qs) ⟨_, rfl, ?_⟩
    rw [decide_eq_true rfl]
    refine iteF ?_
    refine wt_and (wt_B (we_op (we_var rfl (we_int (ro_ixL rfl ⟨_, rfl, ?_⟩)))))
    refine ite2 (fun h => ?_) (fun h => rfl)
    exact wt_B (we_op (we_var rfl (we_int (ro_ixL rfl ⟨_, rfl, hg_ov h⟩))))
  subst e
  refine iteF (ws_next ?_)
  refine ws_seq (ws_par (wa_cons (we_call (wa_cons (we_var rfl (wa_cons (we_cb (wa_cons (we_var rfl (wa_nil (rc_len (n := ps.length) (by show some (ps.map Dl.pairD).length = _; rw [List.length_map]) (by omega) (wa_nil ⟨⟨rfl, _, rfl, by omega, by omega⟩, ?_⟩))))))))))))
  rintro _ ⟨n, ki, e, rfl, k0, k1⟩
  cases e
  obtain ⟨k, rfl⟩ : ∃ m : Nat, ki = m := ⟨ki.toNat, by omega⟩
  refine wa_cons (we_call (wa_cons (we_var rfl (wa_cons (we_cb (wa_cons (we_var rfl (wa_nil (rc_len (n := qs.length) (by show some (qs.map Dl.pairD).length = _; rw [List.length_map]) (by omega) (wa_nil ⟨⟨rfl, _, rfl, by omega, by omega⟩, ?_⟩))))))))))
  rintro _ ⟨n, kj, e, rfl, j0, j1⟩
  cases e
  obtain ⟨j, rfl⟩ : ∃ m : Nat, kj = m := ⟨kj.toNat, by omega⟩
  refine wa_nil ⟨_, _, rfl, ?_⟩
  try dsimp only [List.set]
  have frot : ∀ (ts : List Pr2) (i : Nat), Few 10000000 ts → Few 10000000 (ts.drop i ++ ts.take i) := fun ts i h => by
    have hl : (ts.drop i ++ ts.take i).length = ts.length := by rw [List.length_append, List.length_drop, List.length_take]; omega
    refine ⟨by rw [hl]; exact h.1, by rw [hl]; exact h.2.1, fun p hp => ?_⟩
    rcases List.mem_append.mp hp with hp | hp
    · exact h.2.2 p (List.mem_of_mem_drop hp)
    · exact h.2.2 p (List.mem_of_mem_take hp)
  refine ws_seq (ws_if (wt_mono (P := fun c => c = false) (or2 (so ps qs (ovB ps qs) (hgB ps qs) ?_ fp fq ⟨rfl, D1.2.1, D1.2.2⟩) (so (ps.drop k ++ ps.take k) (qs.drop j ++ qs.take j) (ovB ps qs) (hgB ps qs) ?_ (frot ps k fp) (frot qs j fq) (so_sim T keep_id (sim_rot ps k (by omega)) (sim_rot qs j (by omega))))) (fun c e => ?_)))
  · exact wa_cons (we_var rfl (wa_cons (we_var rfl (wa_cons (we_var rfl (wa_nil rfl))))))
  · repeat walk_at "dl"
    refine rs_T ?_
    rw [cut_from (by omega)]
    repeat walk_at "dl"
    refine rs_T ?_
    rw [cut_to (by omega)]
    refine ro_catA (by rw [List.length_map, List.length_map, List.length_drop, List.length_take]; omega) ?_
    rw [← List.map_append]
    repeat walk_at "dl"
    refine rs_T ?_
    rw [cut_from (by omega)]
    repeat walk_at "dl"
    refine rs_T ?_
    rw [cut_to (by omega)]
    refine ro_catA (by rw [List.length_map, List.length_map, List.length_drop, List.length_take]; omega) ?_
    rw [← List.map_append]
    exact wa_cons (we_var rfl (wa_nil rfl))
  subst e
  refine iteF (ws_next ?_)
  refine ws_seq (ws_par3 (wa_cons (tk (m := 4) rfl (by decide) (by decide) fun t _ _ => wa_cons (we_op (tk (m := 61) rfl (by decide) (by decide) fun x hx0 hx1 => we_int (ro_int0 (wa_cons (we_op (tk (m := 61) rfl (by decide) (by decide) fun y hy0 hy1 => we_int (ro_int0 (wa_nil ⟨_, _, _, rfl, ?_⟩)))))))))))
  try dsimp only [List.set]
  have qu : ∀ {X : Xc} {δ : List Sd} {i : Nat} {ts : List Pr2} {Q : D → Prop}, δ[i]? = some (.val (.tup (ts.map Dl.pairD))) → δ[9]? = some (.val (.int t)) → ts.length ≤ 100 → Q (.tup ((qtN (t.fmod 4).toNat ts).map Dl.pairD)) → WEx K B X (tCall (SpD K (p2 fun d t => ∃ (ps : List Pr2) (j : Int), d = .tup (ps.map Dl.pairD) ∧ t = .int j ∧ ps.length ≤ 100) fun ds r => ∃ (ps : List Pr2) (j : Int), ds = [.tup (ps.map Dl.pairD), .int j] ∧ r = .tup ((qtN (j.fmod 4).toNat ps).map Dl.pairD)) [] E0 (tCons (tVar i) (tCons (tVar 9) tNil))) δ Q := by
    intro X δ i ts Q h1 h2 hl hq
    refine we_call (wa_cons (we_var h1 (wa_cons (we_var h2 (wa_nil ⟨⟨ts, t, rfl, rfl, hl⟩, ?_⟩)))))
    rintro _ ⟨ts', t', e, rfl⟩
    have e1 := prs_inj (D.tup.inj (List.cons.inj e).1)
    have e2 := D.int.inj (List.cons.inj (List.cons.inj e).2).1
    rw [← e1, ← e2]
    exact hq
  have fqt : ∀ (n : Nat) (ts : List Pr2), Few 10000000 ts → Few 10000000 (qtN n ts) := fun n ts h => by
    obtain ⟨l, u⟩ := qtN_few (m := 10000000) n (ps := ts)
    exact ⟨by rw [l]; exact h.1, by rw [l]; exact h.2.1, u h.2.2⟩
  obtain ⟨Gq, gq, kq, hq⟩ := qtN_sim (t.fmod 4).toNat
  refine ws_seq (ws_if (wt_mono (P := fun c => c = false) (or2 (so (qtN (t.fmod 4).toNat ps) (qtN (t.fmod 4).toNat qs) (ovB ps qs) (hgB ps qs) ?_ (fqt _ _ fp) (fqt _ _ fq) (so_sim T kq (hq ps) (hq qs))) (so ps ps true false ?_ fp fp (so_self T))) (fun c e => ?_)))
  · exact wa_cons (qu rfl rfl lp (wa_cons (qu rfl rfl lq (wa_cons (we_var rfl (wa_nil rfl))))))
  · exact wa_cons (we_var rfl (wa_cons (we_var rfl (wa_cons (we_lst (wa_cons (we_bl (wa_cons (we_bl (wa_nil ⟨by show 2 ≤ 1000; decide, wa_nil rfl⟩))))))))))
  subst e
  refine iteF (ws_next ?_)
  have fl : ∀ {X : Xc} {δ : List Sd} {te : TE} {Q : D → Prop} (ts : List Pr2), ts.length ≤ 100 → WEx K B X te δ (fun d => d = .tup (ts.map Dl.pairD)) → Q (.tup ((ts.map flipP).reverse.map Dl.pairD)) → WEx K B X (tCall (SpD K (polyPre 100) fun ds r => ∃ ps : List Pr2, ds = [.tup (ps.map Dl.pairD)] ∧ r = .tup ((ps.map flipP).reverse.map Dl.pairD)) [] E0 (tCons te tNil)) δ Q := by
    intro X δ te Q ts hl h hq
    refine we_call (wa_cons (wex_mono h fun d e => ?_))
    subst e
    refine wa_nil ⟨⟨ts, rfl, hl⟩, ?_⟩
    rintro _ ⟨ts', e, rfl⟩
    have e1 := prs_inj (D.tup.inj (List.cons.inj e).1)
    rw [← e1]
    exact hq
  let mv (ts : List Pr2) : List Pr2 := ((ts.map (sentP (x - 30) (y - 30))).map flipP).reverse
  have hmv : ∀ ts : List Pr2, (mv ts).length = ts.length := fun ts => by show (((ts.map _).map _).reverse).length = _; rw [List.length_reverse, List.length_map, List.length_map]
  have smv : ∀ ts, Sim (fun e => onR flipP (onE (sentP (x - 30) (y - 30)) e)) (fun p => flipP (sentP (x - 30) (y - 30) p)) ts (mv ts) := fun ts => sim_comp (sim_map _ ts) (sim_rev flipP _)
  have fmv : ∀ ts : List Pr2, 3 ≤ ts.length → ts.length ≤ 6 → (∀ p ∈ ts, Upto 200 p) → Few 10000000 (mv ts) := fun ts h3 h6 hb => by
    refine ⟨by rw [hmv]; exact h3, by rw [hmv]; omega, fun p hp => ?_⟩
    obtain ⟨z, hz, rfl⟩ := ((smv ts).c p).mp hp
    have := hb z hz
    unfold Upto flipP sentP at *
    dsimp only
    omega
  refine ws_seq (ws_set (we_lst (wa_cons (fl (ps.map (sentP (x - 30) (y - 30))) (by rw [List.length_map]; exact lp) (se ps (x - 30) (y - 30) lp ?_ rfl) (wa_cons (fl (qs.map (sentP (x - 30) (y - 30))) (by rw [List.length_map]; exact lq) (se qs (x - 30) (y - 30) lq ?_ rfl) (wa_nil ⟨by show 2 ≤ 1000; decide, ?_⟩)))))))
  · exact wa_cons (we_var rfl (wa_cons (we_var rfl (wa_cons (we_var rfl (wa_nil rfl))))))
  · exact wa_cons (we_var rfl (wa_cons (we_var rfl (wa_cons (we_var rfl (wa_nil rfl))))))
  try dsimp only [List.set]
  show WS K B _ [.no, .val .box, y2, .val (.tup (ps.map Dl.pairD)), .val (.tup (qs.map Dl.pairD)), .val (.lst [.bl (ovB ps qs), .bl (hgB ps qs)]), .val (.lst [.tup ((mv ps).map Dl.pairD), .tup ((mv qs).map Dl.pairD)]), .val (.int k), .val (.int j), .val (.int t), .val (.int (x - 30)), .val (.int (y - 30))] _
  have l1 := hmv ps
  have l2 := hmv qs
  have SO := so_sim T (keep_comp (keep_sent (x - 30) (y - 30)) keep_flip) (smv ps) (smv qs)
  have F1 := fmv ps hp3 hp6 hpb
  have F2 := fmv qs hq3 hq6 hqb
  generalize mv ps = mp at l1 SO F1
  generalize mv qs = mq at l2 SO F2
  refine ws_if (wt_and (wt_B (we_callF (wa_cons (we_op (we_var rfl (we_int (ro_ixL (d := .tup (mp.map Dl.pairD)) rfl (wa_nil ⟨sm_pairs (by omega), _, rfl, ?_⟩)))))))))
  refine ite2 (fun h1 => ?_) (fun h1 => ws_next (hO _ _ _ _ _ _ _ _ _))
  refine wt_and (wt_B (we_callF (wa_cons (we_op (we_var rfl (we_int (ro_ixL (d := .tup (mq.map Dl.pairD)) rfl (wa_nil ⟨sm_pairs (by omega), _, rfl, ?_⟩))))))))
  refine ite2 (fun h2 => ?_) (fun h2 => ws_next (hO _ _ _ _ _ _ _ _ _))
  refine wt_mono (so mp mq (ovB ps qs) (hgB ps qs) ?_ F1 F2 SO) (fun c e => ?_)
  · exact wa_cons (we_op (we_var rfl (we_int (ro_ixL rfl (wa_cons (we_op (we_var rfl (we_int (ro_ixL rfl (wa_cons (we_var rfl (wa_nil rfl))))))))))))
  subst e
  exact iteF (ws_next (hO _ _ _ _ _ _ _ _ _))

end
/-! #### Xs -/
section
variable {P : Program} {w : World} {K : PySem.W.Frag} {mg : Str → Option Value} {base : Heap}
/-! ### xl3 -/
theorem ok_law {f : Addr} {fd : FuncData} {k : Nat} (L : Law P w K mg base k) (F : Fun K "law" "law" s_law f fd) : FnOk P w K mg base CX0 (k + 1) f fd ["_law_script"] (spLaw K) := by
  refine F.ok sc_law (fun vs H Q E h => ?_) (fun cdv A outer s H vs Q E hr h => ?_)
  · obtain ⟨a, ns, rfl, _⟩ := h
    rfl
  obtain ⟨a, ns, rfl, hS, hl, q⟩ := h
  have G := L.G
  have C__law_box := L.bx
  have hr' : lroom k f cdv A s := hr
  obtain ⟨ta, hA, wA⟩ := piece_A L f cdv A outer s H E hr'
  obtain ⟨T2, h2, w2⟩ : ∃ T2, PSs (lcx P w K mg base f cdv A outer s H E) ((defBody s_law).drop 1) T2 ∧ ∀ B, WS K B T2 [.no, .val .box, .no, .no, .no, .no, .no, .no, .no, .no, .no, .no] { nx := fun _ => False, rt := fun r => r = .bl true } := by
    refine ⟨_, (pss_cons (ps_for PassesOwn.never rfl (pi_range1 rfl G.g_range (pa_cons pe_int pa_nil)) (pg_name (i := 2) sc_law.nd rfl (Or.inl rfl)) hA) (pss_one (ps_ret pe_bl))), fun B => ?_⟩
    try dsimp only [lcx, cxOf, Cx.nox, Cx.blk]
    refine ws_seq (ws_for (wi_range1 ?_))
    repeat walk_at "dl"
    refine ⟨by decide, by decide, fun _ δ1 => ∃ y2 y3 y4 y5 y6 y7 y8 y9 y10 y11, δ1 = [.no, .val .box, y2, y3, y4, y5, y6, y7, y8, y9, y10, y11], ⟨_, _, _, _, _, _, _, _, _, _, rfl⟩, ?_, ?_⟩
    · rintro t d δ1 _ ⟨y2, y3, y4, y5, y6, y7, y8, y9, y10, y11, rfl⟩
      try dsimp only [List.set]
      exact wA B _ _ _ _ _ _ _ _ _ _ _ fun _ _ _ _ _ _ _ _ _ => ⟨_, _, _, _, _, _, _, _, _, _, rfl⟩
    · rintro δ1 ⟨y2, y3, y4, y5, y6, y7, y8, y9, y10, y11, rfl⟩
      repeat walk_at "dl"
      rfl
  have hT : LamX.Tabs [] H := fun p hp => nomatch hp
  have key : ∃ t, PSs (lcx P w K mg base f cdv A outer s H E) (defBody s_law) t ∧ t { nx := fun _ H' => Q .non H', rt := Q } (start N_law [.ref a]) H := by
    refine ⟨_, pss_cons (ps_set (i := 1) sc_law.nd rfl (Or.inl rfl) (pe_c C__law_box hr (by omega) (by rfl) (pa_cons (pv 0) (pa_cons pe_int pa_nil)))) h2, ?_⟩
    refine ⟨_, rfl, ⟨a, ns, _, rfl, hS, hl, by decide, by decide, [], hT, fun B G1 H1 hB sm ok => ?_⟩⟩
    obtain ⟨Ba, BT⟩ := B
    refine w2 ⟨Ba, BT⟩ G1 H1 _ G1 H1 _ ⟨Go.refl, ok, rfl, fun i d e => ?_, fun i ds e => ?_, fun i j ds es x e1 => ?_⟩ xs0 (fun _ _ _ _ _ _ z => z.elim) ⟨fun v d G2 H2 _ _ hv e => ?_, fun _ _ _ _ _ _ _ _ _ _ _ _ z => z.elim⟩ (fun _ _ _ _ _ _ z => z.elim) (fun _ _ _ _ _ _ z => z.elim)
    · match i, e with
      | 0, e => cases e
      | 1, e => cases e; exact ⟨.ref Ba, rfl, .box⟩
      | 2, e => cases e
      | 3, e => cases e
      | 4, e => cases e
      | 5, e => cases e
      | 6, e => cases e
      | 7, e => cases e
      | 8, e => cases e
      | 9, e => cases e
      | 10, e => cases e
      | 11, e => cases e
      | n + 12, e => cases e
    · exact absurd e (by match i with
        | 0 => exact fun z => nomatch z
        | 1 => exact fun z => nomatch z
        | 2 => exact fun z => nomatch z
        | 3 => exact fun z => nomatch z
        | 4 => exact fun z => nomatch z
        | 5 => exact fun z => nomatch z
        | 6 => exact fun z => nomatch z
        | 7 => exact fun z => nomatch z
        | 8 => exact fun z => nomatch z
        | 9 => exact fun z => nomatch z
        | 10 => exact fun z => nomatch z
        | 11 => exact fun z => nomatch z
        | n + 12 => exact fun z => nomatch z)
    · exact absurd e1 (by match i with
        | 0 => exact fun z => nomatch z
        | 1 => exact fun z => nomatch z
        | 2 => exact fun z => nomatch z
        | 3 => exact fun z => nomatch z
        | 4 => exact fun z => nomatch z
        | 5 => exact fun z => nomatch z
        | 6 => exact fun z => nomatch z
        | 7 => exact fun z => nomatch z
        | 8 => exact fun z => nomatch z
        | 9 => exact fun z => nomatch z
        | 10 => exact fun z => nomatch z
        | 11 => exact fun z => nomatch z
        | n + 12 => exact fun z => nomatch z)
    · have e' : d = .bl true := e
      subst e'
      cases hv
      exact q H2
  obtain ⟨t, ht, hq⟩ := key
  exact ⟨t, ht, hq⟩

end
/-! #### Xt -/
section
variable {K : PySem.W.Frag} {h : Heap} {mg : Str → Option Value}
theorem df_mk {x : Str} {st : Stmt} {f : Addr} {oc : Value} {od an : Option Addr} {osl : Array (Option Value)} {kV doc pm cdv ct : Value} (X : K.In h) (G : h.Ns mainGlobals mg) (a : PySem.W.nsIn K mainGlobals x = some (some (.ref f)))
    (l : K.lookup f = some ⟨oc, od, .func (PySem.W.fnOf x x (defArgs st) (defBody st) (defScope st) .none kV doc pm an cdv ct), osl⟩) (c : PySem.W.codeIn K cdv x = true) (k : PySem.W.keepIn K (.ref f) = true) : Df K mg x st :=
  ⟨f, _, fun_mk (st := st) l c k, PySem.W.mg_of X G a⟩
theorem gi_mk {x : Str} {i : Int} {t : Tok} (X : K.In h) (G : h.Ns mainGlobals mg) (a : PySem.W.nsIn K mainGlobals x = some (some (.int i t))) : ∃ t, mg x = some (.int i t) := ⟨t, PySem.W.mg_of X G a⟩
theorem gs_mk {x z : Str} {t : Tok} (X : K.In h) (G : h.Ns mainGlobals mg) (a : PySem.W.nsIn K mainGlobals x = some (some (.str z t))) : ∃ t, mg x = some (.str z t) := ⟨t, PySem.W.mg_of X G a⟩
end
/-- what the top has written -/
structure Top (K : PySem.W.Frag) (mg : Str → Option Value) : Prop where
  gn : Gn mg
  d_cross : Df K mg "cross" s_cross
  d_minus : Df K mg "minus" s_minus
  d_dot : Df K mg "dot" s_dot
  d_bend : Df K mg "bend" s_bend
  d_edges : Df K mg "edges" s_edges
  d_overlap : Df K mg "overlap" s_overlap
  d_has_dividing_edge : Df K mg "has_dividing_edge" s_has_dividing_edge
  d_none_lies_left : Df K mg "none_lies_left" s_none_lies_left
  d_joined : Df K mg "joined" s_joined
  d_share_stretch : Df K mg "share_stretch" s_share_stretch
  d__law_box : Df K mg "_law_box" s__law_box
  d__law_take : Df K mg "_law_take" s__law_take
  d__law_pick : Df K mg "_law_pick" s__law_pick
  d__law_mixed : Df K mg "_law_mixed" s__law_mixed
  d__law_same : Df K mg "_law_same" s__law_same
  d__law_gcd : Df K mg "_law_gcd" s__law_gcd
  d__law_turn : Df K mg "_law_turn" s__law_turn
  d__law_is_whole : Df K mg "_law_is_whole" s__law_is_whole
  d__law_is_spot : Df K mg "_law_is_spot" s__law_is_spot
  d__law_edges : Df K mg "_law_edges" s__law_edges
  d__law_is_poly : Df K mg "_law_is_poly" s__law_is_poly
  d__law_over : Df K mg "_law_over" s__law_over
  d__law_share : Df K mg "_law_share" s__law_share
  d__law_hang : Df K mg "_law_hang" s__law_hang
  d__law_sent : Df K mg "_law_sent" s__law_sent
  d__law_quarter : Df K mg "_law_quarter" s__law_quarter
  d__law_flipped : Df K mg "_law_flipped" s__law_flipped
  d__law_rect : Df K mg "_law_rect" s__law_rect
  d__law_bowl : Df K mg "_law_bowl" s__law_bowl
  d__law_shape : Df K mg "_law_shape" s__law_shape
  d__law_hull : Df K mg "_law_hull" s__law_hull
  d__law_meet : Df K mg "_law_meet" s__law_meet
  d__law_beside : Df K mg "_law_beside" s__law_beside
  d__law_two : Df K mg "_law_two" s__law_two
  d__law_so : Df K mg "_law_so" s__law_so
theorem top_mk {K : PySem.W.Frag} {h : Heap} {mg : Str → Option Value} (X : K.In h) (G : h.Ns mainGlobals mg)
    {f0 : Addr} {oc0 kV0 dc0 pm0 cd0 ct0 : Value} {od0 an0 : Option Addr} {sl0 : Array (Option Value)}
    {f1 : Addr} {oc1 kV1 dc1 pm1 cd1 ct1 : Value} {od1 an1 : Option Addr} {sl1 : Array (Option Value)}
    {f2 : Addr} {oc2 kV2 dc2 pm2 cd2 ct2 : Value} {od2 an2 : Option Addr} {sl2 : Array (Option Value)}
    {f3 : Addr} {oc3 kV3 dc3 pm3 cd3 ct3 : Value} {od3 an3 : Option Addr} {sl3 : Array (Option Value)}
    {f4 : Addr} {oc4 kV4 dc4 pm4 cd4 ct4 : Value} {od4 an4 : Option Addr} {sl4 : Array (Option Value)}
    {f5 : Addr} {oc5 kV5 dc5 pm5 cd5 ct5 : Value} {od5 an5 : Option Addr} {sl5 : Array (Option Value)}
    {f6 : Addr} {oc6 kV6 dc6 pm6 cd6 ct6 : Value} {od6 an6 : Option Addr} {sl6 : Array (Option Value)}
    {f7 : Addr} {oc7 kV7 dc7 pm7 cd7 ct7 : Value} {od7 an7 : Option Addr} {sl7 : Array (Option Value)}
    {f8 : Addr} {oc8 kV8 dc8 pm8 cd8 ct8 : Value} {od8 an8 : Option Addr} {sl8 : Array (Option Value)}
    {f9 : Addr} {oc9 kV9 dc9 pm9 cd9 ct9 : Value} {od9 an9 : Option Addr} {sl9 : Array (Option Value)}
    {f10 : Addr} {oc10 kV10 dc10 pm10 cd10 ct10 : Value} {od10 an10 : Option Addr} {sl10 : Array (Option Value)}
    {f11 : Addr} {oc11 kV11 dc11 pm11 cd11 ct11 : Value} {od11 an11 : Option Addr} {sl11 : Array (Option Value)}
    {f12 : Addr} {oc12 kV12 dc12 pm12 cd12 ct12 : Value} {od12 an12 : Option Addr} {sl12 : Array (Option Value)}
    {f13 : Addr} {oc13 kV13 dc13 pm13 cd13 ct13 : Value} {od13 an13 : Option Addr} {sl13 : Array (Option Value)}
    {f14 : Addr} {oc14 kV14 dc14 pm14 cd14 ct14 : Value} {od14 an14 : Option Addr} {sl14 : Array (Option Value)}
    {f15 : Addr} {oc15 kV15 dc15 pm15 cd15 ct15 : Value} {od15 an15 : Option Addr} {sl15 : Array (Option Value)}
    {f16 : Addr} {oc16 kV16 dc16 pm16 cd16 ct16 : Value} {od16 an16 : Option Addr} {sl16 : Array (Option Value)}
    {f17 : Addr} {oc17 kV17 dc17 pm17 cd17 ct17 : Value} {od17 an17 : Option Addr} {sl17 : Array (Option Value)}
    {f18 : Addr} {oc18 kV18 dc18 pm18 cd18 ct18 : Value} {od18 an18 : Option Addr} {sl18 : Array (Option Value)}
    {f19 : Addr} {oc19 kV19 dc19 pm19 cd19 ct19 : Value} {od19 an19 : Option Addr} {sl19 : Array (Option Value)}
    {f20 : Addr} {oc20 kV20 dc20 pm20 cd20 ct20 : Value} {od20 an20 : Option Addr} {sl20 : Array (Option Value)}
    {f21 : Addr} {oc21 kV21 dc21 pm21 cd21 ct21 : Value} {od21 an21 : Option Addr} {sl21 : Array (Option Value)}
    {f22 : Addr} {oc22 kV22 dc22 pm22 cd22 ct22 : Value} {od22 an22 : Option Addr} {sl22 : Array (Option Value)}
    {f23 : Addr} {oc23 kV23 dc23 pm23 cd23 ct23 : Value} {od23 an23 : Option Addr} {sl23 : Array (Option Value)}
    {f24 : Addr} {oc24 kV24 dc24 pm24 cd24 ct24 : Value} {od24 an24 : Option Addr} {sl24 : Array (Option Value)}
    {f25 : Addr} {oc25 kV25 dc25 pm25 cd25 ct25 : Value} {od25 an25 : Option Addr} {sl25 : Array (Option Value)}
    {f26 : Addr} {oc26 kV26 dc26 pm26 cd26 ct26 : Value} {od26 an26 : Option Addr} {sl26 : Array (Option Value)}
    {f27 : Addr} {oc27 kV27 dc27 pm27 cd27 ct27 : Value} {od27 an27 : Option Addr} {sl27 : Array (Option Value)}
    {f28 : Addr} {oc28 kV28 dc28 pm28 cd28 ct28 : Value} {od28 an28 : Option Addr} {sl28 : Array (Option Value)}
    {f29 : Addr} {oc29 kV29 dc29 pm29 cd29 ct29 : Value} {od29 an29 : Option Addr} {sl29 : Array (Option Value)}
    {f30 : Addr} {oc30 kV30 dc30 pm30 cd30 ct30 : Value} {od30 an30 : Option Addr} {sl30 : Array (Option Value)}
    {f31 : Addr} {oc31 kV31 dc31 pm31 cd31 ct31 : Value} {od31 an31 : Option Addr} {sl31 : Array (Option Value)}
    {f32 : Addr} {oc32 kV32 dc32 pm32 cd32 ct32 : Value} {od32 an32 : Option Addr} {sl32 : Array (Option Value)}
    {f33 : Addr} {oc33 kV33 dc33 pm33 cd33 ct33 : Value} {od33 an33 : Option Addr} {sl33 : Array (Option Value)}
    {f34 : Addr} {oc34 kV34 dc34 pm34 cd34 ct34 : Value} {od34 an34 : Option Addr} {sl34 : Array (Option Value)}
    (a0 : PySem.W.nsIn K mainGlobals "cross" = some (some (.ref f0))) (l0 : K.lookup f0 = some ⟨oc0, od0, .func (PySem.W.fnOf "cross" "cross" (defArgs s_cross) (defBody s_cross) (defScope s_cross) .none kV0 dc0 pm0 an0 cd0 ct0), sl0⟩) (c0 : PySem.W.codeIn K cd0 "cross" = true) (k0 : PySem.W.keepIn K (.ref f0) = true)
    (a1 : PySem.W.nsIn K mainGlobals "minus" = some (some (.ref f1))) (l1 : K.lookup f1 = some ⟨oc1, od1, .func (PySem.W.fnOf "minus" "minus" (defArgs s_minus) (defBody s_minus) (defScope s_minus) .none kV1 dc1 pm1 an1 cd1 ct1), sl1⟩) (c1 : PySem.W.codeIn K cd1 "minus" = true) (k1 : PySem.W.keepIn K (.ref f1) = true)
    (a2 : PySem.W.nsIn K mainGlobals "dot" = some (some (.ref f2))) (l2 : K.lookup f2 = some ⟨oc2, od2, .func (PySem.W.fnOf "dot" "dot" (defArgs s_dot) (defBody s_dot) (defScope s_dot) .none kV2 dc2 pm2 an2 cd2 ct2), sl2⟩) (c2 : PySem.W.codeIn K cd2 "dot" = true) (k2 : PySem.W.keepIn K (.ref f2) = true)
    (a3 : PySem.W.nsIn K mainGlobals "bend" = some (some (.ref f3))) (l3 : K.lookup f3 = some ⟨oc3, od3, .func (PySem.W.fnOf "bend" "bend" (defArgs s_bend) (defBody s_bend) (defScope s_bend) .none kV3 dc3 pm3 an3 cd3 ct3), sl3⟩) (c3 : PySem.W.codeIn K cd3 "bend" = true) (k3 : PySem.W.keepIn K (.ref f3) = true)
    (a4 : PySem.W.nsIn K mainGlobals "edges" = some (some (.ref f4))) (l4 : K.lookup f4 = some ⟨oc4, od4, .func (PySem.W.fnOf "edges" "edges" (defArgs s_edges) (defBody s_edges) (defScope s_edges) .none kV4 dc4 pm4 an4 cd4 ct4), sl4⟩) (c4 : PySem.W.codeIn K cd4 "edges" = true) (k4 : PySem.W.keepIn K (.ref f4) = true)
    (a5 : PySem.W.nsIn K mainGlobals "overlap" = some (some (.ref f5))) (l5 : K.lookup f5 = some ⟨oc5, od5, .func (PySem.W.fnOf "overlap" "overlap" (defArgs s_overlap) (defBody s_overlap) (defScope s_overlap) .none kV5 dc5 pm5 an5 cd5 ct5), sl5⟩) (c5 : PySem.W.codeIn K cd5 "overlap" = true) (k5 : PySem.W.keepIn K (.ref f5) = true)
    (a6 : PySem.W.nsIn K mainGlobals "has_dividing_edge" = some (some (.ref f6))) (l6 : K.lookup f6 = some ⟨oc6, od6, .func (PySem.W.fnOf "has_dividing_edge" "has_dividing_edge" (defArgs s_has_dividing_edge) (defBody s_has_dividing_edge) (defScope s_has_dividing_edge) .none kV6 dc6 pm6 an6 cd6 ct6), sl6⟩) (c6 : PySem.W.codeIn K cd6 "has_dividing_edge" = true) (k6 : PySem.W.keepIn K (.ref f6) = true)
    (a7 : PySem.W.nsIn K mainGlobals "none_lies_left" = some (some (.ref f7))) (l7 : K.lookup f7 = some ⟨oc7, od7, .func (PySem.W.fnOf "none_lies_left" "none_lies_left" (defArgs s_none_lies_left) (defBody s_none_lies_left) (defScope s_none_lies_left) .none kV7 dc7 pm7 an7 cd7 ct7), sl7⟩) (c7 : PySem.W.codeIn K cd7 "none_lies_left" = true) (k7 : PySem.W.keepIn K (.ref f7) = true)
    (a8 : PySem.W.nsIn K mainGlobals "joined" = some (some (.ref f8))) (l8 : K.lookup f8 = some ⟨oc8, od8, .func (PySem.W.fnOf "joined" "joined" (defArgs s_joined) (defBody s_joined) (defScope s_joined) .none kV8 dc8 pm8 an8 cd8 ct8), sl8⟩) (c8 : PySem.W.codeIn K cd8 "joined" = true) (k8 : PySem.W.keepIn K (.ref f8) = true)
    (a9 : PySem.W.nsIn K mainGlobals "share_stretch" = some (some (.ref f9))) (l9 : K.lookup f9 = some ⟨oc9, od9, .func (PySem.W.fnOf "share_stretch" "share_stretch" (defArgs s_share_stretch) (defBody s_share_stretch) (defScope s_share_stretch) .none kV9 dc9 pm9 an9 cd9 ct9), sl9⟩) (c9 : PySem.W.codeIn K cd9 "share_stretch" = true) (k9 : PySem.W.keepIn K (.ref f9) = true)
    (a10 : PySem.W.nsIn K mainGlobals "_law_box" = some (some (.ref f10))) (l10 : K.lookup f10 = some ⟨oc10, od10, .func (PySem.W.fnOf "_law_box" "_law_box" (defArgs s__law_box) (defBody s__law_box) (defScope s__law_box) .none kV10 dc10 pm10 an10 cd10 ct10), sl10⟩) (c10 : PySem.W.codeIn K cd10 "_law_box" = true) (k10 : PySem.W.keepIn K (.ref f10) = true)
    (a11 : PySem.W.nsIn K mainGlobals "_law_take" = some (some (.ref f11))) (l11 : K.lookup f11 = some ⟨oc11, od11, .func (PySem.W.fnOf "_law_take" "_law_take" (defArgs s__law_take) (defBody s__law_take) (defScope s__law_take) .none kV11 dc11 pm11 an11 cd11 ct11), sl11⟩) (c11 : PySem.W.codeIn K cd11 "_law_take" = true) (k11 : PySem.W.keepIn K (.ref f11) = true)
    (a12 : PySem.W.nsIn K mainGlobals "_law_pick" = some (some (.ref f12))) (l12 : K.lookup f12 = some ⟨oc12, od12, .func (PySem.W.fnOf "_law_pick" "_law_pick" (defArgs s__law_pick) (defBody s__law_pick) (defScope s__law_pick) .none kV12 dc12 pm12 an12 cd12 ct12), sl12⟩) (c12 : PySem.W.codeIn K cd12 "_law_pick" = true) (k12 : PySem.W.keepIn K (.ref f12) = true)
    (a13 : PySem.W.nsIn K mainGlobals "_law_mixed" = some (some (.ref f13))) (l13 : K.lookup f13 = some ⟨oc13, od13, .func (PySem.W.fnOf "_law_mixed" "_law_mixed" (defArgs s__law_mixed) (defBody s__law_mixed) (defScope s__law_mixed) .none kV13 dc13 pm13 an13 cd13 ct13), sl13⟩) (c13 : PySem.W.codeIn K cd13 "_law_mixed" = true) (k13 : PySem.W.keepIn K (.ref f13) = true)
    (a14 : PySem.W.nsIn K mainGlobals "_law_same" = some (some (.ref f14))) (l14 : K.lookup f14 = some ⟨oc14, od14, .func (PySem.W.fnOf "_law_same" "_law_same" (defArgs s__law_same) (defBody s__law_same) (defScope s__law_same) .none kV14 dc14 pm14 an14 cd14 ct14), sl14⟩) (c14 : PySem.W.codeIn K cd14 "_law_same" = true) (k14 : PySem.W.keepIn K (.ref f14) = true)
    (a15 : PySem.W.nsIn K mainGlobals "_law_gcd" = some (some (.ref f15))) (l15 : K.lookup f15 = some ⟨oc15, od15, .func (PySem.W.fnOf "_law_gcd" "_law_gcd" (defArgs s__law_gcd) (defBody s__law_gcd) (defScope s__law_gcd) .none kV15 dc15 pm15 an15 cd15 ct15), sl15⟩) (c15 : PySem.W.codeIn K cd15 "_law_gcd" = true) (k15 : PySem.W.keepIn K (.ref f15) = true)
    (a16 : PySem.W.nsIn K mainGlobals "_law_turn" = some (some (.ref f16))) (l16 : K.lookup f16 = some ⟨oc16, od16, .func (PySem.W.fnOf "_law_turn" "_law_turn" (defArgs s__law_turn) (defBody s__law_turn) (defScope s__law_turn) .none kV16 dc16 pm16 an16 cd16 ct16), sl16⟩) (c16 : PySem.W.codeIn K cd16 "_law_turn" = true) (k16 : PySem.W.keepIn K (.ref f16) = true)
    (a17 : PySem.W.nsIn K mainGlobals "_law_is_whole" = some (some (.ref f17))) (l17 : K.lookup f17 = some ⟨oc17, od17, .func (PySem.W.fnOf "_law_is_whole" "_law_is_whole" (defArgs s__law_is_whole) (defBody s__law_is_whole) (defScope s__law_is_whole) .none kV17 dc17 pm17 an17 cd17 ct17), sl17⟩) (c17 : PySem.W.codeIn K cd17 "_law_is_whole" = true) (k17 : PySem.W.keepIn K (.ref f17) = true)
    (a18 : PySem.W.nsIn K mainGlobals "_law_is_spot" = some (some (.ref f18))) (l18 : K.lookup f18 = some ⟨oc18, od18, .func (PySem.W.fnOf "_law_is_spot" "_law_is_spot" (defArgs s__law_is_spot) (defBody s__law_is_spot) (defScope s__law_is_spot) .none kV18 dc18 pm18 an18 cd18 ct18), sl18⟩) (c18 : PySem.W.codeIn K cd18 "_law_is_spot" = true) (k18 : PySem.W.keepIn K (.ref f18) = true)
    (a19 : PySem.W.nsIn K mainGlobals "_law_edges" = some (some (.ref f19))) (l19 : K.lookup f19 = some ⟨oc19, od19, .func (PySem.W.fnOf "_law_edges" "_law_edges" (defArgs s__law_edges) (defBody s__law_edges) (defScope s__law_edges) .none kV19 dc19 pm19 an19 cd19 ct19), sl19⟩) (c19 : PySem.W.codeIn K cd19 "_law_edges" = true) (k19 : PySem.W.keepIn K (.ref f19) = true)
    (a20 : PySem.W.nsIn K mainGlobals "_law_is_poly" = some (some (.ref f20))) (l20 : K.lookup f20 = some ⟨oc20, od20, .func (PySem.W.fnOf "_law_is_poly" "_law_is_poly" (defArgs s__law_is_poly) (defBody s__law_is_poly) (defScope s__law_is_poly) .none kV20 dc20 pm20 an20 cd20 ct20), sl20⟩) (c20 : PySem.W.codeIn K cd20 "_law_is_poly" = true) (k20 : PySem.W.keepIn K (.ref f20) = true)
    (a21 : PySem.W.nsIn K mainGlobals "_law_over" = some (some (.ref f21))) (l21 : K.lookup f21 = some ⟨oc21, od21, .func (PySem.W.fnOf "_law_over" "_law_over" (defArgs s__law_over) (defBody s__law_over) (defScope s__law_over) .none kV21 dc21 pm21 an21 cd21 ct21), sl21⟩) (c21 : PySem.W.codeIn K cd21 "_law_over" = true) (k21 : PySem.W.keepIn K (.ref f21) = true)
    (a22 : PySem.W.nsIn K mainGlobals "_law_share" = some (some (.ref f22))) (l22 : K.lookup f22 = some ⟨oc22, od22, .func (PySem.W.fnOf "_law_share" "_law_share" (defArgs s__law_share) (defBody s__law_share) (defScope s__law_share) .none kV22 dc22 pm22 an22 cd22 ct22), sl22⟩) (c22 : PySem.W.codeIn K cd22 "_law_share" = true) (k22 : PySem.W.keepIn K (.ref f22) = true)
    (a23 : PySem.W.nsIn K mainGlobals "_law_hang" = some (some (.ref f23))) (l23 : K.lookup f23 = some ⟨oc23, od23, .func (PySem.W.fnOf "_law_hang" "_law_hang" (defArgs s__law_hang) (defBody s__law_hang) (defScope s__law_hang) .none kV23 dc23 pm23 an23 cd23 ct23), sl23⟩) (c23 : PySem.W.codeIn K cd23 "_law_hang" = true) (k23 : PySem.W.keepIn K (.ref f23) = true)
    (a24 : PySem.W.nsIn K mainGlobals "_law_sent" = some (some (.ref f24))) (l24 : K.lookup f24 = some ⟨oc24, od24, .func (PySem.W.fnOf "_law_sent" "_law_sent" (defArgs s__law_sent) (defBody s__law_sent) (defScope s__law_sent) .none kV24 dc24 pm24 an24 cd24 ct24), sl24⟩) (c24 : PySem.W.codeIn K cd24 "_law_sent" = true) (k24 : PySem.W.keepIn K (.ref f24) = true)
    (a25 : PySem.W.nsIn K mainGlobals "_law_quarter" = some (some (.ref f25))) (l25 : K.lookup f25 = some ⟨oc25, od25, .func (PySem.W.fnOf "_law_quarter" "_law_quarter" (defArgs s__law_quarter) (defBody s__law_quarter) (defScope s__law_quarter) .none kV25 dc25 pm25 an25 cd25 ct25), sl25⟩) (c25 : PySem.W.codeIn K cd25 "_law_quarter" = true) (k25 : PySem.W.keepIn K (.ref f25) = true)
    (a26 : PySem.W.nsIn K mainGlobals "_law_flipped" = some (some (.ref f26))) (l26 : K.lookup f26 = some ⟨oc26, od26, .func (PySem.W.fnOf "_law_flipped" "_law_flipped" (defArgs s__law_flipped) (defBody s__law_flipped) (defScope s__law_flipped) .none kV26 dc26 pm26 an26 cd26 ct26), sl26⟩) (c26 : PySem.W.codeIn K cd26 "_law_flipped" = true) (k26 : PySem.W.keepIn K (.ref f26) = true)
    (a27 : PySem.W.nsIn K mainGlobals "_law_rect" = some (some (.ref f27))) (l27 : K.lookup f27 = some ⟨oc27, od27, .func (PySem.W.fnOf "_law_rect" "_law_rect" (defArgs s__law_rect) (defBody s__law_rect) (defScope s__law_rect) .none kV27 dc27 pm27 an27 cd27 ct27), sl27⟩) (c27 : PySem.W.codeIn K cd27 "_law_rect" = true) (k27 : PySem.W.keepIn K (.ref f27) = true)
    (a28 : PySem.W.nsIn K mainGlobals "_law_bowl" = some (some (.ref f28))) (l28 : K.lookup f28 = some ⟨oc28, od28, .func (PySem.W.fnOf "_law_bowl" "_law_bowl" (defArgs s__law_bowl) (defBody s__law_bowl) (defScope s__law_bowl) .none kV28 dc28 pm28 an28 cd28 ct28), sl28⟩) (c28 : PySem.W.codeIn K cd28 "_law_bowl" = true) (k28 : PySem.W.keepIn K (.ref f28) = true)
    (a29 : PySem.W.nsIn K mainGlobals "_law_shape" = some (some (.ref f29))) (l29 : K.lookup f29 = some ⟨oc29, od29, .func (PySem.W.fnOf "_law_shape" "_law_shape" (defArgs s__law_shape) (defBody s__law_shape) (defScope s__law_shape) .none kV29 dc29 pm29 an29 cd29 ct29), sl29⟩) (c29 : PySem.W.codeIn K cd29 "_law_shape" = true) (k29 : PySem.W.keepIn K (.ref f29) = true)
    (a30 : PySem.W.nsIn K mainGlobals "_law_hull" = some (some (.ref f30))) (l30 : K.lookup f30 = some ⟨oc30, od30, .func (PySem.W.fnOf "_law_hull" "_law_hull" (defArgs s__law_hull) (defBody s__law_hull) (defScope s__law_hull) .none kV30 dc30 pm30 an30 cd30 ct30), sl30⟩) (c30 : PySem.W.codeIn K cd30 "_law_hull" = true) (k30 : PySem.W.keepIn K (.ref f30) = true)
    (a31 : PySem.W.nsIn K mainGlobals "_law_meet" = some (some (.ref f31))) (l31 : K.lookup f31 = some ⟨oc31, od31, .func (PySem.W.fnOf "_law_meet" "_law_meet" (defArgs s__law_meet) (defBody s__law_meet) (defScope s__law_meet) .none kV31 dc31 pm31 an31 cd31 ct31), sl31⟩) (c31 : PySem.W.codeIn K cd31 "_law_meet" = true) (k31 : PySem.W.keepIn K (.ref f31) = true)
    (a32 : PySem.W.nsIn K mainGlobals "_law_beside" = some (some (.ref f32))) (l32 : K.lookup f32 = some ⟨oc32, od32, .func (PySem.W.fnOf "_law_beside" "_law_beside" (defArgs s__law_beside) (defBody s__law_beside) (defScope s__law_beside) .none kV32 dc32 pm32 an32 cd32 ct32), sl32⟩) (c32 : PySem.W.codeIn K cd32 "_law_beside" = true) (k32 : PySem.W.keepIn K (.ref f32) = true)
    (a33 : PySem.W.nsIn K mainGlobals "_law_two" = some (some (.ref f33))) (l33 : K.lookup f33 = some ⟨oc33, od33, .func (PySem.W.fnOf "_law_two" "_law_two" (defArgs s__law_two) (defBody s__law_two) (defScope s__law_two) .none kV33 dc33 pm33 an33 cd33 ct33), sl33⟩) (c33 : PySem.W.codeIn K cd33 "_law_two" = true) (k33 : PySem.W.keepIn K (.ref f33) = true)
    (a34 : PySem.W.nsIn K mainGlobals "_law_so" = some (some (.ref f34))) (l34 : K.lookup f34 = some ⟨oc34, od34, .func (PySem.W.fnOf "_law_so" "_law_so" (defArgs s__law_so) (defBody s__law_so) (defScope s__law_so) .none kV34 dc34 pm34 an34 cd34 ct34), sl34⟩) (c34 : PySem.W.codeIn K cd34 "_law_so" = true) (k34 : PySem.W.keepIn K (.ref f34) = true)
    (z_isinstance : PySem.W.nsIn K mainGlobals "isinstance" = some none)
    (z_int : PySem.W.nsIn K mainGlobals "int" = some none)
    (z_bool : PySem.W.nsIn K mainGlobals "bool" = some none)
    (z_str : PySem.W.nsIn K mainGlobals "str" = some none)
    (z_tuple : PySem.W.nsIn K mainGlobals "tuple" = some none)
    (z_list : PySem.W.nsIn K mainGlobals "list" = some none)
    (z_dict : PySem.W.nsIn K mainGlobals "dict" = some none)
    (z_len : PySem.W.nsIn K mainGlobals "len" = some none)
    (z_abs : PySem.W.nsIn K mainGlobals "abs" = some none)
    (z_all : PySem.W.nsIn K mainGlobals "all" = some none)
    (z_any : PySem.W.nsIn K mainGlobals "any" = some none)
    (z_range : PySem.W.nsIn K mainGlobals "range" = some none)
    (z_min : PySem.W.nsIn K mainGlobals "min" = some none)
    (z_max : PySem.W.nsIn K mainGlobals "max" = some none)
    (z_sorted : PySem.W.nsIn K mainGlobals "sorted" = some none)
    (z_zip : PySem.W.nsIn K mainGlobals "zip" = some none) : Top K mg :=
  ⟨⟨PySem.W.mg_none_of X G z_isinstance, PySem.W.mg_none_of X G z_int, PySem.W.mg_none_of X G z_bool, PySem.W.mg_none_of X G z_str, PySem.W.mg_none_of X G z_tuple, PySem.W.mg_none_of X G z_list, PySem.W.mg_none_of X G z_dict, PySem.W.mg_none_of X G z_len, PySem.W.mg_none_of X G z_abs, PySem.W.mg_none_of X G z_all, PySem.W.mg_none_of X G z_any, PySem.W.mg_none_of X G z_range, PySem.W.mg_none_of X G z_min, PySem.W.mg_none_of X G z_max, PySem.W.mg_none_of X G z_sorted, PySem.W.mg_none_of X G z_zip⟩, df_mk X G a0 l0 c0 k0, df_mk X G a1 l1 c1 k1, df_mk X G a2 l2 c2 k2, df_mk X G a3 l3 c3 k3, df_mk X G a4 l4 c4 k4, df_mk X G a5 l5 c5 k5, df_mk X G a6 l6 c6 k6, df_mk X G a7 l7 c7 k7, df_mk X G a8 l8 c8 k8, df_mk X G a9 l9 c9 k9, df_mk X G a10 l10 c10 k10, df_mk X G a11 l11 c11 k11, df_mk X G a12 l12 c12 k12, df_mk X G a13 l13 c13 k13, df_mk X G a14 l14 c14 k14, df_mk X G a15 l15 c15 k15, df_mk X G a16 l16 c16 k16, df_mk X G a17 l17 c17 k17, df_mk X G a18 l18 c18 k18, df_mk X G a19 l19 c19 k19, df_mk X G a20 l20 c20 k20, df_mk X G a21 l21 c21 k21, df_mk X G a22 l22 c22 k22, df_mk X G a23 l23 c23 k23, df_mk X G a24 l24 c24 k24, df_mk X G a25 l25 c25 k25, df_mk X G a26 l26 c26 k26, df_mk X G a27 l27 c27 k27, df_mk X G a28 l28 c28 k28, df_mk X G a29 l29 c29 k29, df_mk X G a30 l30 c30 k30, df_mk X G a31 l31 c31 k31, df_mk X G a32 l32 c32 k32, df_mk X G a33 l33 c33 k33, df_mk X G a34 l34 c34 k34⟩
theorem all_law {P : Program} {w : World} {K : PySem.W.Frag} {mg : Str → Option Value} {base : Heap} {fa : Addr} {fd : FuncData} (T : Top K mg) (F : Fun K "law" "law" s_law fa fd) : FnOk P w K mg base CX0 9 fa fd ["_law_script"] (spLaw K) := by
  have G := T.gn
  have c_cr : ∀ n, ClCr P w K mg base (n + 1) := fun n => ok_cross T.d_cross
  have c_mi : ∀ n, ClMi P w K mg base (n + 1) := fun n => ok_minus T.d_minus
  have c_do : ∀ n, ClDo P w K mg base (n + 1) := fun n => ok_dot T.d_dot
  have c_bn : ∀ n, ClBn P w K mg base (n + 2) := fun n => ok_bend T.d_bend (c_cr n) (c_mi n)
  have c_ed : ∀ n, ClEd P w K mg base (n + 1) := fun n => ok_edges G T.d_edges
  have c_nl : ∀ n, ClNl P w K mg base (n + 3) := fun n => ok_none_lies_left G T.d_none_lies_left (c_bn n)
  have c_hd : ∀ n, ClHd P w K mg base (n + 4) := fun n => ok_has_dividing_edge G T.d_has_dividing_edge (c_ed (n + 2)) (c_nl n)
  have c_ol : ∀ n, ClOl P w K mg base (n + 5) := fun n => ok_overlap G T.d_overlap (c_hd n)
  have c_ss : ∀ n, ClSs P w K mg base (n + 3) := fun n => ok_share_stretch G T.d_share_stretch (c_bn n) (c_mi (n + 1)) (c_do (n + 1))
  have c_jo : ∀ n, ClJo P w K mg base (n + 6) := fun n => ok_joined G T.d_joined (c_ol n) (c_ed (n + 4)) (c_ss (n + 2))
  have c_wh : ∀ n, ClB P w K mg base (n + 1) "_law_is_whole" s__law_is_whole "_law_x" isNum := fun n => ok__law_is_whole G T.d__law_is_whole
  have c_gc : ∀ n, ClG P w K mg base (n + 1) := fun n => ok__law_gcd G T.d__law_gcd
  have c_sp : ∀ n, ClB P w K mg base (n + 2) "_law_is_spot" s__law_is_spot "_law_x" (isBnd 200) := fun n => ok__law_is_spot G T.d__law_is_spot (c_wh n)
  have c_tu : ∀ n, ClTu P w K mg base (n + 1) := fun n => ok__law_turn T.d__law_turn
  have c_po : ∀ n, ClB P w K mg base (n + 3) "_law_is_poly" s__law_is_poly "_law_x" isPoly := fun n => ok__law_is_poly G T.d__law_is_poly (c_sp n) (c_tu (n + 1))
  have c_tk : ∀ n, ClT P w K mg base (n + 1) := fun n => ok__law_take G T.d__law_take
  have c_pk : ∀ n, ClP P w K mg base (n + 2) := fun n => ok__law_pick G T.d__law_pick (c_tk n)
  have c_sm : ∀ n, ClS P w K mg base (n + 3 + 1) 3 := fun n => ok__law_same (k := n) G T.d__law_same 3
  have c_eg : ∀ n, ClEg P w K mg base (n + 1) := fun n => ok__law_edges G T.d__law_edges
  have c_ov : ∀ n, ClOv P w K mg base (n + 2) := fun n => ok__law_over G T.d__law_over (c_eg n) (c_tu n)
  have c_ls : ∀ n, ClLs P w K mg base (n + 2) := fun n => ok__law_share G T.d__law_share (c_tu n)
  have c_hg : ∀ n, ClHg P w K mg base (n + 3) := fun n => ok__law_hang G T.d__law_hang (c_ov n) (c_eg (n + 1)) (c_ls n)
  have c_me : ∀ n, ClMe P w K mg base (n + 2) := fun n => ok__law_meet G T.d__law_meet (c_eg n)
  have c_se : ∀ n, ClSe P w K mg base (n + 1) := fun n => ok__law_sent G T.d__law_sent
  have c_qu : ∀ n, ClQu P w K mg base (n + 1) := fun n => ok__law_quarter G T.d__law_quarter
  have c_q2 : ∀ n, ClQ2 P w K mg base (n + 1) := fun n => ok__law_quarter2 G T.d__law_quarter
  have c_fl : ∀ n, ClFl P w K mg base (n + 1) := fun n => ok__law_flipped G T.d__law_flipped
  have c_re : ∀ n, ClRe P w K mg base (n + 1) := fun n => ok__law_rect T.d__law_rect
  have c_mx : ∀ n, ClMf P w K mg base (n + 2) := fun n => mx_frz (ok__law_mixed G T.d__law_mixed (c_tk n))
  have c_bo : ∀ n, ClBo P w K mg base (n + 3) := fun n => ok__law_bowl G T.d__law_bowl (c_mx n) (c_pk n)
  have c_sh : ∀ n, ClSh P w K mg base (n + 4) := fun n => ok__law_shape G T.d__law_shape (c_tk (n + 2)) (c_bo n) (c_re (n + 2))
  have c_hu : ∀ n, ClHu P w K mg base (n + 1) := fun n => ok__law_hull G T.d__law_hull
  have c_bs : ∀ n, ClBs P w K mg base (n + 3) := fun n => ok__law_beside G T.d__law_beside (c_tk (n + 1)) (c_pk n) (c_eg (n + 1)) (c_gc (n + 1))
  have c_tw : ∀ n, ClTw P w K mg base (n + 5) := fun n => ok__law_two G T.d__law_two (c_tk (n + 3)) (c_pk (n + 2)) (c_sh n) (c_qu (n + 3)) (c_hu (n + 3)) (c_se (n + 3)) (c_bs (n + 1))
  have c_so : ∀ n, ClSo P w K mg base (n + 7) := fun n => ok__law_so G T.d__law_so (c_ol (n + 1)) (c_jo n)
    (ck_of (c_ol (n + 1)) (fun ws => ws.reverse) (fun _ _ _ _ _ _ ws hl => match ws, hl with | [_, _], _ => rfl) fun r => r.reverse)
    (ck_of (c_jo n) (fun ws => ws.reverse) (fun _ _ _ _ _ _ ws hl => match ws, hl with | [_, _], _ => rfl) fun r => r.reverse) (c_sm (n + 2))
  have c_bx : Cl P w K mg base 8 "_law_box" s__law_box ["_law_script", "_law_own"] (spBox K) := by
    obtain ⟨f, fd, F, hm⟩ := T.d__law_box.ex
    exact ⟨f, fd, F, ok__law_box (k := 7) G F, hm, F.binds fun _ _ _ _ _ _ us hl => match us, hl with | [_, _], _ => rfl⟩
  exact ok_law (k := 8) ⟨G, c_bx, c_tw 3, c_tk 7, c_se 7, c_po 5, c_me 6, c_hg 5, c_ov 6, c_so 1, c_q2 7, c_fl 7⟩ F
theorem all_mk {l : PySem.W.OpenLaw} {w : World} {K : PySem.W.Frag} {h : Heap} {mg : Str → Option Value} {fa f1 : Addr} (X : K.In h) (G : h.Ns mainGlobals mg) (hfa : mg "law" = some (.ref fa)) (T : Top K mg)
    {od1 an1 : Option Addr} {sl1 : Array (Option Value)} {oc1 kV1 dc1 pm1 cd1 ct1 : Value}
    (a1 : PySem.W.nsIn K mainGlobals "law" = some (some (.ref f1))) (l1 : K.lookup f1 = some ⟨oc1, od1, .func (PySem.W.fnOf "law" "law" (defArgs s_law) (defBody s_law) (defScope s_law) .none kV1 dc1 pm1 an1 cd1 ct1), sl1⟩) (c1 : PySem.W.codeIn K cd1 "law" = true) (k1 : PySem.W.keepIn K (.ref f1) = true) :
    ∃ fd : FuncData, (∀ (s : Shared) (v : Value), BindsTo s fd ⟨[v], []⟩ [("_law_script", v)]) ∧ ∀ base : Heap, K.In base → base.Ns mainGlobals mg → FnOk l.prog w K mg base CX0 9 fa fd ["_law_script"] (spLaw K) := by
  have e := hfa.symm.trans (PySem.W.mg_of X G a1)
  cases e
  exact ⟨PySem.W.fnOf "law" "law" (defArgs s_law) (defBody s_law) (defScope s_law) .none kV1 dc1 pm1 an1 cd1 ct1, fun s v => .of_eq rfl, fun base _ _ => all_law T (fun_mk (st := s_law) l1 c1 k1)⟩
end K04
open PySem PySem.W PyProof.Rows
set_option maxRecDepth 100000 in
set_option maxHeartbeats 0 in
theorem PySem.Challenge.cw_stucklots_k04_whole_parts_apart_or_over_holds : PySem.Challenge.rw_stucklots_k04_whole_parts_apart_or_over.Holds := by
  w_on; o_law; k_head; (case hw => w_witness2)
  k_fill
  refine L2.walk_of (l := PySem.Challenge.rw_stucklots_k04_whole_parts_apart_or_over) (n := 63) (k := 9) (x := "_law_script") (CX := fun _ => L2.CX0) (sp := fun w => K04.spLaw _) rfl (by decide) rfl ⟨rfl, by decide, by decide⟩ (fun w h Y => PySem.W.kIn_of Y) ?F (fun _ _ a ns hl _ hS => ⟨a, ns, rfl, hS, hl, fun _ => rfl⟩) (fun _ _ _ _ _ h => h)
  case F =>
    intro w mg fa h KX G hmg
    refine' K04.all_mk KX G hmg (K04.top_mk KX G ?a0 ?l0 ?c0 ?k0 ?a1 ?l1 ?c1 ?k1 ?a2 ?l2 ?c2 ?k2 ?a3 ?l3 ?c3 ?k3 ?a4 ?l4 ?c4 ?k4 ?a5 ?l5 ?c5 ?k5 ?a6 ?l6 ?c6 ?k6 ?a7 ?l7 ?c7 ?k7 ?a8 ?l8 ?c8 ?k8 ?a9 ?l9 ?c9 ?k9 ?a10 ?l10 ?c10 ?k10 ?a11 ?l11 ?c11 ?k11 ?a12 ?l12 ?c12 ?k12 ?a13 ?l13 ?c13 ?k13 ?a14 ?l14 ?c14 ?k14 ?a15 ?l15 ?c15 ?k15 ?a16 ?l16 ?c16 ?k16 ?a17 ?l17 ?c17 ?k17 ?a18 ?l18 ?c18 ?k18 ?a19 ?l19 ?c19 ?k19 ?a20 ?l20 ?c20 ?k20 ?a21 ?l21 ?c21 ?k21 ?a22 ?l22 ?c22 ?k22 ?a23 ?l23 ?c23 ?k23 ?a24 ?l24 ?c24 ?k24 ?a25 ?l25 ?c25 ?k25 ?a26 ?l26 ?c26 ?k26 ?a27 ?l27 ?c27 ?k27 ?a28 ?l28 ?c28 ?k28 ?a29 ?l29 ?c29 ?k29 ?a30 ?l30 ?c30 ?k30 ?a31 ?l31 ?c31 ?k31 ?a32 ?l32 ?c32 ?k32 ?a33 ?l33 ?c33 ?k33 ?a34 ?l34 ?c34 ?k34 ?z_isinstance ?z_int ?z_bool ?z_str ?z_tuple ?z_list ?z_dict ?z_len ?z_abs ?z_all ?z_any ?z_range ?z_min ?z_max ?z_sorted ?z_zip) ?la ?ll ?lc ?lk
    (case a0 => k_is)
    (case l0 => k_is)
    (case c0 => k_is)
    (case k0 => k_is)
    (case a1 => k_is)
    (case l1 => k_is)
    (case c1 => k_is)
    (case k1 => k_is)
    (case a2 => k_is)
    (case l2 => k_is)
    (case c2 => k_is)
    (case k2 => k_is)
    (case a3 => k_is)
    (case l3 => k_is)
    (case c3 => k_is)
    (case k3 => k_is)
    (case a4 => k_is)
    (case l4 => k_is)
    (case c4 => k_is)
    (case k4 => k_is)
    (case a5 => k_is)
    (case l5 => k_is)
    (case c5 => k_is)
    (case k5 => k_is)
    (case a6 => k_is)
    (case l6 => k_is)
    (case c6 => k_is)
    (case k6 => k_is)
    (case a7 => k_is)
    (case l7 => k_is)
    (case c7 => k_is)
    (case k7 => k_is)
    (case a8 => k_is)
    (case l8 => k_is)
    (case c8 => k_is)
    (case k8 => k_is)
    (case a9 => k_is)
    (case l9 => k_is)
    (case c9 => k_is)
    (case k9 => k_is)
    (case a10 => k_is)
    (case l10 => k_is)
    (case c10 => k_is)
    (case k10 => k_is)
    (case a11 => k_is)
    (case l11 => k_is)
    (case c11 => k_is)
    (case k11 => k_is)
    (case a12 => k_is)
    (case l12 => k_is)
    (case c12 => k_is)
    (case k12 => k_is)
    (case a13 => k_is)
    (case l13 => k_is)
    (case c13 => k_is)
    (case k13 => k_is)
    (case a14 => k_is)
    (case l14 => k_is)
    (case c14 => k_is)
    (case k14 => k_is)
    (case a15 => k_is)
    (case l15 => k_is)
    (case c15 => k_is)
    (case k15 => k_is)
    (case a16 => k_is)
    (case l16 => k_is)
    (case c16 => k_is)
    (case k16 => k_is)
    (case a17 => k_is)
    (case l17 => k_is)
    (case c17 => k_is)
    (case k17 => k_is)
    (case a18 => k_is)
    (case l18 => k_is)
    (case c18 => k_is)
    (case k18 => k_is)
    (case a19 => k_is)
    (case l19 => k_is)
    (case c19 => k_is)
    (case k19 => k_is)
    (case a20 => k_is)
    (case l20 => k_is)
    (case c20 => k_is)
    (case k20 => k_is)
    (case a21 => k_is)
    (case l21 => k_is)
    (case c21 => k_is)
    (case k21 => k_is)
    (case a22 => k_is)
    (case l22 => k_is)
    (case c22 => k_is)
    (case k22 => k_is)
    (case a23 => k_is)
    (case l23 => k_is)
    (case c23 => k_is)
    (case k23 => k_is)
    (case a24 => k_is)
    (case l24 => k_is)
    (case c24 => k_is)
    (case k24 => k_is)
    (case a25 => k_is)
    (case l25 => k_is)
    (case c25 => k_is)
    (case k25 => k_is)
    (case a26 => k_is)
    (case l26 => k_is)
    (case c26 => k_is)
    (case k26 => k_is)
    (case a27 => k_is)
    (case l27 => k_is)
    (case c27 => k_is)
    (case k27 => k_is)
    (case a28 => k_is)
    (case l28 => k_is)
    (case c28 => k_is)
    (case k28 => k_is)
    (case a29 => k_is)
    (case l29 => k_is)
    (case c29 => k_is)
    (case k29 => k_is)
    (case a30 => k_is)
    (case l30 => k_is)
    (case c30 => k_is)
    (case k30 => k_is)
    (case a31 => k_is)
    (case l31 => k_is)
    (case c31 => k_is)
    (case k31 => k_is)
    (case a32 => k_is)
    (case l32 => k_is)
    (case c32 => k_is)
    (case k32 => k_is)
    (case a33 => k_is)
    (case l33 => k_is)
    (case c33 => k_is)
    (case k33 => k_is)
    (case a34 => k_is)
    (case l34 => k_is)
    (case c34 => k_is)
    (case k34 => k_is)
    (case z_isinstance => k_is)
    (case z_int => k_is)
    (case z_bool => k_is)
    (case z_str => k_is)
    (case z_tuple => k_is)
    (case z_list => k_is)
    (case z_dict => k_is)
    (case z_len => k_is)
    (case z_abs => k_is)
    (case z_all => k_is)
    (case z_any => k_is)
    (case z_range => k_is)
    (case z_min => k_is)
    (case z_max => k_is)
    (case z_sorted => k_is)
    (case z_zip => k_is)
    (case la => k_is)
    (case ll => k_is)
    (case lc => k_is)
    (case lk => k_is)
